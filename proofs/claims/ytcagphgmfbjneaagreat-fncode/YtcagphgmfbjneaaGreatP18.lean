import Derived.Test.YtcagphgmfbjneaaGreatP16
namespace Go.Proofs.Z
variable{Zp:Prop}
open Tryz Go.RowKit Flt
set_option maxRecDepth 1000000
set_option maxHeartbeats 0
section
attribute[local go_sem] eE eD eC
variable{w:World}{U aa J:Option Addr}{m1 af m3 ah base cap bD:Nat}{vs:List Vl}{o a5 bj X bz d i:Int}{R R':Option Nat}{c0 c1 c2 c5 cd ce b2 bp bY cC b6 co cu cq cg cl cn:Value}
theorem MW{W}(Y:V (MS w W U m1 af aa m3 ah vs ⟨o,a5,bj,X,bz,bD⟩ base R R' J cap))(bM:vs.length<=900000):PfC 6 W (MpR w U m1 af aa m3 ah vs ⟨o,a5,bj,X,bz,bD⟩ base R (eJ 6 a5 d 0 0)) c0 c1 c2 (h1 d) (hZ w.heap.size) c5 cd ce b2 bp bY (hZ (w.heap.size+1+1)) (h1 a5) cC co cu cq cg cl cn bp bY:=by
 unfold PfC;intros;rename_i HK;have bf:V (∀ax,Kept 0 0 W ax->_):=λax k=>MS.call Y.o k (eJ 6 a5 d 0 0) xaa;exact xae
theorem NW{W}(Y:V (MS w W U m1 af aa m3 ah vs ⟨o,a5,bj,X,bz,bD⟩ base R R' J cap))(bM:vs.length<=900000):PfC 10 W (MpR w U m1 af aa m3 ah vs ⟨o,a5,bj,X,bz,bD⟩ base R (eJ 5 a5 d X 0)) c0 c1 c2 (h1 d) (hZ w.heap.size) c5 cd ce b2 bp bY (hZ (w.heap.size+1+1)) (h1 a5) cC co cu cq cg cl cn bp bY:=by
 unfold PfC;intros;rename_i HK;have bf:V (∀ax,Kept 0 0 W ax->_):=λax k=>MS.call Y.o k (eJ 5 a5 d X 0) xaa;have aY:=Y.o.g.c0;have ar:=Y.o.g.c1;have aW:=Y.o.g.c2;exact xao
theorem NX{W}(Y:V (MS w W U m1 af aa m3 ah vs ⟨o,a5,bj,X,bz,bD⟩ base R R' J cap))(bM:vs.length<=900000):PfC 32 W (MpR w U m1 af aa m3 ah vs ⟨o,a5,bj,X,bz,bD⟩ base R (eJ 9 1 d 0 0)) c0 c1 c2 (h1 d) (hZ w.heap.size) c5 cd ce b2 bp bY (hZ (w.heap.size+1+1)) b6 cC co cu cq cg cl cn bp bY:=by
 unfold PfC;intros;rename_i HK;have bf:V (∀ax,Kept 0 0 W ax->_):=λax k=>MS.call Y.o k (eJ 9 1 d 0 0) xaa;exact xae
theorem NZ{W}(Y:V (MS w W U m1 af aa m3 ah vs ⟨o,a5,bj,X,bz,bD⟩ base R R' J cap))(bM:vs.length<=900000):PfC 12 W (MpR w U m1 af aa m3 ah vs ⟨o,a5,bj,X,bz,bD⟩ base R (eJ 4 a5 d i 0)) c0 (h1 i) c2 (h1 d) (hZ w.heap.size) c5 cd ce b2 bp bY (hZ (w.heap.size+1+1)) (h1 a5) cC co cu cq cg cl cn bp bY:=by
 exact no_implicit_lambda% xbs
theorem N0{W}(Y:V (MS w W U m1 af aa m3 ah vs ⟨o,a5,bj,X,bz,bD⟩ base R R' J cap))(bM:vs.length<=900000):PfC 37 W (MpR w U m1 af aa m3 ah vs ⟨o,a5,bj,X,bz,bD⟩ base R (eJ 4 a5 d i 0)) c0 (h1 i) c2 (h1 d) (hZ w.heap.size) c5 cd ce b2 bp bY (hZ (w.heap.size+1+1)) (h1 a5) cC co cu cq cg cl cn bp bY:=by
 exact no_implicit_lambda% xbs
theorem kB{W N c3 bU}(Y:V (MS w W U m1 af aa m3 ah vs ⟨o,a5,bj,X,bz,bD⟩ base R R' J cap))(bM:vs.length<=900000)(bI:(vs.length:Int)-1=N):PfC 38 W (λH=>H.cell? ⟨w.heap.size+1,0,none⟩=some (.slice U m1 af)/\H.cell? ⟨w.heap.size+1,1,none⟩=some (.slice J vs.length cap)/\H.cell? ⟨w.heap.size+1,2,none⟩=some (.slice aa m3 ah)/\V (∃aU,Kept 0 0 W aU/\H=fg aU (w.heap.size+1) (.slice U m1 af) (.slice J vs.length cap) (.slice aa m3 ah))) c0 c1 c2 c3 (hZ w.heap.size) c5 cd ce (hZ (w.heap.size+1)) bp bY bU b6 cC co cu cq cg cl cn (h1 N) (.bool true):=by
 unfold PfC;intros;rename_i HK;have aY:=Y.o.g.c0;have ar:=Y.o.g.c1;have aW:=Y.o.g.c2;obtain⟨_,bl,aS,a9,bF,bB,bG⟩:=Y.o.b;have b:V _:=λW=>iY W U J aa m1 af vs.length cap m3 ah xaa;rw[bI]at b;clear bI;conv=>arg 2;whnf
 go_region_with (first
  |(go_at_call 85;refine yaj (b.o _) ?_;rintro e aU ⟨rfl,aZ⟩;clear bl aS a9 bF bB bG;obtain⟨⟨_,_,aP,ay,aB,_,_,_,_⟩,⟨_,bl,aS,a9,bF,bB,bG⟩,_,_,_,_,_⟩:=MS.keep Y.o ((eF W).trans aZ)))
 all_goals
  obtain⟨bh,aJ,y2⟩:=fd _ _ _ _ _ bl aS a9 (.slice U m1 af) (.slice J vs.length cap) (.slice aa m3 ah)
  exact HK _ ⟨bh,aJ,y2,⟨_,(eF W).trans aZ,rfl⟩⟩
variable{w:World}{U aa:Option Addr}{m1 af cap m3 ah base a0 i j aj:Nat}{vs:List Vl}{a5 bj X bz S d br:Int}{bD:Nat}
theorem N1(ad:MvH w cap base a0 i vs ⟨2,a5,bj,X,bz,bD⟩):PtC w U aa m1 af cap m3 ah base a0 i vs (aj:Int) d ([],d) true:=by
 exact xce
theorem Kg(ad:MvH w cap base a0 i vs ⟨3,a5,bj,X,bz,bD⟩):PtC w U aa m1 af cap m3 ah base a0 i vs 0 d ([],d) true:=by
 exact xce
theorem Kh(ad:MvH w cap base a0 i vs ⟨3,a5,bj,X,bz,bD⟩):PtC w U aa m1 af cap m3 ah base a0 i vs 1 d ([eJ 6 a5 d 0 0],((vs.length:Nat):Int)) true:=by
 exact no_implicit_lambda% xcc
theorem N2(ad:MvH w cap base a0 i vs ⟨6,a5,bj,X,bz,bD⟩):PtC w U aa m1 af cap m3 ah base a0 i vs 0 d ([eJ 6 a5 d 0 0],((vs.length:Nat):Int)) true:=by
 exact no_implicit_lambda% xcc
theorem Ki(ad:MvH w cap base a0 i vs ⟨8,a5,bj,X,bz,bD⟩):PtC w U aa m1 af cap m3 ah base a0 i vs 0 d ([],0) false:=by
 exact xce
end
section
def ptM(i:Int)(v:Vl)(la:Int)(k:Nat)(d:Int)(N:Nat):List Vl×Int:=if pG v k=true then nD i v la k d N else ([],0)
end
section
attribute[local go_sem] eE eD eC
theorem P7{w W U aa m1 af m3 ah base cap vs o a5 bj X bz bD R R' J d br aj c0 c1 c5 cd ce b2 bp bY cC co cu cq cg cl cn}(Y:V (MS w W U m1 af aa m3 ah vs ⟨o,a5,bj,X,bz,bD⟩ base R R' J cap))(bM:vs.length<=900000)(bA:aj<2)(b0:fld ⟨o,a5,bj,X,bz,bD⟩ (1-aj)=br):PfC 8 W (MpR w U m1 af aa m3 ah vs ⟨o,a5,bj,X,bz,bD⟩ base R (eJ 4 a5 d br 0)) c0 c1 (h1 aj) (h1 d) (hZ w.heap.size) c5 cd ce b2 bp bY (hZ (w.heap.size+1+1)) (h1 a5) cC co cu cq cg cl cn bp bY:=by
 unfold PfC;intros;rename_i HK;have bf:V (∀ax,Kept 0 0 W ax->_):=λax k=>MS.call Y.o k (eJ 4 a5 d br 0) xaa;have aY:=Y.o.g.c0;have ar:=Y.o.g.c1;have aW:=Y.o.g.c2;have aw:=Y.o.v.c0;have ba:=Y.o.v.c1;have bb:=Y.o.v.c2;have bc:=Y.o.v.c3;have bo:=Y.o.v.c4;have aF:=Y.o.v.c5;have cP:V (∀W,Calls _ _ _ W λe B=>e=.returned (.int _ br)/\Kept 0 0 W _):=λW=>by rw[<-b0];exact nz W _ _ xaa
 have b:(1-aj:Nat)=1-(aj:Int):=xaa;rw[b]at cP;have e3:IntKind.i64.wrap (1-aj)=1-aj:=by rw[IntKind.wrap_i64];omega
 clear b0 b;conv=>arg 2;whnf
 go_region_with (first
  |(go_at_call 78;refine yaj (bf.o _ (((eF W).trans a).trans an)) ?_;rintro e am ⟨aC,cap',rfl,⟨u0,bq⟩,⟨u1,aq⟩,⟨u2,aT⟩,ak,_,aG⟩;have bR:=ak 0;have bS:=ak 1;have bT:=ak 2;clear ak)
  |(go_at_call 102;refine yaj (cP.o _) ?_;rintro e hh ⟨rfl,a⟩;have bQ:=(MS.keep Y.o ((eF W).trans a)).g.c0;have b6:=(MS.keep Y.o ((eF W).trans a)).g.c1;have cf:=(MS.keep Y.o ((eF W).trans a)).g.c2)
  |(go_at_call 79;refine yaj (gG _ _ _ _ _ _) ?_;rintro e aH ⟨rfl,an⟩;have bH:=(MS.keep Y.o (((eF W).trans a).trans an)).g.c0;have bk:=(MS.keep Y.o (((eF W).trans a).trans an)).g.c1;have p2:=(MS.keep Y.o (((eF W).trans a).trans an)).g.c2))
 all_goals exact HK _ ⟨_,_,_,⟨rfl,by simp⟩,by simp,aG⟩
variable{w:World}{U aa:Option Addr}{m1 af cap m3 ah base a0 i j aj:Nat}{vs:List Vl}{a5 bj X bz S d br:Int}{bD:Nat}
theorem T.qau(h:Zp:=by
 unfold PtC;have aD:V _:=b0;clear b0;go_enter func139,ntmps139;go_wp2_with fail;rw[a7.o];clear aw ba bb bc bo aF a7;refine fh (P7 Y xaa bA aD.o ?_);exact no_implicit_lambda% xah):Zp:=h
open T in
theorem N3(ad:MvH w cap base a0 i vs ⟨4,a5,bj,X,bz,bD⟩)(bA:aj<2)(b0:fld ⟨4,a5,bj,X,bz,bD⟩ (1-aj)=br):PtC w U aa m1 af cap m3 ah base a0 i vs (aj:Int) d ([eJ 4 a5 d br 0],((vs.length:Nat):Int)) true:=by
 exact qat
theorem w.qaj(h:Zp:=by
 refine fh (NW Y xaa ?_);exact no_implicit_lambda% xah):Zp:=h
open w in
theorem Kj(ad:MvH w cap base a0 i vs ⟨5,a5,bj,X,bz,bD⟩):PtC w U aa m1 af cap m3 ah base a0 i vs 0 d ([eJ 5 a5 d X 0],((vs.length:Nat):Int)) true:=by
 exact qai
theorem x.qaj(h:Zp:=by
 refine fh (N0 Y xaa ?_);exact no_implicit_lambda% xah):Zp:=h
open x in
theorem N4(ad:MvH w cap base a0 i vs ⟨13,a5,bj,X,bz,bD⟩):PtC w U aa m1 af cap m3 ah base a0 i vs 0 d ([eJ 4 a5 d (i:Int) 0],((vs.length:Nat):Int)) true:=by
 exact qai
