import Derived.Test.YtcagphgmfbjneaaGreatP18
import Derived.Test.YtcagphgmfbjneaaGreatP17
namespace Go.Proofs.Z
variable{Zp:Prop}
open Tryz
set_option maxRecDepth 1000000
set_option maxHeartbeats 0
open Go.RowKit Flt
attribute[local go_sem] eE eD eC
variable{U aa J:Option Addr}{m1 af m3 ah base cap bD:Nat}{vs:List Vl}{o a5 bj X bz N:Int}{R R':Option Nat}{c0 c1 c2 c3 c5 cd ce b2 bp bY cC co cu cq cg cl cn:Value}
theorem N6{w W}(Y:V (MS w W U m1 af aa m3 ah vs ⟨o,a5,bj,X,bz,bD⟩ base R R' J cap))(bM:vs.length<=900000)(bI:(vs.length:Int)-1=N):PfC 13 W (MpR w U m1 af aa m3 ah vs ⟨o,a5,bj,X,bz,bD⟩ base R (eJ 5 a5 N X 0)) c0 c1 c2 c3 (hZ w.heap.size) c5 cd ce b2 bp bY (hZ (w.heap.size+1+1)) (h1 a5) cC co cu cq cg cl cn bp bY:=by
 unfold PfC;exact xay
theorem N7{w W}(Y:V (MS w W U m1 af aa m3 ah vs ⟨o,a5,bj,X,bz,bD⟩ base R R' J cap))(bM:vs.length<=900000)(bI:(vs.length:Int)-1=N):PfC 14 W (MpR w U m1 af aa m3 ah vs ⟨o,a5,bj,X,bz,bD⟩ base R (eJ 6 a5 N 0 0)) c0 c1 c2 c3 (hZ w.heap.size) c5 cd ce b2 bp bY (hZ (w.heap.size+1+1)) (h1 a5) cC co cu cq cg cl cn bp bY:=by
 unfold PfC;intros;rename_i HK;have bf:V (∀ax,Kept 0 0 W ax->_):=λax k=>MS.call Y.o k (eJ 6 a5 N 0 0) xaa;have aY:=Y.o.g.c0;have ar:=Y.o.g.c1;have aW:=Y.o.g.c2;have b:V (∀W:World,_):=λW=>iY W U J aa m1 af vs.length cap m3 ah xaa;rw[bI]at b;clear bI;conv=>arg 2;whnf
 go_region_with (first
  |(go_at_call 78;refine yaj (bf.o _ (((eF W).trans u).trans an)) ?_;rintro e am ⟨aC,cap',rfl,⟨u0,bq⟩,⟨u1,aq⟩,⟨u2,aT⟩,ak,_,aG⟩;have bR:=ak 0;have bS:=ak 1;have bT:=ak 2;clear ak)
  |(go_at_call 85;refine yaj (b.o _) ?_;rintro e r ⟨rfl,u⟩;have bQ:=(MS.keep Y.o ((eF W).trans u)).g.c0;have b6:=(MS.keep Y.o ((eF W).trans u)).g.c1;have cf:=(MS.keep Y.o ((eF W).trans u)).g.c2)
  |(go_at_call 79;refine yaj (gG _ _ _ _ _ _) ?_;rintro e aH ⟨rfl,an⟩;have bH:=(MS.keep Y.o (((eF W).trans u).trans an)).g.c0;have bk:=(MS.keep Y.o (((eF W).trans u).trans an)).g.c1;have p2:=(MS.keep Y.o (((eF W).trans u).trans an)).g.c2))
 all_goals exact HK _ ⟨_,_,_,⟨rfl,by simp⟩,by simp,aG⟩
variable{w:World}{U aa:Option Addr}{m1 af cap m3 ah base a0 i j aj:Nat}{vs:List Vl}{a5 bj X bz S d br:Int}{bD:Nat}
theorem y.qaj(h:Zp:=by
 refine fh (NZ Y xaa ?_);clear Y;unfold PfK;intros;rename_i wc K;obtain⟨f,aC,cap',b,B,Y⟩:=K;go_wp2_with fail;refine fh (N6 Y xaa (show(f.length:Int)-1=(vs.length:Nat) by have:=b.o.2;omega) ?_);clear Y;unfold PfK;intros;rename_i wc K;obtain⟨vs2,aC,cap',h,F,Y⟩:=K;go_wp2_with fail;refine fh (N7 Y xaa (show(vs2.length:Int)-1=((vs.length:Nat)+1) by have:=b.o.2;have:=h.o.2;omega) ?_);exact no_implicit_lambda% xbj):Zp:=h
open y in
theorem Kk(ad:MvH w cap base a0 i vs ⟨5,a5,bj,X,bz,bD⟩):PtC w U aa m1 af cap m3 ah base a0 i vs 1 d ([eJ 4 a5 d (i:Int) 0,eJ 5 a5 ((vs.length:Nat):Int) X 0,eJ 6 a5 (((vs.length:Nat):Int)+1) 0 0],(((vs.length:Nat):Int)+2)) true:=by
 exact qai
theorem z.qaj(h:Zp:=by
 refine fh (NS Y xaa ?_);exact no_implicit_lambda% xah):Zp:=h
open z in
theorem N8(ad:MvH w cap base a0 i vs ⟨12,a5,bj,X,bz,bD⟩):PtC w U aa m1 af cap m3 ah base a0 i vs 0 d ([eJ 11 1 d 0 bz],((vs.length:Nat):Int)) true:=by
 exact qai
