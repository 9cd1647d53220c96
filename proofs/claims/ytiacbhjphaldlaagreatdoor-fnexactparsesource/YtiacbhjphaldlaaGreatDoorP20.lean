import Derived.Test.YtiacbhjphaldlaaGreatDoorP18
namespace Go.Proofs.Z
variable{Zp:Prop}
open Tryz Go.RowKit Flt
set_option maxRecDepth 1000000
set_option maxHeartbeats 0
section
attribute[local go_sem] dI dG dF
variable{w:World}{L U a2:Option Addr}{m1 K m3 ag base cap a7:Nat}{vs:List Vl}{o T aB aA aL d i:Int}{R R':Option Nat}{c0 c1 c2 c5 bU ce b5 bz bN cF b9 cf b3 cg b7 cp ct:Value}
theorem KK{W}(O:M (MS w W L m1 K U m3 ag vs ⟨o,T,aB,aA,aL,a7⟩ base R R' a2 cap))(aj:vs.length<=900000):PfC 6 W (MpR w L m1 K U m3 ag vs ⟨o,T,aB,aA,aL,a7⟩ base R (dL 6 T d 0 0)) c0 c1 c2 (h0 d) (ge w.heap.size) c5 bU ce b5 bz bN (ge (w.heap.size+1+1)) (h0 T) cF cf b3 cg b7 cp ct bz bN:=by
 unfold PfC;intros;rename_i ay;have aE:M (∀aq,Kept 0 0 W aq->_):=λaq k=>MS.call O.o k (dL 6 T d 0 0) xaa;exact xae
theorem LT{W}(O:M (MS w W L m1 K U m3 ag vs ⟨o,T,aB,aA,aL,a7⟩ base R R' a2 cap))(aj:vs.length<=900000):PfC 10 W (MpR w L m1 K U m3 ag vs ⟨o,T,aB,aA,aL,a7⟩ base R (dL 5 T d aA 0)) c0 c1 c2 (h0 d) (ge w.heap.size) c5 bU ce b5 bz bN (ge (w.heap.size+1+1)) (h0 T) cF cf b3 cg b7 cp ct bz bN:=by
 unfold PfC;intros;rename_i ay;have aE:M (∀aq,Kept 0 0 W aq->_):=λaq k=>MS.call O.o k (dL 5 T d aA 0) xaa;have bq:=O.o.g.c0;have ak:=O.o.g.c1;have az:=O.o.g.c2;exact xal
theorem LU{W}(O:M (MS w W L m1 K U m3 ag vs ⟨o,T,aB,aA,aL,a7⟩ base R R' a2 cap))(aj:vs.length<=900000):PfC 32 W (MpR w L m1 K U m3 ag vs ⟨o,T,aB,aA,aL,a7⟩ base R (dL 9 1 d 0 0)) c0 c1 c2 (h0 d) (ge w.heap.size) c5 bU ce b5 bz bN (ge (w.heap.size+1+1)) b9 cF cf b3 cg b7 cp ct bz bN:=by
 unfold PfC;intros;rename_i ay;have aE:M (∀aq,Kept 0 0 W aq->_):=λaq k=>MS.call O.o k (dL 9 1 d 0 0) xaa;exact xae
theorem LV{W}(O:M (MS w W L m1 K U m3 ag vs ⟨o,T,aB,aA,aL,a7⟩ base R R' a2 cap))(aj:vs.length<=900000):PfC 12 W (MpR w L m1 K U m3 ag vs ⟨o,T,aB,aA,aL,a7⟩ base R (dL 4 T d i 0)) c0 (h0 i) c2 (h0 d) (ge w.heap.size) c5 bU ce b5 bz bN (ge (w.heap.size+1+1)) (h0 T) cF cf b3 cg b7 cp ct bz bN:=by
 exact no_implicit_lambda% xbl
theorem LW{W}(O:M (MS w W L m1 K U m3 ag vs ⟨o,T,aB,aA,aL,a7⟩ base R R' a2 cap))(aj:vs.length<=900000):PfC 37 W (MpR w L m1 K U m3 ag vs ⟨o,T,aB,aA,aL,a7⟩ base R (dL 4 T d i 0)) c0 (h0 i) c2 (h0 d) (ge w.heap.size) c5 bU ce b5 bz bN (ge (w.heap.size+1+1)) (h0 T) cF cf b3 cg b7 cp ct bz bN:=by
 exact no_implicit_lambda% xbl
theorem jZ{W N c3 Y}(O:M (MS w W L m1 K U m3 ag vs ⟨o,T,aB,aA,aL,a7⟩ base R R' a2 cap))(aj:vs.length<=900000)(bb:(vs.length:Int)-1=N):PfC 38 W (λA=>A.cell? ⟨w.heap.size+1,0,none⟩=some (.slice L m1 K)/\A.cell? ⟨w.heap.size+1,1,none⟩=some (.slice a2 vs.length cap)/\A.cell? ⟨w.heap.size+1,2,none⟩=some (.slice U m3 ag)/\M (∃ao,Kept 0 0 W ao/\A=eY ao (w.heap.size+1) (.slice L m1 K) (.slice a2 vs.length cap) (.slice U m3 ag))) c0 c1 c2 c3 (ge w.heap.size) c5 bU ce (ge (w.heap.size+1)) bz bN Y b9 cF cf b3 cg b7 cp ct (h0 N) (.bool true):=by
 unfold PfC;intros;rename_i ay;have bq:=O.o.g.c0;have ak:=O.o.g.c1;have az:=O.o.g.c2;obtain⟨_,bJ,ba,bu,bG,bB,bQ⟩:=O.o.b;have b:M _:=λW=>jg W L a2 U m1 K vs.length cap m3 ag xaa;rw[bb]at b;clear bb;conv=>arg 2;whnf
 go_region_with (first
  |(go_at_call 67;refine yai (b.o _) ?_;rintro e ao ⟨rfl,a5⟩;clear bJ ba bu bG bB bQ;obtain⟨⟨_,_,bT,bg,a8,_,_,_,_⟩,⟨_,bJ,ba,bu,bG,bB,bQ⟩,_,_,_,_,_⟩:=MS.keep O.o ((dH W).trans a5)))
 all_goals
  obtain⟨aP,aQ,aU⟩:=fQ _ _ bJ ba bu (.slice L m1 K) (.slice a2 vs.length cap) (.slice U m3 ag)
  exact ay _ ⟨aP,aQ,aU,⟨_,(dH W).trans a5,rfl⟩⟩
variable{w:World}{L U:Option Addr}{m1 K cap m3 ag base aJ i j ae:Nat}{vs:List Vl}{T aB aA aL la d F:Int}{a7:Nat}
theorem LX(Y:MvH w cap base aJ i vs ⟨2,T,aB,aA,aL,a7⟩):PtC w L U m1 K cap m3 ag base aJ i vs (ae:Int) d ([],d) true:=by
 exact xbv
theorem H7(Y:MvH w cap base aJ i vs ⟨3,T,aB,aA,aL,a7⟩):PtC w L U m1 K cap m3 ag base aJ i vs 0 d ([],d) true:=by
 exact xbv
theorem H8(Y:MvH w cap base aJ i vs ⟨3,T,aB,aA,aL,a7⟩):PtC w L U m1 K cap m3 ag base aJ i vs 1 d ([dL 6 T d 0 0],((vs.length:Nat):Int)) true:=by
 exact no_implicit_lambda% xbt
theorem LY(Y:MvH w cap base aJ i vs ⟨6,T,aB,aA,aL,a7⟩):PtC w L U m1 K cap m3 ag base aJ i vs 0 d ([dL 6 T d 0 0],((vs.length:Nat):Int)) true:=by
 exact no_implicit_lambda% xbt
theorem Ia(Y:MvH w cap base aJ i vs ⟨8,T,aB,aA,aL,a7⟩):PtC w L U m1 K cap m3 ag base aJ i vs 0 d ([],0) false:=by
 exact xbv
end
section
def ptM(i:Int)(v:Vl)(la:Int)(k:Nat)(d:Int)(N:Nat):List Vl×Int:=if i8 v k=true then iR i v la k d N else ([],0)
end
section
attribute[local go_sem] dI dG dF
theorem Ox{w W L U m1 K m3 ag base cap vs o T aB aA aL a7 R R' a2 d F ae c0 c1 c5 bU ce b5 bz bN cF cf b3 cg b7 cp ct}(O:M (MS w W L m1 K U m3 ag vs ⟨o,T,aB,aA,aL,a7⟩ base R R' a2 cap))(aj:vs.length<=900000)(aG:ae<2)(a0:fld ⟨o,T,aB,aA,aL,a7⟩ (1-ae)=F):PfC 8 W (MpR w L m1 K U m3 ag vs ⟨o,T,aB,aA,aL,a7⟩ base R (dL 4 T d F 0)) c0 c1 (h0 ae) (h0 d) (ge w.heap.size) c5 bU ce b5 bz bN (ge (w.heap.size+1+1)) (h0 T) cF cf b3 cg b7 cp ct bz bN:=by
 unfold PfC;intros;rename_i ay;have aE:M (∀aq,Kept 0 0 W aq->_):=λaq k=>MS.call O.o k (dL 4 T d F 0) xaa;have bq:=O.o.g.c0;have ak:=O.o.g.c1;have az:=O.o.g.c2;have bh:=O.o.v.c0;have aH:=O.o.v.c1;have aN:=O.o.v.c2;have aM:=O.o.v.c3;have aS:=O.o.v.c4;have aC:=O.o.v.c5;have ex:M (∀W,Calls _ _ _ W λe D=>e=.returned (.int _ F)/\Kept 0 0 W _):=λW=>by rw[<-a0];exact oU W _ _ xaa
 have b:(1-ae:Nat)=1-(ae:Int):=xaa;rw[b]at ex;have gr:IntKind.i64.wrap (1-ae)=1-ae:=by rw[IntKind.wrap_i64];omega
 clear a0 b;conv=>arg 2;whnf
 go_region_with (first
  |(go_at_call 109;refine yai (aE.o _ (((dH W).trans a).trans af)) ?_;rintro e Z ⟨aY,cap',rfl,⟨aw,b2⟩,⟨u1,r1⟩,⟨ap,bp⟩,au,_,bl⟩;have a6:=au 0;have bn:=au 1;have cc:=au 2;clear au)
  |(go_at_call 112;refine yai (ex.o _) ?_;rintro e hR ⟨rfl,a⟩;have ar:=(MS.keep O.o ((dH W).trans a)).g.c0;have b9:=(MS.keep O.o ((dH W).trans a)).g.c1;have cl:=(MS.keep O.o ((dH W).trans a)).g.c2)
  |(go_at_call 37;refine yai iy ?_;rintro e aa ⟨rfl,af⟩;have b1:=(MS.keep O.o (((dH W).trans a).trans af)).g.c0;have bw:=(MS.keep O.o (((dH W).trans a).trans af)).g.c1;have p2:=(MS.keep O.o (((dH W).trans a).trans af)).g.c2))
 all_goals exact ay _ ⟨_,_,_,⟨rfl,by simp⟩,by simp,bl⟩
variable{w:World}{L U:Option Addr}{m1 K cap m3 ag base aJ i j ae:Nat}{vs:List Vl}{T aB aA aL la d F:Int}{a7:Nat}
theorem F.qau(h:Zp:=by
 unfold PtC;have bk:=Q a0;clear a0;go_enter func113,ntmps113;go_wp2_with fail;rw[ax.o];clear bh aH aN aM aS aC ax;refine eG (Ox O xaa aG bk.o ?_);exact no_implicit_lambda% xah):Zp:=h
open F in
theorem LZ(Y:MvH w cap base aJ i vs ⟨4,T,aB,aA,aL,a7⟩)(aG:ae<2)(a0:fld ⟨4,T,aB,aA,aL,a7⟩ (1-ae)=F):PtC w L U m1 K cap m3 ag base aJ i vs (ae:Int) d ([dL 4 T d F 0],((vs.length:Nat):Int)) true:=by
 exact qat
theorem l.qak(h:Zp:=by
 refine eG (LT O xaa ?_);exact no_implicit_lambda% xah):Zp:=h
open l in
theorem Ib(Y:MvH w cap base aJ i vs ⟨5,T,aB,aA,aL,a7⟩):PtC w L U m1 K cap m3 ag base aJ i vs 0 d ([dL 5 T d aA 0],((vs.length:Nat):Int)) true:=by
 exact qaj
theorem m.qak(h:Zp:=by
 refine eG (LW O xaa ?_);exact no_implicit_lambda% xah):Zp:=h
open m in
theorem L4(Y:MvH w cap base aJ i vs ⟨13,T,aB,aA,aL,a7⟩):PtC w L U m1 K cap m3 ag base aJ i vs 0 d ([dL 4 T d (i:Int) 0],((vs.length:Nat):Int)) true:=by
 exact qaj
