import Derived.Test.YtiacbhjphaldlaaGreatDoorP21
namespace Go.Proofs.Z
variable{Zp:Prop}
open Tryz
set_option maxRecDepth 1000000
set_option maxHeartbeats 0
open Go.RowKit Flt
attribute[local go_sem] dI dG dF
variable{L U a2:Option Addr}{m1 K m3 ag base cap a7:Nat}{vs:List Vl}{o T aB aA aL N:Int}{R R':Option Nat}{c0 c1 c2 c3 c5 bU ce b5 bz bN cF cf b3 cg b7 cp ct:Value}
theorem L6{w W}(O:M (MS w W L m1 K U m3 ag vs ⟨o,T,aB,aA,aL,a7⟩ base R R' a2 cap))(aj:vs.length<=900000)(bb:(vs.length:Int)-1=N):PfC 13 W (MpR w L m1 K U m3 ag vs ⟨o,T,aB,aA,aL,a7⟩ base R (dL 5 T N aA 0)) c0 c1 c2 c3 (ge w.heap.size) c5 bU ce b5 bz bN (ge (w.heap.size+1+1)) (h0 T) cF cf b3 cg b7 cp ct bz bN:=by
 unfold PfC;exact xav
theorem L7{w W}(O:M (MS w W L m1 K U m3 ag vs ⟨o,T,aB,aA,aL,a7⟩ base R R' a2 cap))(aj:vs.length<=900000)(bb:(vs.length:Int)-1=N):PfC 14 W (MpR w L m1 K U m3 ag vs ⟨o,T,aB,aA,aL,a7⟩ base R (dL 6 T N 0 0)) c0 c1 c2 c3 (ge w.heap.size) c5 bU ce b5 bz bN (ge (w.heap.size+1+1)) (h0 T) cF cf b3 cg b7 cp ct bz bN:=by
 unfold PfC;intros;rename_i ay;have aE:M (∀aq,Kept 0 0 W aq->_):=λaq k=>MS.call O.o k (dL 6 T N 0 0) xaa;have bq:=O.o.g.c0;have ak:=O.o.g.c1;have az:=O.o.g.c2;have b:M (∀W:World,_):=λW=>jg W L a2 U m1 K vs.length cap m3 ag xaa;rw[bb]at b;clear bb;conv=>arg 2;whnf
 go_region_with (first
  |(go_at_call 109;refine yai (aE.o _ (((dH W).trans p).trans af)) ?_;rintro e Z ⟨aY,cap',rfl,⟨aw,b2⟩,⟨u1,r1⟩,⟨ap,bp⟩,au,_,bl⟩;have a6:=au 0;have bn:=au 1;have cc:=au 2;clear au)
  |(go_at_call 67;refine yai (b.o _) ?_;rintro e h ⟨rfl,p⟩;have ar:=(MS.keep O.o ((dH W).trans p)).g.c0;have b9:=(MS.keep O.o ((dH W).trans p)).g.c1;have cl:=(MS.keep O.o ((dH W).trans p)).g.c2)
  |(go_at_call 37;refine yai iy ?_;rintro e aa ⟨rfl,af⟩;have b1:=(MS.keep O.o (((dH W).trans p).trans af)).g.c0;have bw:=(MS.keep O.o (((dH W).trans p).trans af)).g.c1;have p2:=(MS.keep O.o (((dH W).trans p).trans af)).g.c2))
 all_goals exact ay _ ⟨_,_,_,⟨rfl,by simp⟩,by simp,bl⟩
variable{w:World}{L U:Option Addr}{m1 K cap m3 ag base aJ i j ae:Nat}{vs:List Vl}{T aB aA aL la d F:Int}{a7:Nat}
theorem r.qak(h:Zp:=by
 refine eG (LV O xaa ?_);clear O;unfold PfK;intros;rename_i wc au;obtain⟨p,aY,cap',b,G,O⟩:=au;go_wp2_with fail;refine eG (L6 O xaa (show(p.length:Int)-1=(vs.length:Nat) by have:=b.o.2;omega) ?_);clear O;unfold PfK;intros;rename_i wc au;obtain⟨vs2,aY,cap',f,k,O⟩:=au;go_wp2_with fail;refine eG (L7 O xaa (show(vs2.length:Int)-1=((vs.length:Nat)+1) by have:=b.o.2;have:=f.o.2;omega) ?_);exact no_implicit_lambda% xbf):Zp:=h
open r in
theorem Ig(Y:MvH w cap base aJ i vs ⟨5,T,aB,aA,aL,a7⟩):PtC w L U m1 K cap m3 ag base aJ i vs 1 d ([dL 4 T d (i:Int) 0,dL 5 T ((vs.length:Nat):Int) aA 0,dL 6 T (((vs.length:Nat):Int)+1) 0 0],(((vs.length:Nat):Int)+2)) true:=by
 exact qaj
theorem s.qak(h:Zp:=by
 refine eG (L5 O xaa ?_);exact no_implicit_lambda% xah):Zp:=h
open s in
theorem L8(Y:MvH w cap base aJ i vs ⟨12,T,aB,aA,aL,a7⟩):PtC w L U m1 K cap m3 ag base aJ i vs 0 d ([dL 11 1 d 0 aL],((vs.length:Nat):Int)) true:=by
 exact qaj
