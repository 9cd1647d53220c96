import Derived.Test.YtiacbhjphaldlaaGreatDoorP20
namespace Go.Proofs.Z
variable{Zp:Prop}
open Tryz
set_option maxRecDepth 1000000
set_option maxHeartbeats 0
open Go.RowKit Flt
attribute[local go_sem] dI dG dF
variable{w:World}{L U a2:Option Addr}{m1 K m3 ag base cap a7:Nat}{vs:List Vl}{o T aB aA aL d t aX:Int}{R R':Option Nat}{c0 c1 c3 c2 c5 bU ce b5 bz bN cF cf b3 cg b7 cp ct:Value}
theorem DR{W}(O:M (MS w W L m1 K U m3 ag vs ⟨o,T,aB,aA,aL,a7⟩ base R R' a2 cap))(aj:vs.length<=900000):PfC 27 W (MpR w L m1 K U m3 ag vs ⟨o,T,aB,aA,aL,a7⟩ base R (dL 8 T t d aX)) c0 c1 c2 (h0 d) (ge w.heap.size) c5 bU ce b5 bz bN (ge (w.heap.size+1+1)) (h0 T) (h0 t) cf (h0 aX) cg b7 cp ct bz bN:=by
 unfold PfC;intros;rename_i ay;have aE:M (∀aq,Kept 0 0 W aq->_):=λaq k=>MS.call O.o k (dL 8 T t d aX) xaa;exact xae
theorem DS{W}(O:M (MS w W L m1 K U m3 ag vs ⟨o,T,aB,aA,aL,a7⟩ base R R' a2 cap))(aj:vs.length<=900000):PfC 28 W (MpR w L m1 K U m3 ag vs ⟨o,T,aB,aA,aL,a7⟩ base R (dL 8 T t aX d)) c0 c1 c2 (h0 d) (ge w.heap.size) c5 bU ce b5 bz bN (ge (w.heap.size+1+1)) (h0 T) (h0 t) cf (h0 aX) cg b7 cp ct bz bN:=by
 unfold PfC;intros;rename_i ay;have aE:M (∀aq,Kept 0 0 W aq->_):=λaq k=>MS.call O.o k (dL 8 T t aX d) xaa;exact xae
theorem L5{W b9}(O:M (MS w W L m1 K U m3 ag vs ⟨o,T,aB,aA,aL,a7⟩ base R R' a2 cap))(aj:vs.length<=900000):PfC 36 W (MpR w L m1 K U m3 ag vs ⟨o,T,aB,aA,aL,a7⟩ base R (dL 11 1 d 0 aL)) c0 c1 c2 (h0 d) (ge w.heap.size) c5 bU ce b5 bz bN (ge (w.heap.size+1+1)) b9 cF cf b3 cg b7 cp ct bz bN:=by
 unfold PfC;intros;rename_i ay;have aE:M (∀aq,Kept 0 0 W aq->_):=λaq k=>MS.call O.o k (dL 11 1 d 0 aL) xaa;have bq:=O.o.g.c0;have ak:=O.o.g.c1;have az:=O.o.g.c2;exact xbw
theorem DT{W}(O:M (MS w W L m1 K U m3 ag vs ⟨o,T,aB,aA,aL,a7⟩ base R R' a2 cap))(aj:vs.length<=900000):PfC 19 W (MpR w L m1 K U m3 ag vs ⟨o,T,aB,aA,aL,a7⟩ base R (dL 3 T aB aA 0)) c0 c1 c2 c3 (ge w.heap.size) c5 bU ce b5 bz bN (ge (w.heap.size+1+1)) (h0 T) cF cf b3 cg b7 cp ct bz bN:=by
 unfold PfC;exact xbk
theorem vq{W Y}(O:M (MS w W L m1 K U m3 ag vs ⟨o,T,aB,aA,aL,a7⟩ base R R' a2 cap))(aj:vs.length<=900000):PfC 24 W (MpR w L m1 K U m3 ag vs ⟨o,T,aB,aA,aL,a7⟩ base R (dL 1 T 0 0 0)) c0 c1 c2 c3 (ge w.heap.size) c5 bU ce b5 bz bN Y (h0 T) cF cf b3 cg b7 cp ct bz bN:=by
 unfold PfC;intros;rename_i ay;have aE:M (∀aq,Kept 0 0 W aq->_):=λaq k=>MS.call O.o k (dL 1 T 0 0 0) xaa;have bq:=O.o.g.c0;have ak:=O.o.g.c1;have az:=O.o.g.c2;conv=>arg 2;whnf
 go_region_with (first
  |(go_at_call 109;refine yai (aE.o _ ((dH W).trans af)) ?_;rintro e Z ⟨aY,cap',rfl,⟨aw,b2⟩,⟨u1,r1⟩,⟨ap,bp⟩,au,_,bl⟩;have a6:=au 0;have bn:=au 1;have cc:=au 2;clear au)
  |(go_at_call 110;refine yai oX ?_;rintro e aa ⟨rfl,af⟩;have b1:=(MS.keep O.o ((dH W).trans af)).g.c0;have bw:=(MS.keep O.o ((dH W).trans af)).g.c1;have p2:=(MS.keep O.o ((dH W).trans af)).g.c2))
 all_goals exact ay _ ⟨_,_,_,⟨rfl,by simp⟩,by simp,bl⟩
variable{w:World}{L U:Option Addr}{m1 K cap m3 ag base aJ i j ae:Nat}{vs:List Vl}{T aB aA aL la d F:Int}{a7:Nat}
theorem n.qak(h:Zp:=by
 refine eG (DT O xaa ?_);exact no_implicit_lambda% qdp):Zp:=h
theorem n.qdq(h:Zp:=by
 exact no_implicit_lambda% qgb):Zp:=h
theorem n.qgc(h:Zp:=by
 refine eG (DR O xaa ?_);exact no_implicit_lambda% xbf):Zp:=h
open n in
theorem Ic(Y:MvH w cap base aJ i vs ⟨7,T,aB,aA,aL,a7⟩):PtC w L U m1 K cap m3 ag base aJ i vs 0 d ([dL 3 T aB aA 0,dL 1 T 0 0 0,dL 8 T ((vs.length:Nat):Int) d (((vs.length:Nat):Int)+1)],(((vs.length:Nat):Int)+2)) true:=by
 exact qaj
variable{w:World}{L U:Option Addr}{m1 K cap m3 ag base aJ i j ae:Nat}{vs:List Vl}{T aB aA aL la d F:Int}{a7:Nat}
theorem o.qak(h:Zp:=by
 refine eG (DT O xaa ?_);exact no_implicit_lambda% qdp):Zp:=h
theorem o.qdq(h:Zp:=by
 exact no_implicit_lambda% qgb):Zp:=h
theorem o.qgc(h:Zp:=by
 refine eG (DS O xaa ?_);exact no_implicit_lambda% xbf):Zp:=h
open o in
theorem Id(Y:MvH w cap base aJ i vs ⟨7,T,aB,aA,aL,a7⟩):PtC w L U m1 K cap m3 ag base aJ i vs 1 d ([dL 3 T aB aA 0,dL 1 T 0 0 0,dL 8 T ((vs.length:Nat):Int) (((vs.length:Nat):Int)+1) d],(((vs.length:Nat):Int)+2)) true:=by
 exact qaj
variable{w:World}{L U:Option Addr}{m1 K cap m3 ag base aJ i j ae:Nat}{vs:List Vl}{T aB aA aL la d F:Int}{a7:Nat}
theorem p.qak(h:Zp:=by
 refine eG (vq O xaa ?_);exact no_implicit_lambda% qdp):Zp:=h
theorem p.qdq(h:Zp:=by
 refine eG (DR O xaa ?_);exact no_implicit_lambda% xck):Zp:=h
open p in
theorem Ie(Y:MvH w cap base aJ i vs ⟨8,T,aB,aA,aL,a7⟩):PtC w L U m1 K cap m3 ag base aJ i vs 1 d ([dL 1 T 0 0 0,dL 8 T aB d ((vs.length:Nat):Int)],(((vs.length:Nat):Int)+1)) true:=by
 exact qaj
variable{w:World}{L U:Option Addr}{m1 K cap m3 ag base aJ i j ae:Nat}{vs:List Vl}{T aB aA aL la d F:Int}{a7:Nat}
theorem q.qak(h:Zp:=by
 refine eG (vq O xaa ?_);exact no_implicit_lambda% qdp):Zp:=h
theorem q.qdq(h:Zp:=by
 refine eG (DS O xaa ?_);exact no_implicit_lambda% xck):Zp:=h
open q in
theorem If(Y:MvH w cap base aJ i vs ⟨8,T,aB,aA,aL,a7⟩):PtC w L U m1 K cap m3 ag base aJ i vs 2 d ([dL 1 T 0 0 0,dL 8 T aB ((vs.length:Nat):Int) d],(((vs.length:Nat):Int)+1)) true:=by
 exact qaj
