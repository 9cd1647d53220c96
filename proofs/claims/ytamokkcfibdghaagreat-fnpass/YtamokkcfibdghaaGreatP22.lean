import Derived.Test.YtamokkcfibdghaaGreatP21
import Derived.Test.YtamokkcfibdghaaGreatP19
namespace Go.Proofs.Z
variable {Zp:Prop}
open Tryz
set_option maxRecDepth 1000000
set_option maxHeartbeats 0
open Go.RowKit Flt
attribute [local go_sem] eG eE eD
variable {N ab a2:Option Addr}{m1 ae m3 ak base cap X:Nat}{vs:List Vl}{o Q y r u bQ:Int}{aa R':Option Nat}{c0 c1 c2 c3 c5 ar av B ah m aP az aL aF I R aq:Value}
theorem M8{w W}(ad:V (MS w W N m1 ae ab m3 ak vs ⟨o,Q,y,r,u,X⟩ base aa R' a2 cap))(au:vs.length<=900000)(bF:(vs.length:Int)-1=bQ):PfC 13 W (MpR w N m1 ae ab m3 ak vs ⟨o,Q,y,r,u,X⟩ base aa (eL 5 Q bQ r 0)) c0 c1 c2 c3 (hG w.heap.size) c5 ar av B ah m (hG (w.heap.size+1+1)) (hI Q) aP az aL aF I R aq ah m:=by
 unfold PfC;exact xbj
theorem M9{w W}(ad:V (MS w W N m1 ae ab m3 ak vs ⟨o,Q,y,r,u,X⟩ base aa R' a2 cap))(au:vs.length<=900000)(bF:(vs.length:Int)-1=bQ):PfC 14 W (MpR w N m1 ae ab m3 ak vs ⟨o,Q,y,r,u,X⟩ base aa (eL 6 Q bQ 0 0)) c0 c1 c2 c3 (hG w.heap.size) c5 ar av B ah m (hG (w.heap.size+1+1)) (hI Q) aP az aL aF I R aq ah m:=by
 unfold PfC;intros;rename_i HK;have bl:V (∀aD,Kept 0 0 W aD->_):=λaD k=>MS.call ad.o k (eL 6 Q bQ 0 0) xaa;have s0:=ad.o.g.c0;have ax:=ad.o.g.c1;have aN:=ad.o.g.c2;have aK:V (∀W:World,_):=λW=>je W N a2 ab m1 ae vs.length cap m3 ak xaa;rw[bF]at aK;clear bF;conv=>arg 2;whnf
 go_region_with (first
  |(go_at_call 32;refine yai (bl.o _ (((eF W).trans l).trans an)) ?_;rintro e af ⟨aG,cap',rfl,⟨a9,bn⟩,⟨am,aC⟩,⟨al,a0⟩,aj,_,aH⟩;have bq:=aj 0;have br:=aj 1;have bC:=aj 2;clear aj)
  |(go_at_call 35;refine yai (aK.o _) ?_;rintro e h ⟨rfl,l⟩;have bN:=(MS.keep ad.o ((eF W).trans l)).g.c0;have bP:=(MS.keep ad.o ((eF W).trans l)).g.c1;have b8:=(MS.keep ad.o ((eF W).trans l)).g.c2)
  |(go_at_call 34;refine yai (gQ _ _ _ _ _ _) ?_;rintro e aB ⟨rfl,an⟩;have bk:=(MS.keep ad.o (((eF W).trans l).trans an)).g.c0;have a8:=(MS.keep ad.o (((eF W).trans l).trans an)).g.c1;have p2:=(MS.keep ad.o (((eF W).trans l).trans an)).g.c2))
 all_goals exact HK _ ⟨_,_,_,⟨rfl,by simp⟩,by simp,aH⟩
variable {w:World}{N ab:Option Addr}{m1 ae cap m3 ak base ag i j ap:Nat}{vs:List Vl}{Q y r u l d F:Int}{X:Nat}
theorem H.qao(h:Zp:=by
 refine fC (MX ad xaa ?_);clear ad;unfold PfK;intros;rename_i wc C;obtain⟨q,aG,cap',f,J,ad⟩:=C;go_wp2_with fail;refine fC (M8 ad xaa (show(q.length:Int)-1=(vs.length:Nat) by have:=f.o.2;omega) ?_);clear ad;unfold PfK;intros;rename_i wc C;obtain⟨vs2,aG,cap',p,Y,ad⟩:=C;go_wp2_with fail;refine fC (M9 ad xaa (show(vs2.length:Int)-1=((vs.length:Nat)+1) by have:=f.o.2;have:=p.o.2;omega) ?_);exact no_implicit_lambda% xbw):Zp:=h
open H in
theorem JE(H:MvH w cap base ag i vs ⟨5,Q,y,r,u,X⟩):PtC w N ab m1 ae cap m3 ak base ag i vs 1 d ([eL 4 Q d (i:Int) 0,eL 5 Q ((vs.length:Nat):Int) r 0,eL 6 Q (((vs.length:Nat):Int)+1) 0 0],(((vs.length:Nat):Int)+2)) true:=by
 exact qan
theorem I.qao(h:Zp:=by
 refine fC (MO ad xaa ?_);exact no_implicit_lambda% xan):Zp:=h
open I in
theorem Na(H:MvH w cap base ag i vs ⟨12,Q,y,r,u,X⟩):PtC w N ab m1 ae cap m3 ak base ag i vs 0 d ([eL 11 1 d 0 u],((vs.length:Nat):Int)) true:=by
 exact qan
