import Derived.Test.YtaheilbiakhlgaaGreatP27
import Derived.Test.YtaheilbiakhlgaaGreatP26
namespace Go.Proofs.Z
variable{Zp:Prop}
open Tryz
set_option maxRecDepth 1000000
set_option maxHeartbeats 0
open Go.RowKit Flt
attribute[local go_sem] eF eE eD
variable{N ad Z:Option Addr}{m1 af m3 aj base cap m:Nat}{vs:List Vl}{o G g f l bK:Int}{R R':Option Nat}{c0 c1 c2 c3 c5 x y Y X h ab I U O s u v:Value}
theorem Nn{w W}(ae:V (MS w W N m1 af ad m3 aj vs ⟨o,G,g,f,l,m⟩ base R R' Z cap))(aH:vs.length<=900000)(bB:(vs.length:Int)-1=bK):PfC 13 W (MpR w N m1 af ad m3 aj vs ⟨o,G,g,f,l,m⟩ base R (eK 5 G bK f 0)) c0 c1 c2 c3 (hD w.heap.size) c5 x y Y X h (hD (w.heap.size+1+1)) (hF G) ab I U O s u v X h:=by
 unfold PfC;exact xbf
theorem No{w W}(ae:V (MS w W N m1 af ad m3 aj vs ⟨o,G,g,f,l,m⟩ base R R' Z cap))(aH:vs.length<=900000)(bB:(vs.length:Int)-1=bK):PfC 14 W (MpR w N m1 af ad m3 aj vs ⟨o,G,g,f,l,m⟩ base R (eK 6 G bK 0 0)) c0 c1 c2 c3 (hD w.heap.size) c5 x y Y X h (hD (w.heap.size+1+1)) (hF G) ab I U O s u v X h:=by
 unfold PfC;intros;rename_i HK;have bg:V (∀ay,Kept 0 0 W ay->_):=λay k=>MS.call ae.o k (eK 6 G bK 0 0) xaa;have aW:=ae.o.g.c0;have aq:=ae.o.g.c1;have aN:=ae.o.g.c2;have aF:V (∀W:World,_):=λW=>je W N Z ad m1 af vs.length cap m3 aj xaa;rw[bB]at aF;clear bB;conv=>arg 2;whnf
 go_region_with (first
  |(go_at_call 37;refine yai (bg.o _ (((eG W).trans p).trans am)) ?_;rintro e ag ⟨aA,cap',rfl,⟨u0,bo⟩,⟨u1,az⟩,⟨u2,aZ⟩,ai,_,ar⟩;have bl:=ai 0;have bG:=ai 1;have bP:=ai 2;clear ai)
  |(go_at_call 40;refine yai (aF.o _) ?_;rintro e K ⟨rfl,p⟩;have bN:=(MS.keep ae.o ((eG W).trans p)).g.c0;have bJ:=(MS.keep ae.o ((eG W).trans p)).g.c1;have b5:=(MS.keep ae.o ((eG W).trans p)).g.c2)
  |(go_at_call 39;refine yai (gS _ _ _ _ _ _) ?_;rintro e aG ⟨rfl,am⟩;have bi:=(MS.keep ae.o (((eG W).trans p).trans am)).g.c0;have a5:=(MS.keep ae.o (((eG W).trans p).trans am)).g.c1;have p2:=(MS.keep ae.o (((eG W).trans p).trans am)).g.c2))
 all_goals exact HK _ ⟨_,_,_,⟨rfl,by simp⟩,by simp,ar⟩
variable{w:World}{N ad:Option Addr}{m1 af cap m3 aj base aC i j al:Nat}{vs:List Vl}{G g f l P d F:Int}{m:Nat}
theorem H.qao(h:Zp:=by
 refine fH (Nh ae xaa ?_);clear ae;unfold PfK;intros;rename_i wc C;obtain⟨p,aA,cap',n,J,ae⟩:=C;go_wp2_with fail;refine fH (Nn ae xaa (show(p.length:Int)-1=(vs.length:Nat) by have:=n.o.2;omega) ?_);clear ae;unfold PfK;intros;rename_i wc C;obtain⟨vs2,aA,cap',r,aw,ae⟩:=C;go_wp2_with fail;refine fH (No ae xaa (show(vs2.length:Int)-1=((vs.length:Nat)+1) by have:=n.o.2;have:=r.o.2;omega) ?_);exact no_implicit_lambda% xbt):Zp:=h
open H in
theorem JT(H:MvH w cap base aC i vs ⟨5,G,g,f,l,m⟩):PtC w N ad m1 af cap m3 aj base aC i vs 1 d ([eK 4 G d (i:Int) 0,eK 5 G ((vs.length:Nat):Int) f 0,eK 6 G (((vs.length:Nat):Int)+1) 0 0],(((vs.length:Nat):Int)+2)) true:=by
 exact qan
theorem I.qao(h:Zp:=by
 refine fH (Nc ae xaa ?_);exact no_implicit_lambda% xaj):Zp:=h
open I in
theorem Np(H:MvH w cap base aC i vs ⟨12,G,g,f,l,m⟩):PtC w N ad m1 af cap m3 aj base aC i vs 0 d ([eK 11 1 d 0 l],((vs.length:Nat):Int)) true:=by
 exact qan
