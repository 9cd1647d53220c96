import Derived.Test.YtaheilbiakhlgaaGreatP25
import Derived.Test.YtaheilbiakhlgaaGreatP28
namespace Go.Proofs.Z
variable{Zp:Prop}
open Tryz Go.RowKit Flt
set_option maxRecDepth 1000000
set_option maxHeartbeats 0
section
attribute[local go_sem] eF eE eD
variable{N ad Z:Option Addr}{m1 af m3 aj base cap m:Nat}{vs:List Vl}{o G g f l:Int}{R R':Option Nat}{c0 c1 c2 c3 c5 x y Y X h ab I U O s u v:Value}
theorem Ge{w W}(ae:V (MS w W N m1 af ad m3 aj vs ⟨o,G,g,f,l,m⟩ base R R' Z cap))(aH:vs.length<=900000):PfC 19 W (MpR w N m1 af ad m3 aj vs ⟨o,G,g,f,l,m⟩ base R (eK 3 G g f 0)) c0 c1 c2 c3 (hD w.heap.size) c5 x y Y X h (hD (w.heap.size+1+1)) (hF G) ab I U O s u v X h:=by
 unfold PfC;exact xca
theorem xA{w W j}(ae:V (MS w W N m1 af ad m3 aj vs ⟨o,G,g,f,l,m⟩ base R R' Z cap))(aH:vs.length<=900000):PfC 24 W (MpR w N m1 af ad m3 aj vs ⟨o,G,g,f,l,m⟩ base R (eK 1 G 0 0 0)) c0 c1 c2 c3 (hD w.heap.size) c5 x y Y X h j (hF G) ab I U O s u v X h:=by
 unfold PfC;intros;rename_i HK;have bg:V (∀ay,Kept 0 0 W ay->_):=λay k=>MS.call ae.o k (eK 1 G 0 0 0) xaa;have aW:=ae.o.g.c0;have aq:=ae.o.g.c1;have aN:=ae.o.g.c2;conv=>arg 2;whnf
 go_region_with (first
  |(go_at_call 37;refine yai (bg.o _ ((eG W).trans am)) ?_;rintro e ag ⟨aA,cap',rfl,⟨u0,bo⟩,⟨u1,az⟩,⟨u2,aZ⟩,ai,_,ar⟩;have bl:=ai 0;have bG:=ai 1;have bP:=ai 2;clear ai)
  |(go_at_call 57;refine yai (oW _ _) ?_;rintro e aG ⟨rfl,am⟩;have bi:=(MS.keep ae.o ((eG W).trans am)).g.c0;have a5:=(MS.keep ae.o ((eG W).trans am)).g.c1;have p2:=(MS.keep ae.o ((eG W).trans am)).g.c2))
 all_goals exact HK _ ⟨_,_,_,⟨rfl,by simp⟩,by simp,ar⟩
variable{w:World}{N ad:Option Addr}{m1 af cap m3 aj base aC i j al:Nat}{vs:List Vl}{G g f l P d F:Int}{m:Nat}
theorem J.qao(h:Zp:=by
 refine fH (Ge ae xaa ?_);exact no_implicit_lambda% qdr):Zp:=h
theorem J.qds(h:Zp:=by
 exact no_implicit_lambda% qgm):Zp:=h
theorem J.qgn(h:Zp:=by
 refine fH (Gb ae xaa ?_);exact no_implicit_lambda% xbt):Zp:=h
open J in
theorem JU(H:MvH w cap base aC i vs ⟨7,G,g,f,l,m⟩):PtC w N ad m1 af cap m3 aj base aC i vs 0 d ([eK 3 G g f 0,eK 1 G 0 0 0,eK 8 G ((vs.length:Nat):Int) d (((vs.length:Nat):Int)+1)],(((vs.length:Nat):Int)+2)) true:=by
 exact qan
variable{w:World}{N ad:Option Addr}{m1 af cap m3 aj base aC i j al:Nat}{vs:List Vl}{G g f l P d F:Int}{m:Nat}
theorem K.qao(h:Zp:=by
 refine fH (Ge ae xaa ?_);exact no_implicit_lambda% qdr):Zp:=h
theorem K.qds(h:Zp:=by
 exact no_implicit_lambda% qgm):Zp:=h
theorem K.qgn(h:Zp:=by
 refine fH (Gc ae xaa ?_);exact no_implicit_lambda% xbt):Zp:=h
open K in
theorem JV(H:MvH w cap base aC i vs ⟨7,G,g,f,l,m⟩):PtC w N ad m1 af cap m3 aj base aC i vs 1 d ([eK 3 G g f 0,eK 1 G 0 0 0,eK 8 G ((vs.length:Nat):Int) (((vs.length:Nat):Int)+1) d],(((vs.length:Nat):Int)+2)) true:=by
 exact qan
variable{w:World}{N ad:Option Addr}{m1 af cap m3 aj base aC i j al:Nat}{vs:List Vl}{G g f l P d F:Int}{m:Nat}
theorem L.qao(h:Zp:=by
 refine fH (xA ae xaa ?_);exact no_implicit_lambda% qdr):Zp:=h
theorem L.qds(h:Zp:=by
 refine fH (Gb ae xaa ?_);exact no_implicit_lambda% xdj):Zp:=h
open L in
theorem JW(H:MvH w cap base aC i vs ⟨8,G,g,f,l,m⟩):PtC w N ad m1 af cap m3 aj base aC i vs 1 d ([eK 1 G 0 0 0,eK 8 G g d ((vs.length:Nat):Int)],(((vs.length:Nat):Int)+1)) true:=by
 exact qan
variable{w:World}{N ad:Option Addr}{m1 af cap m3 aj base aC i j al:Nat}{vs:List Vl}{G g f l P d F:Int}{m:Nat}
theorem M.qao(h:Zp:=by
 refine fH (xA ae xaa ?_);exact no_implicit_lambda% qdr):Zp:=h
theorem M.qds(h:Zp:=by
 refine fH (Gc ae xaa ?_);exact no_implicit_lambda% xdj):Zp:=h
open M in
theorem JX(H:MvH w cap base aC i vs ⟨8,G,g,f,l,m⟩):PtC w N ad m1 af cap m3 aj base aC i vs 2 d ([eK 1 G 0 0 0,eK 8 G g ((vs.length:Nat):Int) d],(((vs.length:Nat):Int)+1)) true:=by
 exact qan
variable{w:World}{N ad:Option Addr}{m1 af cap m3 aj base aC i j al:Nat}{vs:List Vl}{G g f l P d F:Int}{m:Nat}
theorem aI.qay(h:Zp:=by
 unfold PtC;have r:V _:=aD;clear aD;go_enter func162,ntmps162;go_wp2_with fail;rw[aT.o];clear av ba bc z aa ap aT;refine fH (Nd ae xaa hj r.o ?_);exact no_implicit_lambda% xaj):Zp:=h
open aI in
theorem Nq(H:MvH w cap base aC i vs ⟨9,G,(j:Int),f,l,m⟩)(hj:j<vs.length)(aD:(vs.getD j hK).len=P):PtC w N ad m1 af cap m3 aj base aC i vs 0 d ([eK 10 P d 0 0],((vs.length:Nat):Int)) true:=by
 exact qax
theorem N.qao(h:Zp:=by
 refine fH (Ng ae xaa ?_);exact no_implicit_lambda% xaj):Zp:=h
open N in
theorem JY(H:MvH w cap base aC i vs ⟨10,G,g,f,l,m⟩):PtC w N ad m1 af cap m3 aj base aC i vs 0 d ([eK 9 1 d 0 0],((vs.length:Nat):Int)) true:=by
 exact qan
theorem aJ.qay(h:Zp:=by
 unfold PtC;have r:V _:=aD;clear aD;go_enter func162,ntmps162;go_wp2_with fail;rw[aT.o];clear av ba bc z aa ap aT;refine fH (Nb ae xaa hj r.o ?_);exact no_implicit_lambda% xaj):Zp:=h
open aJ in
theorem JZ(H:MvH w cap base aC i vs ⟨11,G,(j:Int),f,l,m⟩)(hj:j<vs.length)(aD:(vs.getD j hK).len=P):PtC w N ad m1 af cap m3 aj base aC i vs 0 d ([eK 12 P d 0 l],((vs.length:Nat):Int)) true:=by
 exact qax
end
section
theorem Nr(w N ad m1 af cap m3 aj base aC i vs v P k d)(h:w.ownsRow base 40 6 (hE aC vs.length cap) vs.length (fW vs))(hb:base<=w.heap.size)(hn:vs.length<=800000)(hi:i<vs.length)(aM:At w aC (i*6) v)
  (b7:0<=v.op/\v.op<=13) (O:k<cnt v.op) (aD:(v.op=9\/v.op=11)->∃j:Nat,v.a=(j:Int)/\j<vs.length/\(vs.getD j hK).len=P):
  Calls prog 162 #[eX N m1 af (some ⟨aC,0,none⟩) vs.length cap ad m3 aj,hF i,hF k,hF d] w λe J=>PtP w N m1 af ad m3 aj vs base (some aC) (ptM (i:Int) v P k d vs.length) (pr v k) e J:=by
 obtain⟨o,G,g,f,l,m⟩:=v;have H:MvH w _ _ _ i _ _:=⟨h,hb,hn,hi,aM⟩
 clear h hb hn hi aM;simp only at b7 O aD;have ak:o=2\/o=3\/o=4\/o=5\/o=6\/o=7\/o=8\/o=9\/o=10\/o=11\/o=12\/o=13:=by grind[cnt]
 rcases ak with rfl|rfl|rfl|rfl|rfl|rfl|rfl|rfl|rfl|rfl|rfl|rfl
 ·have e:ptM i ⟨2,G,g,f,l,m⟩ P k d vs.length=([],d):=by simp[ptM,nF,pr]
  rw[e,show pr _ k=true by simp[pr]];exact Nj H
 ·rcases (by have:cnt 3=2:=rfl;omega:k=0\/k=1) with rfl|rfl
  ·exact JP H
  exact JQ H
 ·have e:ptM i ⟨4,G,g,f,l,m⟩ P k d vs.length=([eK 4 G d (fld ⟨4,G,g,f,l,m⟩ (1-k)) 0],(vs.length:Int)):=by
   rcases (by have:cnt 4=2:=rfl;omega:k=0\/k=1) with rfl|rfl<;>rfl
  rw[e,show pr _ k=true by simp[pr]];exact Nl H O rfl
 ·rcases (by have:cnt 5=2:=rfl;omega:k=0\/k=1) with rfl|rfl
  ·exact JS H
  exact JT H
 ·obtain rfl:k=0:=by have:cnt 6=1:=rfl;omega
  exact Nk H
 ·rcases (by have:cnt 7=2:=rfl;omega:k=0\/k=1) with rfl|rfl
  ·exact JU H
  exact JV H
 ·rcases (by have:cnt 8=3:=rfl;omega:k=0\/k=1\/k=2) with rfl|rfl|rfl
  ·exact JR H
  ·exact JW H
  exact JX H
 ·obtain rfl:k=0:=by have:cnt 9=1:=rfl;omega
  obtain⟨j,rfl,hj,ah⟩:=aD (.inl rfl);exact Nq H hj ah
 ·obtain rfl:k=0:=by have:cnt 10=1:=rfl;omega
  exact JY H
 ·obtain rfl:k=0:=by have:cnt 11=1:=rfl;omega
  obtain⟨j,rfl,hj,ah⟩:=aD (.inr rfl);exact JZ H hj ah
 ·obtain rfl:k=0:=by have:cnt 12=1:=rfl;omega
  exact Np H
 obtain rfl:k=0:=by have:cnt 13=1:=rfl;omega
 exact Nm H
