import Derived.Test.YtbhmhdllnfkjhaaGreatP21
import Derived.Test.YtbhmhdllnfkjhaaGreatP30
import Derived.Test.YtbhmhdllnfkjhaaGreatP35
import Derived.Test.YtbhmhdllnfkjhaaGreatP38
namespace Go.Proofs.Z
variable{Zp:Prop}
open Tryz Go.RowKit Flt
set_option maxRecDepth 1000000
set_option maxHeartbeats 0
section
attribute[local go_sem] eG eE eD
variable{w:World}{O Z:Option Addr}{m1 e1 cap m3 af base ap i j ai:Nat}{vs:List Vl}{G am r ak l d F:Int}{aq:Nat}
theorem aG.qaw(h:Zp:=by
 unfold PtC;have h:V _:=m;clear m;go_enter func164,ntmps164;go_wp2_with fail;rw[aS.o];clear bF a9 ba be bi s aS;refine fx (Nh aa xaa hj h.o ?_);exact no_implicit_lambda% xah):Zp:=h
open aG in
theorem Ob(H:MvH w cap base ap i vs ⟨9,G,(j:Int),r,ak,aq⟩)(hj:j<vs.length)(m:(vs.getD j hI).len=l):PtC w O Z m1 e1 cap m3 af base ap i vs 0 d ([eL 10 l d 0 0],((vs.length:Nat):Int)) true:=by
 exact qav
theorem P.qao(h:Zp:=by
 refine fx (NV aa xaa ?_);exact no_implicit_lambda% xah):Zp:=h
open P in
theorem La(H:MvH w cap base ap i vs ⟨10,G,am,r,ak,aq⟩):PtC w O Z m1 e1 cap m3 af base ap i vs 0 d ([eL 9 1 d 0 0],((vs.length:Nat):Int)) true:=by
 exact qan
theorem aH.qaw(h:Zp:=by
 unfold PtC;have h:V _:=m;clear m;go_enter func164,ntmps164;go_wp2_with fail;rw[aS.o];clear bF a9 ba be bi s aS;refine fx (NL aa xaa hj h.o ?_);exact no_implicit_lambda% xah):Zp:=h
open aH in
theorem Lb(H:MvH w cap base ap i vs ⟨11,G,(j:Int),r,ak,aq⟩)(hj:j<vs.length)(m:(vs.getD j hI).len=l):PtC w O Z m1 e1 cap m3 af base ap i vs 0 d ([eL 12 l d 0 ak],((vs.length:Nat):Int)) true:=by
 exact qav
end
section
theorem Oc(w O Z m1 e1 cap m3 af base ap i vs v l k d)(h:w.ownsRow base 60 6 (hC ap vs.length cap) vs.length (fK vs))(hb:base<=w.heap.size)(hn:vs.length<=800000)(hi:i<vs.length)(aD:At w ap (i*6) v)
  (bD:0<=v.op/\v.op<=13) (N:k<cnt v.op) (m:(v.op=9\/v.op=11)->∃j:Nat,v.a=(j:Int)/\j<vs.length/\(vs.getD j hI).len=l):
  Calls prog 164 #[eV O m1 e1 (some ⟨ap,0,none⟩) vs.length cap Z m3 af,hD i,hD k,hD d] w λe I=>PtP w O m1 e1 Z m3 af vs base (some ap) (ptM (i:Int) v l k d vs.length) (pJ v k) e I:=by
 obtain⟨o,G,am,r,ak,aq⟩:=v;have H:MvH w _ _ _ i _ _:=⟨h,hb,hn,hi,aD⟩
 clear h hb hn hi aD;simp only at bD N m;have ad:o=2\/o=3\/o=4\/o=5\/o=6\/o=7\/o=8\/o=9\/o=10\/o=11\/o=12\/o=13:=by grind[cnt]
 rcases ad with rfl|rfl|rfl|rfl|rfl|rfl|rfl|rfl|rfl|rfl|rfl|rfl
 ·have e:ptM i ⟨2,G,am,r,ak,aq⟩ l k d vs.length=([],d):=by simp[ptM,nH,pJ]
  rw[e,show pJ _ k=true by simp[pJ]];exact NZ H
 ·rcases (by have:cnt 3=2:=rfl;omega:k=0\/k=1) with rfl|rfl
  ·exact K0 H
  exact K1 H
 ·have e:ptM i ⟨4,G,am,r,ak,aq⟩ l k d vs.length=([eL 4 G d (fld ⟨4,G,am,r,ak,aq⟩ (1-k)) 0],(vs.length:Int)):=by
   rcases (by have:cnt 4=2:=rfl;omega:k=0\/k=1) with rfl|rfl<;>rfl
  rw[e,show pJ _ k=true by simp[pJ]];exact N1 H N rfl
 ·rcases (by have:cnt 5=2:=rfl;omega:k=0\/k=1) with rfl|rfl
  ·exact K3 H
  exact K4 H
 ·obtain rfl:k=0:=by have:cnt 6=1:=rfl;omega
  exact N0 H
 ·rcases (by have:cnt 7=2:=rfl;omega:k=0\/k=1) with rfl|rfl
  ·exact K6 H
  exact K7 H
 ·rcases (by have:cnt 8=3:=rfl;omega:k=0\/k=1\/k=2) with rfl|rfl|rfl
  ·exact K2 H
  ·exact K8 H
  exact K9 H
 ·obtain rfl:k=0:=by have:cnt 9=1:=rfl;omega
  obtain⟨j,rfl,hj,ab⟩:=m (.inl rfl);exact Ob H hj ab
 ·obtain rfl:k=0:=by have:cnt 10=1:=rfl;omega
  exact La H
 ·obtain rfl:k=0:=by have:cnt 11=1:=rfl;omega
  obtain⟨j,rfl,hj,ab⟩:=m (.inr rfl);exact Lb H hj ab
 ·obtain rfl:k=0:=by have:cnt 12=1:=rfl;omega
  exact N6 H
 obtain rfl:k=0:=by have:cnt 13=1:=rfl;omega
 exact N2 H
