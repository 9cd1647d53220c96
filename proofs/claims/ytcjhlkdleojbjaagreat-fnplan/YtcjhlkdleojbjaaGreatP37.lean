import Derived.Test.YtcjhlkdleojbjaaGreatP28
import Derived.Test.YtcjhlkdleojbjaaGreatP31
import Derived.Test.YtcjhlkdleojbjaaGreatP36
namespace Go.Proofs.Z
variable{Zp:Prop}
open Tryz Go.RowKit Flt
set_option maxRecDepth 1000000
set_option maxHeartbeats 0
section
attribute[local go_sem] eF eE eD
variable{w:World}{R aa:Option Addr}{m1 ae cap m3 ai base aN i j aj:Nat}{vs:List Vl}{C r vb bE l d bg:Int}{bJ:Nat}
theorem N.qas(h:Zp:=by
 unfold PtC;have e:E _:=m;clear m;go_enter func140,ntmps140;go_wp2_with fail;rw[aT.o];clear aD a5 a7 z G F aT;refine fk (Oo HM xaa hj e.o ?_);exact no_implicit_lambda% xae):Zp:=h
open N in
theorem OQ(Y:MvH w cap base aN i vs ⟨9,C,(j:Int),vb,bE,bJ⟩)(hj:j<vs.length)(m:(vs.getD j hF).len=l):PtC w R aa m1 ae cap m3 ai base aN i vs 0 d ([eK 10 l d 0 0],((vs.length:Nat):Int)) true:=by
 exact qar
theorem w.qak(h:Zp:=by
 refine fk (Ov HM xaa ?_);exact no_implicit_lambda% xae):Zp:=h
open w in
theorem L6(Y:MvH w cap base aN i vs ⟨10,C,r,vb,bE,bJ⟩):PtC w R aa m1 ae cap m3 ai base aN i vs 0 d ([eK 9 1 d 0 0],((vs.length:Nat):Int)) true:=by
 exact qaj
theorem O.qas(h:Zp:=by
 unfold PtC;have e:E _:=m;clear m;go_enter func140,ntmps140;go_wp2_with fail;rw[aT.o];clear aD a5 a7 z G F aT;refine fk (Om HM xaa hj e.o ?_);exact no_implicit_lambda% xae):Zp:=h
open O in
theorem L7(Y:MvH w cap base aN i vs ⟨11,C,(j:Int),vb,bE,bJ⟩)(hj:j<vs.length)(m:(vs.getD j hF).len=l):PtC w R aa m1 ae cap m3 ai base aN i vs 0 d ([eK 12 l d 0 bE],((vs.length:Nat):Int)) true:=by
 exact qar
end
section
theorem OS(w R aa m1 ae cap m3 ai base aN i vs v l k d)(h:w.ownsRow base 62 6 (hz aN vs.length cap) vs.length (fF vs))(hb:base<=w.heap.size)(ad:vs.length<=800000)(hi:i<vs.length)(aO:At w aN (i*6) v)
  (b9:0<=v.op/\v.op<=13) (O:k<cnt v.op) (m:(v.op=9\/v.op=11)->∃j:Nat,v.a=(j:Int)/\j<vs.length/\(vs.getD j hF).len=l):
  Calls prog 140 #[eZ R m1 ae (some ⟨aN,0,none⟩) vs.length cap aa m3 ai,hA i,hA k,hA d] w λe B=>PtP w R m1 ae aa m3 ai vs base (some aN) (ptM (i:Int) v l k d vs.length) (ph v k) e B:=by
 obtain⟨o,C,r,vb,bE,bJ⟩:=v;have Y:MvH w _ _ _ i _ _:=⟨h,hb,ad,hi,aO⟩
 clear h hb ad hi aO;simp only at b9 O m;have ah:o=2\/o=3\/o=4\/o=5\/o=6\/o=7\/o=8\/o=9\/o=10\/o=11\/o=12\/o=13:=by grind[cnt]
 rcases ah with rfl|rfl|rfl|rfl|rfl|rfl|rfl|rfl|rfl|rfl|rfl|rfl
 ·have e:ptM i ⟨2,C,r,vb,bE,bJ⟩ l k d vs.length=([],d):=by simp[ptM,nd,ph]
  rw[e,show ph _ k=true by simp[ph]];exact Oy Y
 ·rcases (by have:cnt 3=2:=rfl;omega:k=0\/k=1) with rfl|rfl
  ·exact Lh Y
  exact Li Y
 ·have e:ptM i ⟨4,C,r,vb,bE,bJ⟩ l k d vs.length=([eK 4 C d (fld ⟨4,C,r,vb,bE,bJ⟩ (1-k)) 0],(vs.length:Int)):=by
   rcases (by have:cnt 4=2:=rfl;omega:k=0\/k=1) with rfl|rfl<;>rfl
  rw[e,show ph _ k=true by simp[ph]];exact OA Y O rfl
 ·rcases (by have:cnt 5=2:=rfl;omega:k=0\/k=1) with rfl|rfl
  ·exact Ll Y
  exact Lm Y
 ·obtain rfl:k=0:=by have:cnt 6=1:=rfl;omega
  exact Oz Y
 ·rcases (by have:cnt 7=2:=rfl;omega:k=0\/k=1) with rfl|rfl
  ·exact LY Y
  exact LZ Y
 ·rcases (by have:cnt 8=3:=rfl;omega:k=0\/k=1\/k=2) with rfl|rfl|rfl
  ·exact Lj Y
  ·exact L4 Y
  exact L5 Y
 ·obtain rfl:k=0:=by have:cnt 9=1:=rfl;omega
  obtain⟨j,rfl,hj,af⟩:=m (.inl rfl);exact OQ Y hj af
 ·obtain rfl:k=0:=by have:cnt 10=1:=rfl;omega
  exact L6 Y
 ·obtain rfl:k=0:=by have:cnt 11=1:=rfl;omega
  obtain⟨j,rfl,hj,af⟩:=m (.inr rfl);exact L7 Y hj af
 ·obtain rfl:k=0:=by have:cnt 12=1:=rfl;omega
  exact OE Y
 obtain rfl:k=0:=by have:cnt 13=1:=rfl;omega
 exact OB Y
