import Derived.Test.YtcjhlkdleojbjaaGreatP43
namespace Go.Proofs.Z
variable{Zp:Prop}
open Tryz
set_option maxRecDepth 1000000
set_option maxHeartbeats 0
open Go.RowKit Flt
attribute[local go_sem] eF eE eD
variable{bs:List Int}
theorem F.qaq(h:Zp:=by
 obtain⟨u,aB,aK⟩:∃u:Nat,d/8%6=u/\u<6:=⟨_,rfl,by omega⟩
 obtain⟨v,aO,ao⟩:∃v:Nat,d/4%6=v/\v<6:=⟨_,rfl,by omega⟩
 obtain⟨t,ht,p⟩:∃t:Nat,d%2=t/\t<2:=⟨_,rfl,by omega⟩
 rw[aB,aO,ht,Int.natCast_add,Int.natCast_add]at bL;have aV:(c:Int)%8=6:=xaa;have y:¬(c:Int)%8<6:=xaa;have E2:E (IntKind.i64.wrap ((d:Int)/4)=(d:Int)/4/\IntKind.i64.wrap ((base:Int)+v)=(base:Int)+v/\((d:Int)/4).tmod 6=(v:Int)/\(d:Int).tmod 2=(t:Int)):=⟨by rw[IntKind.wrap_i64];omega,by rw[IntKind.wrap_i64];omega,(Int.tmod_eq_emod_of_nonneg xaa).trans xaa,(Int.tmod_eq_emod_of_nonneg xaa).trans xaa⟩
 have ae:IntKind.i64.wrap ((d:Int)/8)=(d:Int)/8:=by rw[IntKind.wrap_i64];omega
 have ai:IntKind.i64.wrap ((base:Int)+u)=(base:Int)+u:=by rw[IntKind.wrap_i64];omega
 have b7:((d:Int)/8).tmod 6=(u:Int):=(Int.tmod_eq_emod_of_nonneg xaa).trans xaa;have HF:E (∀f,Kept 0 0 _ f->_):=λf bI=>HD.o.putU bI (eK 10 2 ((base:Int)+u) 0 0) (Nat.zero_lt_succ _) xaa;clear h aB aO ht aK ao p g;rcases Decidable.em (m=1) with rfl|am
 all_goals
  go_upto_region 38 with fail
  go_cut [] from 88 to 182 (λcd=>∃(us:List Vl) (aq cap':Nat),E ((us=vs++[eK 10 2 ((base:Int)+u) 0 0]/\us.length=vs.length+1)/\Dy w cd P a n cap j bs w.heap.size Q (.slice a1 ins.length c1) (hz aq us.length cap') (.slice a3 outs.length c3) ins us outs))
  case first=>
   go_region_with (first
    |(go_at_call 44;refine yaj (HF.o _ ((eG _).trans bI)) ?_;rintro e ag ⟨us,aq,cap',rfl,bd,aA,av⟩;obtain⟨_,br,ay,a0,bZ,b5,b6⟩:=aA)
    |(go_at_call 46;refine yaj (ij _ _ _ _ _ _) ?_;rintro e f ⟨rfl,bI⟩;obtain⟨_,aY,aC,aL,_,_,_⟩:=(HD.o.keep ((eG _).trans bI)).bx))
   all_goals
    go_wp2_with fail
    go_meet
    exact⟨us,aq,cap',bd.o,av⟩
  case rest=>
   clear ae ai b7
   obtain⟨us,aq,cap',bD⟩:=hcut
   have N:E _:=bD.o.1
   have r:E _:=bD.o.2
   have o:us.length<=1001:=hJ bD.o.1.2
   clear HD HF bn aX bb F aD al bD
   have HD:E _:=r.o
   clear r
   obtain⟨_,bn,aX,bb,F,aD,al⟩:=HD.o.bx
   have HF:E (∀f,Kept 0 0 _ f->_):=λf bI=>HD.o.putU bI (eK 12 2 ((base:Int)+v) 0 (t:Int)) (Nat.zero_lt_succ _) xaa
   have J:E (us.map sv=S++[eK 10 2 ((base:Int)+u) 0 0]):=by show _=_;rw[N.o.1,List.map_append,HSV.o];rfl
   clear N
   obtain⟨ae,a9,ai,e4⟩:=E2.o
   go_wp2_with fail
   go_region_with (first
    |(go_at_call 44;refine yaj (HF.o _ ((eG _).trans bI)) ?_;rintro e ag ⟨us,aq,cap',rfl,bd,aA,av⟩;obtain⟨_,br,ay,a0,bZ,b5,b6⟩:=aA)
    |(go_at_call 46;refine yaj (ij _ _ _ _ _ _) ?_;rintro e f ⟨rfl,bI⟩;obtain⟨_,aY,aC,aL,_,_,_⟩:=(HD.o.keep ((eG _).trans bI)).bx))
   all_goals exact bL.o (L2.of J.o bd.o av)):Zp:=h
open F in
theorem Qd{w W P n cap Q a a1 c1 a3 c3 ins outs S j base c d x m U c2 vs}(h:DgH w P n cap Q a bs a1 c1 a3 c3 ins outs S j base c d x m U c2 vs W)(ah:c%8=6):pP w P n cap Q a bs a1 c1 a3 c3 ins outs (S++[eK 10 2 ((base+d/8%6:Nat):Int) 0 0]++[eK 12 2 ((base+d/4%6:Nat):Int) 0 ((d%2:Nat):Int)],j) base c d x m W:=by
 exact no_implicit_lambda% qap
