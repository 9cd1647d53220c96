import Derived.Test.YtamokkcfibdghaaGreatP49
namespace Go.Proofs.Z
variable {Zp:Prop}
open Tryz
set_option maxRecDepth 1000000
set_option maxHeartbeats 0
open Go.RowKit Flt
attribute [local go_sem] eG eE eD
variable {bs:List Int}
theorem Y.qau(h:Zp:=by
 obtain⟨u,aJ,ag⟩:∃u:Nat,d/8%6=u/\u<6:=⟨_,rfl,by omega⟩
 obtain⟨v,aL,J⟩:∃v:Nat,d/4%6=v/\v<6:=⟨_,rfl,by omega⟩
 obtain⟨t,ht,p⟩:∃t:Nat,d%2=t/\t<2:=⟨_,rfl,by omega⟩
 rw[aJ,aL,ht,Int.natCast_add,Int.natCast_add]at aW;have R:(c:Int)%8=6:=xaa;have s:¬(c:Int)%8<6:=xaa;have E2:V (IntKind.i64.wrap ((d:Int)/4)=(d:Int)/4/\IntKind.i64.wrap ((base:Int)+v)=(base:Int)+v/\((d:Int)/4).tmod 6=(v:Int)/\(d:Int).tmod 2=(t:Int)):=⟨by rw[IntKind.wrap_i64];omega,by rw[IntKind.wrap_i64];omega,(Int.tmod_eq_emod_of_nonneg xaa).trans xaa,(Int.tmod_eq_emod_of_nonneg xaa).trans xaa⟩
 have ae:IntKind.i64.wrap ((d:Int)/8)=(d:Int)/8:=by rw[IntKind.wrap_i64];omega
 have ak:IntKind.i64.wrap ((base:Int)+u)=(base:Int)+u:=by rw[IntKind.wrap_i64];omega
 have bx:((d:Int)/8).tmod 6=(u:Int):=(Int.tmod_eq_emod_of_nonneg xaa).trans xaa;have aP:V (∀H,Kept 0 0 _ H->_):=λH b0=>HD.o.putU b0 (eL 10 2 ((base:Int)+u) 0 0) (Nat.zero_lt_succ _) xaa;clear h aJ aL ht ag J p f;rcases Decidable.em (m=1) with rfl|az
 all_goals
  go_upto_region 38 with fail
  go_cut [] from 88 to 182 (λbo=>∃(us:List Vl) (aG cap':Nat),V ((us=vs++[eL 10 2 ((base:Int)+u) 0 0]/\us.length=vs.length+1)/\Dy w bo P a n cap j bs w.heap.size Q (.slice a1 ins.length c1) (hH aG us.length cap') (.slice a3 outs.length c3) ins us outs))
  case first=>
   go_region_with (first
    |(go_at_call 32;refine yai (aP.o _ ((eF _).trans b0)) ?_;rintro e af ⟨us,aG,cap',rfl,cn,aB,aX⟩;obtain⟨_,bn,aC,a0,bq,br,bC⟩:=aB)
    |(go_at_call 34;refine yai (gQ _ _ _ _ _ _) ?_;rintro e H ⟨rfl,b0⟩;obtain⟨_,ba,aO,aR,_,_,_⟩:=(HD.o.keep ((eF _).trans b0)).bx))
   all_goals
    go_wp2_with fail
    go_meet
    exact⟨us,aG,cap',cn.o,aX⟩
  case rest=>
   clear ae ak bx
   obtain⟨us,aG,cap',bM⟩:=hcut
   have B:V _:=bM.o.1
   have C:V _:=bM.o.2
   have o:us.length<=1001:=hR bM.o.1.2
   clear HD aP bj aQ a6 an ao ap bM
   have HD:V _:=C.o
   clear C
   obtain⟨_,bj,aQ,a6,an,ao,ap⟩:=HD.o.bx
   have aP:V (∀H,Kept 0 0 _ H->_):=λH b0=>HD.o.putU b0 (eL 12 2 ((base:Int)+v) 0 (t:Int)) (Nat.zero_lt_succ _) xaa
   have g:V (us.map sv=S++[eL 10 2 ((base:Int)+u) 0 0]):=by show _=_;rw[B.o.1,List.map_append,HSV.o];rfl
   clear B
   obtain⟨ae,a9,ak,e4⟩:=E2.o
   go_wp2_with fail
   go_region_with (first
    |(go_at_call 32;refine yai (aP.o _ ((eF _).trans b0)) ?_;rintro e af ⟨us,aG,cap',rfl,cn,aB,aX⟩;obtain⟨_,bn,aC,a0,bq,br,bC⟩:=aB)
    |(go_at_call 34;refine yai (gQ _ _ _ _ _ _) ?_;rintro e H ⟨rfl,b0⟩;obtain⟨_,ba,aO,aR,_,_,_⟩:=(HD.o.keep ((eF _).trans b0)).bx))
   all_goals exact aW.o (L2.of g.o cn.o aX)):Zp:=h
open Y in
theorem PP{w W P n cap Q a a1 c1 a3 c3 ins outs S j base c d x m a2 c2 vs}(h:DgH w P n cap Q a bs a1 c1 a3 c3 ins outs S j base c d x m a2 c2 vs W)(ai:c%8=6):pX w P n cap Q a bs a1 c1 a3 c3 ins outs (S++[eL 10 2 ((base+d/8%6:Nat):Int) 0 0]++[eL 12 2 ((base+d/4%6:Nat):Int) 0 ((d%2:Nat):Int)],j) base c d x m W:=by
 exact no_implicit_lambda% qat
