import Derived.Test.YtbhmhdllnfkjhaaGreatP51
namespace Go.Proofs.Z
variable{Zp:Prop}
open Tryz
set_option maxRecDepth 1000000
set_option maxHeartbeats 0
open Go.RowKit Flt
attribute[local go_sem] eG eE eD
variable{bs:List Int}
theorem Z.qau(h:Zp:=by
 obtain⟨u,aH,aK⟩:∃u:Nat,d/8%6=u/\u<6:=⟨_,rfl,by omega⟩
 obtain⟨v,aD,I⟩:∃v:Nat,d/4%6=v/\v<6:=⟨_,rfl,by omega⟩
 obtain⟨t,ht,aS⟩:∃t:Nat,d%2=t/\t<2:=⟨_,rfl,by omega⟩
 rw[aH,aD,ht,Int.natCast_add,Int.natCast_add]at bV;have z:(c:Int)%8=6:=xaa;have p:¬(c:Int)%8<6:=xaa;have E2:V (IntKind.i64.wrap ((d:Int)/4)=(d:Int)/4/\IntKind.i64.wrap ((base:Int)+v)=(base:Int)+v/\((d:Int)/4).tmod 6=(v:Int)/\(d:Int).tmod 2=(t:Int)):=⟨by rw[IntKind.wrap_i64];omega,by rw[IntKind.wrap_i64];omega,(Int.tmod_eq_emod_of_nonneg xaa).trans xaa,(Int.tmod_eq_emod_of_nonneg xaa).trans xaa⟩
 have e1:IntKind.i64.wrap ((d:Int)/8)=(d:Int)/8:=by rw[IntKind.wrap_i64];omega
 have af:IntKind.i64.wrap ((base:Int)+u)=(base:Int)+u:=by rw[IntKind.wrap_i64];omega
 have bo:((d:Int)/8).tmod 6=(u:Int):=(Int.tmod_eq_emod_of_nonneg xaa).trans xaa;have aI:V (∀cj,Kept 0 0 _ cj->_):=λcj bU=>HD.o.putU bU (eL 10 2 ((base:Int)+u) 0 0) (Nat.zero_lt_succ _) xaa;clear h aH aD ht aK I aS f;rcases Decidable.em (m=1) with rfl|aq
 all_goals
  go_upto_region 38 with fail
  go_cut [] from 88 to 182 (λcl=>∃(us:List Vl) (aB cap':Nat),V ((us=vs++[eL 10 2 ((base:Int)+u) 0 0]/\us.length=vs.length+1)/\Dy w cl P a n cap j bs w.heap.size Q (.slice a1 ins.length c1) (hC aB us.length cap') (.slice a3 outs.length c3) ins us outs))
  case first=>
   go_region_with (first
    |(go_at_call 38;refine yaj (aI.o _ ((eF _).trans bU)) ?_;rintro e ag ⟨us,aB,cap',rfl,ba,aO,aA⟩;obtain⟨_,bm,ay,aW,bv,bA,bM⟩:=aO)
    |(go_at_call 40;refine yaj (gO _ _ _ _ _ _) ?_;rintro e cj ⟨rfl,bU⟩;obtain⟨_,bd,aL,aJ,_,_,_⟩:=(HD.o.keep ((eF _).trans bU)).bx))
   all_goals
    go_wp2_with fail
    go_meet
    exact⟨us,aB,cap',ba.o,aA⟩
  case rest=>
   clear e1 af bo
   obtain⟨us,aB,cap',au⟩:=hcut
   have J:V _:=au.o.1
   have K:V _:=au.o.2
   have i:us.length<=1001:=hM au.o.1.2
   clear HD aI bf aP aY B aj an au
   have HD:V _:=K.o
   clear K
   obtain⟨_,bf,aP,aY,B,aj,an⟩:=HD.o.bx
   have aI:V (∀cj,Kept 0 0 _ cj->_):=λcj bU=>HD.o.putU bU (eL 12 2 ((base:Int)+v) 0 (t:Int)) (Nat.zero_lt_succ _) xaa
   have C:V (us.map sv=S++[eL 10 2 ((base:Int)+u) 0 0]):=by show _=_;rw[J.o.1,List.map_append,HSV.o];rfl
   clear J
   obtain⟨e1,e2,af,e4⟩:=E2.o
   go_wp2_with fail
   go_region_with (first
    |(go_at_call 38;refine yaj (aI.o _ ((eF _).trans bU)) ?_;rintro e ag ⟨us,aB,cap',rfl,ba,aO,aA⟩;obtain⟨_,bm,ay,aW,bv,bA,bM⟩:=aO)
    |(go_at_call 40;refine yaj (gO _ _ _ _ _ _) ?_;rintro e cj ⟨rfl,bU⟩;obtain⟨_,bd,aL,aJ,_,_,_⟩:=(HD.o.keep ((eF _).trans bU)).bx))
   all_goals exact bV.o (L2.of C.o ba.o aA)):Zp:=h
open Z in
theorem PV{w W P n cap Q a a1 c1 a3 c3 ins outs S j base c d x m Y c2 vs}(h:DgH w P n cap Q a bs a1 c1 a3 c3 ins outs S j base c d x m Y c2 vs W)(ad:c%8=6):qq w P n cap Q a bs a1 c1 a3 c3 ins outs (S++[eL 10 2 ((base+d/8%6:Nat):Int) 0 0]++[eL 12 2 ((base+d/4%6:Nat):Int) 0 ((d%2:Nat):Int)],j) base c d x m W:=by
 exact no_implicit_lambda% qat
