import Derived.Test.YtaheilbiakhlgaaGreatP44
namespace Go.Proofs.Z
variable{Zp:Prop}
open Tryz
set_option maxRecDepth 1000000
set_option maxHeartbeats 0
open Go.RowKit Flt
attribute[local go_sem] eF eE eD
variable{bs:List Int}
theorem Y.qau(h:Zp:=by
 obtain⟨u,aI,aU⟩:∃u:Nat,d/8%6=u/\u<6:=⟨_,rfl,by omega⟩
 obtain⟨v,aM,aY⟩:∃v:Nat,d/4%6=v/\v<6:=⟨_,rfl,by omega⟩
 obtain⟨t,ht,bh⟩:∃t:Nat,d%2=t/\t<2:=⟨_,rfl,by omega⟩
 rw[aI,aM,ht,Int.natCast_add,Int.natCast_add]at aQ;have ai:(c:Int)%8=6:=xaa;have p:¬(c:Int)%8<6:=xaa;have E2:V (IntKind.i64.wrap ((d:Int)/4)=(d:Int)/4/\IntKind.i64.wrap ((base:Int)+v)=(base:Int)+v/\((d:Int)/4).tmod 6=(v:Int)/\(d:Int).tmod 2=(t:Int)):=⟨by rw[IntKind.wrap_i64];omega,by rw[IntKind.wrap_i64];omega,(Int.tmod_eq_emod_of_nonneg xaa).trans xaa,(Int.tmod_eq_emod_of_nonneg xaa).trans xaa⟩
 have af:IntKind.i64.wrap ((d:Int)/8)=(d:Int)/8:=by rw[IntKind.wrap_i64];omega
 have aj:IntKind.i64.wrap ((base:Int)+u)=(base:Int)+u:=by rw[IntKind.wrap_i64];omega
 have bW:((d:Int)/8).tmod 6=(u:Int):=(Int.tmod_eq_emod_of_nonneg xaa).trans xaa;have aL:V (∀bN,Kept 0 0 _ bN->_):=λbN bT=>HD.o.putU bT (eK 10 2 ((base:Int)+u) 0 0) (Nat.zero_lt_succ _) xaa;clear h aI aM ht aU aY bh f;rcases Decidable.em (m=1) with rfl|aw
 all_goals
  go_upto_region 38 with fail
  go_cut [] from 88 to 182 (λbp=>∃(us:List Vl) (aA cap':Nat),V ((us=vs++[eK 10 2 ((base:Int)+u) 0 0]/\us.length=vs.length+1)/\Dy w bp P a n cap j bs w.heap.size Q (.slice a1 ins.length c1) (hE aA us.length cap') (.slice a3 outs.length c3) ins us outs))
  case first=>
   go_region_with (first
    |(go_at_call 37;refine yai (aL.o _ ((eG _).trans bT)) ?_;rintro e aG ⟨us,aA,cap',rfl,cy,a8,aH⟩;obtain⟨_,bo,az,aZ,bl,bG,bP⟩:=a8)
    |(go_at_call 39;refine yai (gS _ _ _ _ _ _) ?_;rintro e bN ⟨rfl,bT⟩;obtain⟨_,a7,aK,aP,_,_,_⟩:=(HD.o.keep ((eG _).trans bT)).bx))
   all_goals
    go_wp2_with fail
    go_meet
    exact⟨us,aA,cap',cy.o,aH⟩
  case rest=>
   clear af aj bW
   obtain⟨us,aA,cap',bL⟩:=hcut
   have U:V _:=bL.o.1
   have C:V _:=bL.o.2
   have be:us.length<=1001:=hO bL.o.1.2
   clear HD aL bf aO aX B J ag bL
   have HD:V _:=C.o
   clear C
   obtain⟨_,bf,aO,aX,B,J,ag⟩:=HD.o.bx
   have aL:V (∀bN,Kept 0 0 _ bN->_):=λbN bT=>HD.o.putU bT (eK 12 2 ((base:Int)+v) 0 (t:Int)) (Nat.zero_lt_succ _) xaa
   have bu:V (us.map sv=S++[eK 10 2 ((base:Int)+u) 0 0]):=by show _=_;rw[U.o.1,List.map_append,HSV.o];rfl
   clear U
   obtain⟨af,a0,aj,e4⟩:=E2.o
   go_wp2_with fail
   go_region_with (first
    |(go_at_call 37;refine yai (aL.o _ ((eG _).trans bT)) ?_;rintro e aG ⟨us,aA,cap',rfl,cy,a8,aH⟩;obtain⟨_,bo,az,aZ,bl,bG,bP⟩:=a8)
    |(go_at_call 39;refine yai (gS _ _ _ _ _ _) ?_;rintro e bN ⟨rfl,bT⟩;obtain⟨_,a7,aK,aP,_,_,_⟩:=(HD.o.keep ((eG _).trans bT)).bx))
   all_goals exact aQ.o (L2.of bu.o cy.o aH)):Zp:=h
open Y in
theorem Pt{w W P n cap Q a a1 c1 a3 c3 ins outs S j base c d x m Z c2 vs}(h:DgH w P n cap Q a bs a1 c1 a3 c3 ins outs S j base c d x m Z c2 vs W)(ak:c%8=6):pT w P n cap Q a bs a1 c1 a3 c3 ins outs (S++[eK 10 2 ((base+d/8%6:Nat):Int) 0 0]++[eK 12 2 ((base+d/4%6:Nat):Int) 0 ((d%2:Nat):Int)],j) base c d x m W:=by
 exact no_implicit_lambda% qat
