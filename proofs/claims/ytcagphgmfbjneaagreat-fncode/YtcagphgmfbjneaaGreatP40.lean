import Derived.Test.YtcagphgmfbjneaaGreatP39
namespace Go.Proofs.Z
variable{Zp:Prop}
open Tryz
set_option maxRecDepth 1000000
set_option maxHeartbeats 0
open Go.RowKit Flt
attribute[local go_sem] eE eD eC
variable{bs:List Int}
theorem R.qas(h:Zp:=by
 obtain⟨u,a6,az⟩:∃u:Nat,d/8%6=u/\u<6:=⟨_,rfl,by omega⟩
 obtain⟨v,aN,ba⟩:∃v:Nat,d/4%6=v/\v<6:=⟨_,rfl,by omega⟩
 obtain⟨t,ht,f⟩:∃t:Nat,d%2=t/\t<2:=⟨_,rfl,by omega⟩
 rw[a6,aN,ht,Int.natCast_add,Int.natCast_add]at bZ;have aY:(c:Int)%8=6:=xaa;have l:¬(c:Int)%8<6:=xaa;have E2:V (IntKind.i64.wrap ((d:Int)/4)=(d:Int)/4/\IntKind.i64.wrap ((base:Int)+v)=(base:Int)+v/\((d:Int)/4).tmod 6=(v:Int)/\(d:Int).tmod 2=(t:Int)):=⟨by rw[IntKind.wrap_i64];omega,by rw[IntKind.wrap_i64];omega,(Int.tmod_eq_emod_of_nonneg xaa).trans xaa,(Int.tmod_eq_emod_of_nonneg xaa).trans xaa⟩
 have af:IntKind.i64.wrap ((d:Int)/8)=(d:Int)/8:=by rw[IntKind.wrap_i64];omega
 have ah:IntKind.i64.wrap ((base:Int)+u)=(base:Int)+u:=by rw[IntKind.wrap_i64];omega
 have ce:((d:Int)/8).tmod 6=(u:Int):=(Int.tmod_eq_emod_of_nonneg xaa).trans xaa;have aD:V (∀X,Kept 0 0 _ X->_):=λX a5=>HD.o.putU a5 (eJ 10 2 ((base:Int)+u) 0 0) (Nat.zero_lt_succ _) xaa;clear h a6 aN ht az ba f g;rcases Decidable.em (m=1) with rfl|ao
 all_goals
  go_upto_region 38 with fail
  go_cut [] from 88 to 182 (λbb=>∃(us:List Vl) (aC cap':Nat),V ((us=vs++[eJ 10 2 ((base:Int)+u) 0 0]/\us.length=vs.length+1)/\Dy w bb P a n cap j bs w.heap.size Q (.slice a1 ins.length c1) (h0 aC us.length cap') (.slice a3 outs.length c3) ins us outs))
  case first=>
   go_region_with (first
    |(go_at_call 78;refine yaj (aD.o _ ((eF _).trans a5)) ?_;rintro e am ⟨us,aC,cap',rfl,br,a0,aH⟩;obtain⟨_,bq,aq,aT,bR,bS,bT⟩:=a0)
    |(go_at_call 79;refine yaj (gG _ _ _ _ _ _) ?_;rintro e X ⟨rfl,a5⟩;obtain⟨_,aP,ay,aB,_,_,_⟩:=(HD.o.keep ((eF _).trans a5)).bx))
   all_goals
    go_wp2_with fail
    go_meet
    exact⟨us,aC,cap',br.o,aH⟩
  case rest=>
   clear af ah ce
   obtain⟨us,aC,cap',b2⟩:=hcut
   have ag:V _:=b2.o.1
   have G:V _:=b2.o.2
   have r:us.length<=1001:=ix b2.o.1.2
   clear HD aD bl aS a9 B F ak b2
   have HD:V _:=G.o
   clear G
   obtain⟨_,bl,aS,a9,B,F,ak⟩:=HD.o.bx
   have aD:V (∀X,Kept 0 0 _ X->_):=λX a5=>HD.o.putU a5 (eJ 12 2 ((base:Int)+v) 0 (t:Int)) (Nat.zero_lt_succ _) xaa
   have k:V (us.map sv=S++[eJ 10 2 ((base:Int)+u) 0 0]):=by show _=_;rw[ag.o.1,List.map_append,HSV.o];rfl
   clear ag
   obtain⟨af,bg,ah,e4⟩:=E2.o
   go_wp2_with fail
   go_region_with (first
    |(go_at_call 78;refine yaj (aD.o _ ((eF _).trans a5)) ?_;rintro e am ⟨us,aC,cap',rfl,br,a0,aH⟩;obtain⟨_,bq,aq,aT,bR,bS,bT⟩:=a0)
    |(go_at_call 79;refine yaj (gG _ _ _ _ _ _) ?_;rintro e X ⟨rfl,a5⟩;obtain⟨_,aP,ay,aB,_,_,_⟩:=(HD.o.keep ((eF _).trans a5)).bx))
   all_goals exact bZ.o (L2.of k.o br.o aH)):Zp:=h
open R in
theorem Qv{w W P n cap Q a a1 c1 a3 c3 ins outs S j base c d x m J c2 vs}(h:DgH w P n cap Q a bs a1 c1 a3 c3 ins outs S j base c d x m J c2 vs W)(al:c%8=6):qh w P n cap Q a bs a1 c1 a3 c3 ins outs (S++[eJ 10 2 ((base+d/8%6:Nat):Int) 0 0]++[eJ 12 2 ((base+d/4%6:Nat):Int) 0 ((d%2:Nat):Int)],j) base c d x m W:=by
 exact no_implicit_lambda% qar
