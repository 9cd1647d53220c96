import Derived.Test.YtcagphgmfbjneaaGreatP39
namespace Go.Proofs.Z
variable{Zp:Prop}
open Tryz
set_option maxRecDepth 1000000
set_option maxHeartbeats 0
open Go.RowKit Flt
attribute[local go_sem] eE eD eC
variable{bs:List Int}
theorem S.qas(h:Zp:=by
 have aY:(c:Int)%8=1:=xaa;have aD:V (∀X,Kept 0 0 W X->_):=λX a5=>HD.o.putU a5 (eJ 6 m (x:Int) 0 0) (Nat.zero_lt_succ _) xaa;clear h;go_upto_region 26 with fail
 go_region_with (first
  |(go_at_call 78;refine yaj (aD.o _ ((eF _).trans a5)) ?_;rintro e am ⟨us,aC,cap',rfl,br,a0,aH⟩;obtain⟨_,bq,aq,aT,bR,bS,bT⟩:=a0)
  |(go_at_call 79;refine yaj (gG _ _ _ _ _ _) ?_;rintro e X ⟨rfl,a5⟩;obtain⟨_,aP,ay,aB,_,_,_⟩:=(HD.o.keep ((eF _).trans a5)).bx))
 all_goals
  have ag:V _:=br.o
  have r:us.length<=1001:=ix br.o.2
  clear HD aD bl aS a9 B F ak br
  unfold fg at aH
  have HD:V _:=aH
  clear aH bq aq aT bR bS bT
  go_wp2_with fail
  refine AJ (P:=Code.wp _ _ _ _) ?_
  intro ba f
  rw[<-f]at HD
  clear f
  obtain⟨_,bl,aS,a9,B,F,ak⟩:=HD.o.bx
  have aD:V (∀X,Kept 0 0 ba X->_):=λX a5=>HD.o.putU a5 (eJ 6 m ((us.length:Int)-1) 0 0) (Nat.zero_lt_succ _) xaa
  have b:V (∀W:World,_):=λW=>iY W a1 (some ⟨aC,0,none⟩) a3 ins.length c1 us.length cap' outs.length c3 xaa
  have k:V (us.map sv=S++[eJ 6 m x 0 0]/\(S.length:Int)=us.length-1):=⟨by rw[ag.o.1,List.map_append,HSV.o];rfl,by have:=ag.o.2;have:=congrArg List.length HSV.o;rw[List.length_map]at this;omega⟩
  clear ag
  go_region_with (first
   |(go_at_call 78;refine yaj (aD.o _ ((eF _).trans (u.trans a5))) ?_;rintro e am ⟨us,aC,cap',rfl,br,a0,aH⟩;obtain⟨_,bq,aq,aT,bR,bS,bT⟩:=a0)
   |(go_at_call 85;refine yaj (b.o _) ?_;rintro e a7 ⟨rfl,u⟩;obtain⟨_,bH,bk,p2,_,_,_⟩:=(HD.o.keep ((eF _).trans u)).bx)
   |(go_at_call 79;refine yaj (gG _ _ _ _ _ _) ?_;rintro e X ⟨rfl,a5⟩;obtain⟨_,aP,ay,aB,_,_,_⟩:=(HD.o.keep ((eF _).trans (u.trans a5))).bx))
  all_goals
   rw[k.o.2]at bZ
   exact bZ.o (L2.of k.o.1 br.o aH)):Zp:=h
open S in
theorem Qw{w W P n cap Q a a1 c1 a3 c3 ins outs S j base c d x m J c2 vs}(h:DgH w P n cap Q a bs a1 c1 a3 c3 ins outs S j base c d x m J c2 vs W)(al:c%8=1):qh w P n cap Q a bs a1 c1 a3 c3 ins outs (S++[eJ 6 m x 0 0]++[eJ 6 m S.length 0 0],j) base c d x m W:=by
 exact no_implicit_lambda% qar
