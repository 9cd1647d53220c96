import Derived.Test.YtcjhlkdleojbjaaGreatP43
namespace Go.Proofs.Z
variable{Zp:Prop}
open Tryz
set_option maxRecDepth 1000000
set_option maxHeartbeats 0
open Go.RowKit Flt
attribute[local go_sem] eF eE eD
variable{bs:List Int}
theorem G.qaq(h:Zp:=by
 have aV:(c:Int)%8=1:=xaa;have HF:E (∀f,Kept 0 0 W f->_):=λf bI=>HD.o.putU bI (eK 6 m (x:Int) 0 0) (Nat.zero_lt_succ _) xaa;clear h;go_upto_region 26 with fail
 go_region_with (first
  |(go_at_call 44;refine yaj (HF.o _ ((eG _).trans bI)) ?_;rintro e ag ⟨us,aq,cap',rfl,bd,aA,av⟩;obtain⟨_,br,ay,a0,bZ,b5,b6⟩:=aA)
  |(go_at_call 46;refine yaj (ij _ _ _ _ _ _) ?_;rintro e f ⟨rfl,bI⟩;obtain⟨_,aY,aC,aL,_,_,_⟩:=(HD.o.keep ((eG _).trans bI)).bx))
 all_goals
  have N:E _:=bd.o
  have o:us.length<=1001:=hJ bd.o.2
  clear HD HF bn aX bb F aD al bd
  unfold fw at av
  have HD:E _:=av
  clear av br ay a0 bZ b5 b6
  go_wp2_with fail
  refine Av (P:=Code.wp _ _ _ _) ?_
  intro bk i
  rw[<-i]at HD
  clear i
  obtain⟨_,bn,aX,bb,F,aD,al⟩:=HD.o.bx
  have HF:E (∀f,Kept 0 0 bk f->_):=λf bI=>HD.o.putU bI (eK 6 m ((us.length:Int)-1) 0 0) (Nat.zero_lt_succ _) xaa
  have G:E (∀W:World,_):=λW=>jO W a1 (some ⟨aq,0,none⟩) a3 ins.length c1 us.length cap' outs.length c3 xaa
  have J:E (us.map sv=S++[eK 6 m x 0 0]/\(S.length:Int)=us.length-1):=⟨by rw[N.o.1,List.map_append,HSV.o];rfl,by have:=N.o.2;have:=congrArg List.length HSV.o;rw[List.length_map]at this;omega⟩
  clear N
  go_region_with (first
   |(go_at_call 44;refine yaj (HF.o _ ((eG _).trans (l.trans bI))) ?_;rintro e ag ⟨us,aq,cap',rfl,bd,aA,av⟩;obtain⟨_,br,ay,a0,bZ,b5,b6⟩:=aA)
   |(go_at_call 47;refine yaj (G.o _) ?_;rintro e aF ⟨rfl,l⟩;obtain⟨_,bK,bu,p2,_,_,_⟩:=(HD.o.keep ((eG _).trans l)).bx)
   |(go_at_call 46;refine yaj (ij _ _ _ _ _ _) ?_;rintro e f ⟨rfl,bI⟩;obtain⟨_,aY,aC,aL,_,_,_⟩:=(HD.o.keep ((eG _).trans (l.trans bI))).bx))
  all_goals
   rw[J.o.2]at bL
   exact bL.o (L2.of J.o.1 bd.o av)):Zp:=h
open G in
theorem Qe{w W P n cap Q a a1 c1 a3 c3 ins outs S j base c d x m U c2 vs}(h:DgH w P n cap Q a bs a1 c1 a3 c3 ins outs S j base c d x m U c2 vs W)(ah:c%8=1):pP w P n cap Q a bs a1 c1 a3 c3 ins outs (S++[eK 6 m x 0 0]++[eK 6 m S.length 0 0],j) base c d x m W:=by
 exact no_implicit_lambda% qap
