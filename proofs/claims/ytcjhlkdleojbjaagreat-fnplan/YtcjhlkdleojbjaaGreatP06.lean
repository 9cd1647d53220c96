import Derived.Test.YtcjhlkdleojbjaaGreatP05
import Derived.Test.YtcjhlkdleojbjaaGreatP04
namespace Go.Proofs.Z
open Tryz
set_option maxRecDepth 1000000
set_option maxHeartbeats 0
open Go.RowKit Flt
attribute[local go_sem] eF eE eD
theorem FH(w op len A J C)(K l bf Y:Nat)(h:¬(1<=op/\op<=13/\1<=len/\len<=1000)):
  Calls prog 53 #[lN op len A J C K,hA l,hA bf,hA Y] w λe B=>e=.returned (.bool false)/\B=w.alloc (fH op len A J C K):=by
 by_cases b0:op<1
 ·exact xem
 have bE:decide (op<1)=false:=yay b0;by_cases a1:13<op
 ·exact xem
 have R:decide (13<op)=false:=yay a1;by_cases U:len<1
 ·exact xem
 have aS:decide (len<1)=false:=yay U;have a3:1000<len:=xaa;exact xem
theorem yH(op len C l bf Y)(h:¬(1<=op/\op<=13/\1<=len/\len<=1000)):i8 op len C l bf Y=false:=by
 rw[Bool.eq_false_iff];intro cj;apply h;simp only[i8,Bool.and_eq_true]at cj;obtain⟨F,N⟩:=cj;simp only[lenB,decide_eq_true_eq]at F;rcases pV op with c|c|c|c|c|c|c|c|c|c|c|c|c|c
 all_goals first|omega|skip
 obtain⟨_,_,_,_,_,_,_,_,aP,u,y,H,_⟩:=c;unfold eV at N;rw[hC aP,hC u,hC y,hC H]at N;split at N
 ·omega
 cases N
theorem AQ(w op len A J C)(K l bf Y:Nat):
  Calls prog 53 #[lN op len A J C K,hA l,hA bf,hA Y] w λe B=>e=.returned (.bool (i8 op len C l bf Y))/\B=w.alloc (fH op len A J C K):=by
 by_cases h:1<=op/\op<=13/\1<=len/\len<=1000
 ·obtain⟨F,N,h3,a6⟩:=h;have g:E _:=λw=>FE op w xaa xaa;have ct:E _:=λw=>lO op w xaa xaa;have HL:E (lenB len=true):=decide_eq_true ⟨h3,a6⟩
  have HF:E (i8 op len C l bf Y=if uV op=true then ((l:Int)==len&&((decide (sQ op<2)||(bf:Int)==len)&&(decide (sQ op<3)||(Y:Int)==len)))else (op==1||eV op len C [l])):=by
   show _=_;rw[i8,HL.o];rcases (by omega:op=1\/op=2\/op=3\/op=4\/op=5\/op=6\/op=7\/op=8\/op=9\/op=10\/op=11\/op=12\/op=13) with rfl|rfl|rfl|rfl|rfl|rfl|rfl|rfl|rfl|rfl|rfl|rfl|rfl<;>simp[eV,cnt,sQ,uV]
  rw[HF.o];cases aZ:uV op
  ·rw[aZ]at g;rcases (by have:=of_decide_eq_false aZ;omega:op=1\/op=9\/op=10\/op=11\/op=12) with rfl|rfl|rfl|rfl|rfl
   all_goals
    clear HL HF aZ ct
    go_enter func53,ntmps53
    go_wp2_with (go_at_call 82;refine yaj (g.o _) ?_;rintro e ag ⟨rfl,rfl⟩)
    all_goals
     go_ret
     exact⟨by simp[eV,lenB,fR]<;>grind,rfl⟩
  rw[aZ]at g;clear HL HF aZ;generalize sQ op=m at ct⊢;go_enter func53,ntmps53;go_wp2_with (first|(go_at_call 82;refine yaj (g.o _) ?_;rintro e ag ⟨rfl,rfl⟩)|(go_at_call 51;refine yaj (ct.o _) ?_;rintro e ag ⟨rfl,rfl⟩))
  all_goals
   go_ret
   exact⟨by simp<;>grind,rfl⟩
 rw[yH op len C l bf Y h];exact FH w op len A J C K l bf Y h
