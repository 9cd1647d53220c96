import Derived.Test.YtbhmhdllnfkjhaaGreatP04
namespace Go.Proofs.Z
open Tryz
set_option maxRecDepth 1000000
set_option maxHeartbeats 0
open Go.RowKit Flt
attribute[local go_sem] eG eE eD
theorem Fg(w op len A R C)(K l X f:Nat)(h:¬(1<=op/\op<=13/\1<=len/\len<=1000)):
  Calls prog 75 #[kT op len A R C K,hD l,hD X,hD f] w λe I=>e=.returned (.bool false)/\I=w.alloc (fB op len A R C K):=by
 by_cases bV:op<1
 ·exact xex
 have bH:decide (op<1)=false:=yay bV;by_cases a1:13<op
 ·exact xex
 have O:decide (13<op)=false:=yay a1;by_cases Y:len<1
 ·exact xex
 have ax:decide (len<1)=false:=yay Y;have a3:1000<len:=xaa;exact xex
theorem yx(op len C l X f)(h:¬(1<=op/\op<=13/\1<=len/\len<=1000)):jm op len C l X f=false:=by
 rw[Bool.eq_false_iff];intro cG;apply h;simp only[jm,Bool.and_eq_true]at cG;obtain⟨B,J⟩:=cG;simp only[lenB,decide_eq_true_eq]at B;rcases qw op with c|c|c|c|c|c|c|c|c|c|c|c|c|c
 all_goals first|omega|skip
 obtain⟨_,_,_,_,_,_,_,_,bp,u,H,T,_⟩:=c;unfold eY at J;rw[hF bp,hF u,hF H,hF T]at J;split at J
 ·omega
 cases J
theorem AC(w op len A R C)(K l X f:Nat):
  Calls prog 75 #[kT op len A R C K,hD l,hD X,hD f] w λe I=>e=.returned (.bool (jm op len C l X f))/\I=w.alloc (fB op len A R C K):=by
 by_cases h:1<=op/\op<=13/\1<=len/\len<=1000
 ·obtain⟨B,J,h3,a0⟩:=h;have j:V _:=λw=>Fd op w xaa xaa;have cC:V _:=λw=>kX op w xaa xaa;have HL:V (lenB len=true):=decide_eq_true ⟨h3,a0⟩
  have aI:V (jm op len C l X f=if uZ op=true then ((l:Int)==len&&((decide (tv op<2)||(X:Int)==len)&&(decide (tv op<3)||(f:Int)==len)))else (op==1||eY op len C [l])):=by
   show _=_;rw[jm,HL.o];rcases (by omega:op=1\/op=2\/op=3\/op=4\/op=5\/op=6\/op=7\/op=8\/op=9\/op=10\/op=11\/op=12\/op=13) with rfl|rfl|rfl|rfl|rfl|rfl|rfl|rfl|rfl|rfl|rfl|rfl|rfl<;>simp[eY,cnt,tv,uZ]
  rw[aI.o];cases Z:uZ op
  ·rw[Z]at j;rcases (by have:=of_decide_eq_false Z;omega:op=1\/op=9\/op=10\/op=11\/op=12) with rfl|rfl|rfl|rfl|rfl
   all_goals
    clear HL aI Z cC
    go_enter func75,ntmps75
    go_wp2_with (go_at_call 80;refine yaj (j.o _) ?_;rintro e ag ⟨rfl,rfl⟩)
    all_goals
     go_ret
     exact⟨by simp[eY,lenB,fJ]<;>grind,rfl⟩
  rw[Z]at j;clear HL aI Z;generalize tv op=m at cC⊢;go_enter func75,ntmps75;go_wp2_with (first|(go_at_call 80;refine yaj (j.o _) ?_;rintro e ag ⟨rfl,rfl⟩)|(go_at_call 48;refine yaj (cC.o _) ?_;rintro e ag ⟨rfl,rfl⟩))
  all_goals
   go_ret
   exact⟨by simp<;>grind,rfl⟩
 rw[yx op len C l X f h];exact Fg w op len A R C K l X f h
