import Derived.Test.YtkjahdegnkmejaaGreatP01
namespace Go.Proofs.Z
open Tryz
set_option maxRecDepth 1000000
set_option maxHeartbeats 0
open Go.RowKit Flt
attribute[local go_sem] eE eC eB
theorem EK(w op len A I C)(bA y S b:Nat)(h:¬(1<=op/\op<=13/\1<=len/\len<=1000)):
  Calls prog 72 #[qL op len A I C bA,ih y,ih S,ih b] w λe O=>e=.returned (.bool false)/\O=w.alloc (iK op len A I C bA):=by
 by_cases bK:op<1
 ·exact xfd
 have bE:decide (op<1)=false:=yay bK;by_cases a1:13<op
 ·exact xfd
 have R:decide (13<op)=false:=yay a1;by_cases K:len<1
 ·exact xfd
 have a6:decide (len<1)=false:=yay K;have a3:1000<len:=xaa;exact xfd
theorem EL(op len C y S b)(h:¬(1<=op/\op<=13/\1<=len/\len<=1000)):rG op len C y S b=false:=by
 rw[Bool.eq_false_iff];intro bN;apply h;simp only[rG,Bool.and_eq_true]at bN;obtain⟨B,N⟩:=bN;simp only[lenB,decide_eq_true_eq]at B;rcases sF op with c|c|c|c|c|c|c|c|c|c|c|c|c|c
 all_goals first|omega|skip
 obtain⟨_,_,_,_,_,_,_,_,aG,u,F,G,_⟩:=c;unfold eV at N;rw[ip aG,ip u,ip F,ip G]at N;split at N
 ·omega
 cases N
theorem EM(w op len A I C)(bA y S b:Nat):
  Calls prog 72 #[qL op len A I C bA,ih y,ih S,ih b] w λe O=>e=.returned (.bool (rG op len C y S b))/\O=w.alloc (iK op len A I C bA):=by
 by_cases h:1<=op/\op<=13/\1<=len/\len<=1000
 ·obtain⟨B,N,h3,bp⟩:=h;have d:V _:=λw=>Ev op w xaa xaa;have db:V _:=λw=>jR op w xaa xaa;have HL:V (lenB len=true):=decide_eq_true ⟨h3,bp⟩
  have aO:V (rG op len C y S b=if yd op=true then ((y:Int)==len&&((decide (vY op<2)||(S:Int)==len)&&(decide (vY op<3)||(b:Int)==len)))else (op==1||eV op len C [y])):=by
   show _=_;rw[rG,HL.o];rcases (by omega:op=1\/op=2\/op=3\/op=4\/op=5\/op=6\/op=7\/op=8\/op=9\/op=10\/op=11\/op=12\/op=13) with rfl|rfl|rfl|rfl|rfl|rfl|rfl|rfl|rfl|rfl|rfl|rfl|rfl<;>simp[eV,cnt,vY,yd]
  rw[aO.o];cases ay:yd op
  ·rw[ay]at d;rcases (by have:=of_decide_eq_false ay;omega:op=1\/op=9\/op=10\/op=11\/op=12) with rfl|rfl|rfl|rfl|rfl
   all_goals
    clear HL aO ay db
    go_enter func72,ntmps72
    go_wp2_with (go_at_call 96;refine yaj (d.o _) ?_;rintro e ak ⟨rfl,rfl⟩)
    all_goals
     go_ret
     exact⟨by simp[eV,lenB,gn]<;>grind,rfl⟩
  rw[ay]at d;clear HL aO ay;generalize vY op=m at db⊢;go_enter func72,ntmps72;go_wp2_with (first|(go_at_call 96;refine yaj (d.o _) ?_;rintro e ak ⟨rfl,rfl⟩)|(go_at_call 38;refine yaj (db.o _) ?_;rintro e ak ⟨rfl,rfl⟩))
  all_goals
   go_ret
   exact⟨by simp<;>grind,rfl⟩
 rw[EL op len C y S b h];exact EK w op len A I C bA y S b h
