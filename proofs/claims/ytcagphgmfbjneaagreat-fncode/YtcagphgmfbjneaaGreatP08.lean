import Derived.Test.YtcagphgmfbjneaaGreatP07
import Derived.Test.YtcagphgmfbjneaaGreatP06
namespace Go.Proofs.Z
open Tryz
set_option maxRecDepth 1000000
set_option maxHeartbeats 0
open Go.RowKit Flt
attribute[local go_sem] eE eD eC
theorem FX(w op len A I C)(K S X f:Nat)(h:¬(1<=op/\op<=13/\1<=len/\len<=1000)):
  Calls prog 47 #[lK op len A I C K,h1 S,h1 X,h1 f] w λe B=>e=.returned (.bool false)/\B=w.alloc (fW op len A I C K):=by
 by_cases cg:op<1
 ·exact xeu
 have bL:decide (op<1)=false:=yay cg;by_cases a1:13<op
 ·exact xeu
 have U:decide (13<op)=false:=yay a1;by_cases J:len<1
 ·exact xeu
 have aV:decide (len<1)=false:=yay J;have a3:1000<len:=xaa;exact xeu
theorem zp(op len C S X f)(h:¬(1<=op/\op<=13/\1<=len/\len<=1000)):jQ op len C S X f=false:=by
 rw[Bool.eq_false_iff];intro bx;apply h;simp only[jQ,Bool.and_eq_true]at bx;obtain⟨F,h2⟩:=bx;simp only[lenB,decide_eq_true_eq]at F;rcases qp op with c|c|c|c|c|c|c|c|c|c|c|c|c|c
 all_goals first|omega|skip
 obtain⟨_,_,_,_,_,_,_,_,ae,H,J,T,_⟩:=c;unfold eQ at h2;rw[h6 ae,h6 H,h6 J,h6 T]at h2;split at h2
 ·omega
 cases h2
theorem xF(w op len A I C)(K S X f:Nat):
  Calls prog 47 #[lK op len A I C K,h1 S,h1 X,h1 f] w λe B=>e=.returned (.bool (jQ op len C S X f))/\B=w.alloc (fW op len A I C K):=by
 by_cases h:1<=op/\op<=13/\1<=len/\len<=1000
 ·obtain⟨F,h2,h3,h4⟩:=h;have j:V _:=λw=>Br op w xaa xaa;have ca:V _:=λw=>jr op w xaa xaa;have HL:V (lenB len=true):=decide_eq_true ⟨h3,h4⟩
  have aD:V (jQ op len C S X f=if ud op=true then ((S:Int)==len&&((decide (sI op<2)||(X:Int)==len)&&(decide (sI op<3)||(f:Int)==len)))else (op==1||eQ op len C [S])):=by
   show _=_;rw[jQ,HL.o];rcases (by omega:op=1\/op=2\/op=3\/op=4\/op=5\/op=6\/op=7\/op=8\/op=9\/op=10\/op=11\/op=12\/op=13) with rfl|rfl|rfl|rfl|rfl|rfl|rfl|rfl|rfl|rfl|rfl|rfl|rfl<;>simp[eQ,cnt,sI,ud]
  rw[aD.o];cases Y:ud op
  ·rw[Y]at j;rcases (by have:=of_decide_eq_false Y;omega:op=1\/op=9\/op=10\/op=11\/op=12) with rfl|rfl|rfl|rfl|rfl
   all_goals
    clear HL aD Y ca
    go_enter func47,ntmps47
    go_wp2_with (go_at_call 68;refine yaj (j.o _) ?_;rintro e am ⟨rfl,rfl⟩)
    all_goals
     go_ret
     exact⟨by simp[eQ,lenB,gm]<;>grind,rfl⟩
  rw[Y]at j;clear HL aD Y;generalize sI op=m at ca⊢;go_enter func47,ntmps47;go_wp2_with (first|(go_at_call 68;refine yaj (j.o _) ?_;rintro e am ⟨rfl,rfl⟩)|(go_at_call 19;refine yaj (ca.o _) ?_;rintro e am ⟨rfl,rfl⟩))
  all_goals
   go_ret
   exact⟨by simp<;>grind,rfl⟩
 rw[zp op len C S X f h];exact FX w op len A I C K S X f h
