import Derived.Test.YtamokkcfibdghaaGreatP06
import Derived.Test.YtamokkcfibdghaaGreatP04
namespace Go.Proofs.Z
open Tryz
set_option maxRecDepth 1000000
set_option maxHeartbeats 0
open Go.RowKit Flt
attribute [local go_sem] eG eE eD
theorem Mj(w len A I C)(K l F s:Nat)(B:1<=len)(R:len<=1000):
  Calls prog 39 #[ii 1 len A I C K,hI l,hI F,hI s] w λe J=>e=.returned (.bool (fk 1 len C l F s))/\J=w.alloc (eK 1 len A I C K):=by
 rw[show fk 1 len C l F s=true by simp[fk,eR,cnt,lenB];omega];go_enter func39,ntmps39;go_wp2_with (first|(go_at_call 61;refine(fR _ _ xaa xaa).mono ?_;rintro e af ⟨rfl,rfl⟩;simp only[show fF 1=false from rfl])|(go_at_call 37;refine(fd _ _ xaa xaa).mono ?_;rintro e af ⟨rfl,rfl⟩;simp only[show iB 1=0 from rfl]));go_ret;exact⟨rfl,rfl⟩
theorem Mk(w len A I C)(K l F s:Nat)(B:1<=len)(R:len<=1000):
  Calls prog 39 #[ii 2 len A I C K,hI l,hI F,hI s] w λe J=>e=.returned (.bool (fk 2 len C l F s))/\J=w.alloc (eK 2 len A I C K):=by
 by_cases bw:(l:Int)=len
 ·have bb:((l:Int)==len)=true:=beq_iff_eq.2 bw;by_cases a1:(F:Int)=len
  ·have N:((F:Int)==len)=true:=beq_iff_eq.2 a1;rw[show fk 2 len C l F s=true by simp[fk,eR,cnt,lenB];omega];exact xec
  have N:((F:Int)==len)=false:=yam a1;rw[show fk 2 len C l F s=false by rw[Bool.eq_false_iff];intro b3;simp[fk,eR,cnt,lenB]at b3;omega];exact xec
 have bb:((l:Int)==len)=false:=yam bw;rw[show fk 2 len C l F s=false by rw[Bool.eq_false_iff];intro b3;simp[fk,eR,cnt,lenB]at b3;omega];clear bw;exact xco
theorem Mm(w len A I C)(K l F s:Nat)(B:1<=len)(R:len<=1000):
  Calls prog 39 #[ii 3 len A I C K,hI l,hI F,hI s] w λe J=>e=.returned (.bool (fk 3 len C l F s))/\J=w.alloc (eK 3 len A I C K):=by
 by_cases bw:(l:Int)=len
 ·have bb:((l:Int)==len)=true:=beq_iff_eq.2 bw;by_cases a1:(F:Int)=len
  ·have N:((F:Int)==len)=true:=beq_iff_eq.2 a1;rw[show fk 3 len C l F s=true by simp[fk,eR,cnt,lenB];omega];exact xed
  have N:((F:Int)==len)=false:=yam a1;rw[show fk 3 len C l F s=false by rw[Bool.eq_false_iff];intro b3;simp[fk,eR,cnt,lenB]at b3;omega];exact xed
 have bb:((l:Int)==len)=false:=yam bw;rw[show fk 3 len C l F s=false by rw[Bool.eq_false_iff];intro b3;simp[fk,eR,cnt,lenB]at b3;omega];clear bw;exact xcp
theorem Mn(w len A I C)(K l F s:Nat)(B:1<=len)(R:len<=1000):
  Calls prog 39 #[ii 4 len A I C K,hI l,hI F,hI s] w λe J=>e=.returned (.bool (fk 4 len C l F s))/\J=w.alloc (eK 4 len A I C K):=by
 by_cases bw:(l:Int)=len
 ·have bb:((l:Int)==len)=true:=beq_iff_eq.2 bw;by_cases a1:(F:Int)=len
  ·have N:((F:Int)==len)=true:=beq_iff_eq.2 a1;rw[show fk 4 len C l F s=true by simp[fk,eR,cnt,lenB];omega];exact xee
  have N:((F:Int)==len)=false:=yam a1;rw[show fk 4 len C l F s=false by rw[Bool.eq_false_iff];intro b3;simp[fk,eR,cnt,lenB]at b3;omega];exact xee
 have bb:((l:Int)==len)=false:=yam bw;rw[show fk 4 len C l F s=false by rw[Bool.eq_false_iff];intro b3;simp[fk,eR,cnt,lenB]at b3;omega];clear bw;exact xcq
theorem Mo(w len A I C)(K l F s:Nat)(B:1<=len)(R:len<=1000):
  Calls prog 39 #[ii 5 len A I C K,hI l,hI F,hI s] w λe J=>e=.returned (.bool (fk 5 len C l F s))/\J=w.alloc (eK 5 len A I C K):=by
 by_cases bw:(l:Int)=len
 ·have bb:((l:Int)==len)=true:=beq_iff_eq.2 bw;by_cases a1:(F:Int)=len
  ·have N:((F:Int)==len)=true:=beq_iff_eq.2 a1;rw[show fk 5 len C l F s=true by simp[fk,eR,cnt,lenB];omega];exact xef
  have N:((F:Int)==len)=false:=yam a1;rw[show fk 5 len C l F s=false by rw[Bool.eq_false_iff];intro b3;simp[fk,eR,cnt,lenB]at b3;omega];exact xef
 have bb:((l:Int)==len)=false:=yam bw;rw[show fk 5 len C l F s=false by rw[Bool.eq_false_iff];intro b3;simp[fk,eR,cnt,lenB]at b3;omega];clear bw;exact xcr
theorem Mp(w len A I C)(K l F s:Nat)(B:1<=len)(R:len<=1000):
  Calls prog 39 #[ii 6 len A I C K,hI l,hI F,hI s] w λe J=>e=.returned (.bool (fk 6 len C l F s))/\J=w.alloc (eK 6 len A I C K):=by
 by_cases bw:(l:Int)=len
 ·have bb:((l:Int)==len)=true:=beq_iff_eq.2 bw;rw[show fk 6 len C l F s=true by simp[fk,eR,cnt,lenB];omega];exact xej
 have bb:((l:Int)==len)=false:=yam bw;rw[show fk 6 len C l F s=false by rw[Bool.eq_false_iff];intro b3;simp[fk,eR,cnt,lenB]at b3;omega];exact xej
theorem Mq(w len A I C)(K l F s:Nat)(B:1<=len)(R:len<=1000):
  Calls prog 39 #[ii 7 len A I C K,hI l,hI F,hI s] w λe J=>e=.returned (.bool (fk 7 len C l F s))/\J=w.alloc (eK 7 len A I C K):=by
 by_cases bw:(l:Int)=len
 ·have bb:((l:Int)==len)=true:=beq_iff_eq.2 bw;by_cases a1:(F:Int)=len
  ·have N:((F:Int)==len)=true:=beq_iff_eq.2 a1;rw[show fk 7 len C l F s=true by simp[fk,eR,cnt,lenB];omega];exact xeg
  have N:((F:Int)==len)=false:=yam a1;rw[show fk 7 len C l F s=false by rw[Bool.eq_false_iff];intro b3;simp[fk,eR,cnt,lenB]at b3;omega];exact xeg
 have bb:((l:Int)==len)=false:=yam bw;rw[show fk 7 len C l F s=false by rw[Bool.eq_false_iff];intro b3;simp[fk,eR,cnt,lenB]at b3;omega];clear bw;exact xcs
theorem Mr(w len A I C)(K l F s:Nat)(B:1<=len)(R:len<=1000):
  Calls prog 39 #[ii 8 len A I C K,hI l,hI F,hI s] w λe J=>e=.returned (.bool (fk 8 len C l F s))/\J=w.alloc (eK 8 len A I C K):=by
 by_cases bw:(l:Int)=len
 ·have bb:((l:Int)==len)=true:=beq_iff_eq.2 bw;by_cases a1:(F:Int)=len
  ·have N:((F:Int)==len)=true:=beq_iff_eq.2 a1;by_cases a2:(s:Int)=len
   ·have aA:((s:Int)==len)=true:=beq_iff_eq.2 a2;rw[show fk 8 len C l F s=true by simp[fk,eR,cnt,lenB];omega];exact xeb
   have aA:((s:Int)==len)=false:=yam a2;rw[show fk 8 len C l F s=false by rw[Bool.eq_false_iff];intro b3;simp[fk,eR,cnt,lenB]at b3;omega];exact xeb
  have N:((F:Int)==len)=false:=yam a1;rw[show fk 8 len C l F s=false by rw[Bool.eq_false_iff];intro b3;simp[fk,eR,cnt,lenB]at b3;omega];clear bw a1;exact xbr
 have bb:((l:Int)==len)=false:=yam bw;rw[show fk 8 len C l F s=false by rw[Bool.eq_false_iff];intro b3;simp[fk,eR,cnt,lenB]at b3;omega];clear bw;exact xbr
theorem Ms(w len A I C)(K l F s:Nat)(B:1<=len)(R:len<=1000):
  Calls prog 39 #[ii 9 len A I C K,hI l,hI F,hI s] w λe J=>e=.returned (.bool (fk 9 len C l F s))/\J=w.alloc (eK 9 len A I C K):=by
 by_cases bw:len=1
 ·have bb:(len==1)=true:=beq_iff_eq.2 bw;by_cases a1:1<=(l:Int)
  ·have N:=a1;by_cases a2:(l:Int)<=1000
   ·have aA:=a2;rw[show fk 9 len C l F s=true by simp[fk,eR,cnt,lenB];omega];exact xbq
   have aA:decide ((l:Int)<=1000)=false:=yax a2;exact xbx
  have N:decide (1<=(l:Int))=false:=yax a1;exact xbx
 have bb:(len==1)=false:=yam bw;exact xbx
theorem I1(w len A I C)(K l F s:Nat)(B:1<=len)(R:len<=1000):
  Calls prog 39 #[ii 10 len A I C K,hI l,hI F,hI s] w λe J=>e=.returned (.bool (fk 10 len C l F s))/\J=w.alloc (eK 10 len A I C K):=by
 by_cases bw:(l:Int)=1
 ·have bb:((l:Int)==1)=true:=beq_iff_eq.2 bw;rw[show fk 10 len C l F s=true by simp[fk,eR,cnt,lenB];omega];exact xeh
 have bb:((l:Int)==1)=false:=yam bw;rw[show fk 10 len C l F s=false by rw[Bool.eq_false_iff];intro b3;simp[fk,eR,cnt,lenB]at b3;omega];exact xeh
theorem I2(w len A I C)(K l F s:Nat)(B:1<=len)(R:len<=1000):
  Calls prog 39 #[ii 11 len A I C K,hI l,hI F,hI s] w λe J=>e=.returned (.bool (fk 11 len C l F s))/\J=w.alloc (eK 11 len A I C K):=by
 by_cases bw:len=1
 ·have bb:(len==1)=true:=beq_iff_eq.2 bw;by_cases a1:1<=(l:Int)
  ·have N:=a1;by_cases a2:(l:Int)<=1000
   ·have aA:=a2;by_cases a3:0<=C
    ·have ab:=a3;by_cases a4:C<(l:Int)
     ·have aI:=a4;rw[show fk 11 len C l F s=true by simp[fk,eR,cnt,lenB,fI];omega];exact xav
     have aI:decide (C<(l:Int))=false:=yax a4;exact xau
    have ab:decide (0<=C)=false:=yax a3;exact xau
   have aA:decide ((l:Int)<=1000)=false:=yax a2;exact xau
  have N:decide (1<=(l:Int))=false:=yax a1;exact xau
 have bb:(len==1)=false:=yam bw;exact xau
theorem I3(w len A I C)(K l F s:Nat)(B:1<=len)(R:len<=1000):
  Calls prog 39 #[ii 12 len A I C K,hI l,hI F,hI s] w λe J=>e=.returned (.bool (fk 12 len C l F s))/\J=w.alloc (eK 12 len A I C K):=by
 by_cases bw:(l:Int)=1
 ·have bb:((l:Int)==1)=true:=beq_iff_eq.2 bw;by_cases a1:0<=C
  ·have N:=a1;by_cases a2:C<len
   ·have aA:=a2;rw[show fk 12 len C l F s=true by simp[fk,eR,cnt,lenB,fI];omega];exact xbp
   have aA:decide (C<len)=false:=yax a2;exact xbv
  have N:decide (0<=C)=false:=yax a1;exact xbv
 have bb:((l:Int)==1)=false:=yam bw;exact xbv
theorem I4(w len A I C)(K l F s:Nat)(B:1<=len)(R:len<=1000):
  Calls prog 39 #[ii 13 len A I C K,hI l,hI F,hI s] w λe J=>e=.returned (.bool (fk 13 len C l F s))/\J=w.alloc (eK 13 len A I C K):=by
 by_cases bw:(l:Int)=len
 ·have bb:((l:Int)==len)=true:=beq_iff_eq.2 bw;rw[show fk 13 len C l F s=true by simp[fk,eR,cnt,lenB];omega];exact xei
 have bb:((l:Int)==len)=false:=yam bw;rw[show fk 13 len C l F s=false by rw[Bool.eq_false_iff];intro b3;simp[fk,eR,cnt,lenB]at b3;omega];exact xei
theorem E6(w op len A I C)(K l F s:Nat)(h:¬(1<=op/\op<=13/\1<=len/\len<=1000)):
  Calls prog 39 #[ii op len A I C K,hI l,hI F,hI s] w λe J=>e=.returned (.bool false)/\J=w.alloc (eK op len A I C K):=by
 by_cases bw:op<1
 ·exact xgf
 have bb:decide (op<1)=false:=yax bw;by_cases a1:13<op
 ·exact xgf
 have N:decide (13<op)=false:=yax a1;by_cases a2:len<1
 ·exact xgf
 have aA:decide (len<1)=false:=yax a2;have a3:1000<len:=xaa;exact xgf
theorem yz(op len C l F s)(h:¬(1<=op/\op<=13/\1<=len/\len<=1000)):fk op len C l F s=false:=by
 rw[Bool.eq_false_iff];intro b3;apply h;simp only[fk,Bool.and_eq_true]at b3;obtain⟨B,R⟩:=b3;simp only[lenB,decide_eq_true_eq]at B;rcases qh op with c|c|c|c|c|c|c|c|c|c|c|c|c|c
 all_goals first|omega|skip
 obtain⟨_,_,_,_,_,_,_,_,bm,ab,ae,ak,_⟩:=c;unfold eR at R;rw[hJ bm,hJ ab,hJ ae,hJ ak]at R;split at R
 ·omega
 cases R
theorem kC(w op len A I C)(K l F s:Nat):
  Calls prog 39 #[ii op len A I C K,hI l,hI F,hI s] w λe J=>e=.returned (.bool (fk op len C l F s))/\J=w.alloc (eK op len A I C K):=by
 by_cases h:1<=op/\op<=13/\1<=len/\len<=1000
 ·obtain⟨B,R,h3,a8⟩:=h;have:op=1\/op=2\/op=3\/op=4\/op=5\/op=6\/op=7\/op=8\/op=9\/op=10\/op=11\/op=12\/op=13:=xaa;rcases this with rfl|rfl|rfl|rfl|rfl|rfl|rfl|rfl|rfl|rfl|rfl|rfl|rfl
  ·exact Mj w len A I C K l F s h3 a8
  ·exact Mk w len A I C K l F s h3 a8
  ·exact Mm w len A I C K l F s h3 a8
  ·exact Mn w len A I C K l F s h3 a8
  ·exact Mo w len A I C K l F s h3 a8
  ·exact Mp w len A I C K l F s h3 a8
  ·exact Mq w len A I C K l F s h3 a8
  ·exact Mr w len A I C K l F s h3 a8
  ·exact Ms w len A I C K l F s h3 a8
  ·exact I1 w len A I C K l F s h3 a8
  ·exact I2 w len A I C K l F s h3 a8
  ·exact I3 w len A I C K l F s h3 a8
  exact I4 w len A I C K l F s h3 a8
 rw[yz op len C l F s h];exact E6 w op len A I C K l F s h
