import Derived.Test.YtaheilbiakhlgaaGreatP06
import Derived.Test.YtaheilbiakhlgaaGreatP04
namespace Go.Proofs.Z
open Tryz
set_option maxRecDepth 1000000
set_option maxHeartbeats 0
open Go.RowKit Flt
attribute[local go_sem] eF eE eD
theorem L4(w len A I C)(K P X l:Nat)(B:1<=len)(U:len<=1000):
  Calls prog 44 #[gO 1 len A I C K,hF P,hF X,hF l] w λe J=>e=.returned (.bool (fp 1 len C P X l))/\J=w.alloc (eM 1 len A I C K):=by
 rw[show fp 1 len C P X l=true by simp[fp,eR,cnt,lenB];omega];go_enter func44,ntmps44;go_wp2_with (first|(go_at_call 67;refine(fX _ _ xaa xaa).mono ?_;rintro e ag ⟨rfl,rfl⟩;simp only[show fL 1=false from rfl])|(go_at_call 42;refine(e8 _ _ xaa xaa).mono ?_;rintro e ag ⟨rfl,rfl⟩;simp only[show iw 1=0 from rfl]));go_ret;exact⟨rfl,rfl⟩
theorem L5(w len A I C)(K P X l:Nat)(B:1<=len)(U:len<=1000):
  Calls prog 44 #[gO 2 len A I C K,hF P,hF X,hF l] w λe J=>e=.returned (.bool (fp 2 len C P X l))/\J=w.alloc (eM 2 len A I C K):=by
 by_cases br:(P:Int)=len
 ·have a9:((P:Int)==len)=true:=beq_iff_eq.2 br;by_cases a1:(X:Int)=len
  ·have N:((X:Int)==len)=true:=beq_iff_eq.2 a1;rw[show fp 2 len C P X l=true by simp[fp,eR,cnt,lenB];omega];exact xeb
  have N:((X:Int)==len)=false:=yam a1;rw[show fp 2 len C P X l=false by rw[Bool.eq_false_iff];intro ba;simp[fp,eR,cnt,lenB]at ba;omega];exact xeb
 have a9:((P:Int)==len)=false:=yam br;rw[show fp 2 len C P X l=false by rw[Bool.eq_false_iff];intro ba;simp[fp,eR,cnt,lenB]at ba;omega];clear br;exact xck
theorem L6(w len A I C)(K P X l:Nat)(B:1<=len)(U:len<=1000):
  Calls prog 44 #[gO 3 len A I C K,hF P,hF X,hF l] w λe J=>e=.returned (.bool (fp 3 len C P X l))/\J=w.alloc (eM 3 len A I C K):=by
 by_cases br:(P:Int)=len
 ·have a9:((P:Int)==len)=true:=beq_iff_eq.2 br;by_cases a1:(X:Int)=len
  ·have N:((X:Int)==len)=true:=beq_iff_eq.2 a1;rw[show fp 3 len C P X l=true by simp[fp,eR,cnt,lenB];omega];exact xec
  have N:((X:Int)==len)=false:=yam a1;rw[show fp 3 len C P X l=false by rw[Bool.eq_false_iff];intro ba;simp[fp,eR,cnt,lenB]at ba;omega];exact xec
 have a9:((P:Int)==len)=false:=yam br;rw[show fp 3 len C P X l=false by rw[Bool.eq_false_iff];intro ba;simp[fp,eR,cnt,lenB]at ba;omega];clear br;exact xcl
theorem L7(w len A I C)(K P X l:Nat)(B:1<=len)(U:len<=1000):
  Calls prog 44 #[gO 4 len A I C K,hF P,hF X,hF l] w λe J=>e=.returned (.bool (fp 4 len C P X l))/\J=w.alloc (eM 4 len A I C K):=by
 by_cases br:(P:Int)=len
 ·have a9:((P:Int)==len)=true:=beq_iff_eq.2 br;by_cases a1:(X:Int)=len
  ·have N:((X:Int)==len)=true:=beq_iff_eq.2 a1;rw[show fp 4 len C P X l=true by simp[fp,eR,cnt,lenB];omega];exact xed
  have N:((X:Int)==len)=false:=yam a1;rw[show fp 4 len C P X l=false by rw[Bool.eq_false_iff];intro ba;simp[fp,eR,cnt,lenB]at ba;omega];exact xed
 have a9:((P:Int)==len)=false:=yam br;rw[show fp 4 len C P X l=false by rw[Bool.eq_false_iff];intro ba;simp[fp,eR,cnt,lenB]at ba;omega];clear br;exact xcm
theorem L8(w len A I C)(K P X l:Nat)(B:1<=len)(U:len<=1000):
  Calls prog 44 #[gO 5 len A I C K,hF P,hF X,hF l] w λe J=>e=.returned (.bool (fp 5 len C P X l))/\J=w.alloc (eM 5 len A I C K):=by
 by_cases br:(P:Int)=len
 ·have a9:((P:Int)==len)=true:=beq_iff_eq.2 br;by_cases a1:(X:Int)=len
  ·have N:((X:Int)==len)=true:=beq_iff_eq.2 a1;rw[show fp 5 len C P X l=true by simp[fp,eR,cnt,lenB];omega];exact xee
  have N:((X:Int)==len)=false:=yam a1;rw[show fp 5 len C P X l=false by rw[Bool.eq_false_iff];intro ba;simp[fp,eR,cnt,lenB]at ba;omega];exact xee
 have a9:((P:Int)==len)=false:=yam br;rw[show fp 5 len C P X l=false by rw[Bool.eq_false_iff];intro ba;simp[fp,eR,cnt,lenB]at ba;omega];clear br;exact xcn
theorem L9(w len A I C)(K P X l:Nat)(B:1<=len)(U:len<=1000):
  Calls prog 44 #[gO 6 len A I C K,hF P,hF X,hF l] w λe J=>e=.returned (.bool (fp 6 len C P X l))/\J=w.alloc (eM 6 len A I C K):=by
 by_cases br:(P:Int)=len
 ·have a9:((P:Int)==len)=true:=beq_iff_eq.2 br;rw[show fp 6 len C P X l=true by simp[fp,eR,cnt,lenB];omega];exact xei
 have a9:((P:Int)==len)=false:=yam br;rw[show fp 6 len C P X l=false by rw[Bool.eq_false_iff];intro ba;simp[fp,eR,cnt,lenB]at ba;omega];exact xei
theorem Ma(w len A I C)(K P X l:Nat)(B:1<=len)(U:len<=1000):
  Calls prog 44 #[gO 7 len A I C K,hF P,hF X,hF l] w λe J=>e=.returned (.bool (fp 7 len C P X l))/\J=w.alloc (eM 7 len A I C K):=by
 by_cases br:(P:Int)=len
 ·have a9:((P:Int)==len)=true:=beq_iff_eq.2 br;by_cases a1:(X:Int)=len
  ·have N:((X:Int)==len)=true:=beq_iff_eq.2 a1;rw[show fp 7 len C P X l=true by simp[fp,eR,cnt,lenB];omega];exact xef
  have N:((X:Int)==len)=false:=yam a1;rw[show fp 7 len C P X l=false by rw[Bool.eq_false_iff];intro ba;simp[fp,eR,cnt,lenB]at ba;omega];exact xef
 have a9:((P:Int)==len)=false:=yam br;rw[show fp 7 len C P X l=false by rw[Bool.eq_false_iff];intro ba;simp[fp,eR,cnt,lenB]at ba;omega];clear br;exact xco
theorem Mc(w len A I C)(K P X l:Nat)(B:1<=len)(U:len<=1000):
  Calls prog 44 #[gO 8 len A I C K,hF P,hF X,hF l] w λe J=>e=.returned (.bool (fp 8 len C P X l))/\J=w.alloc (eM 8 len A I C K):=by
 by_cases br:(P:Int)=len
 ·have a9:((P:Int)==len)=true:=beq_iff_eq.2 br;by_cases a1:(X:Int)=len
  ·have N:((X:Int)==len)=true:=beq_iff_eq.2 a1;by_cases Z:(l:Int)=len
   ·have aD:((l:Int)==len)=true:=beq_iff_eq.2 Z;rw[show fp 8 len C P X l=true by simp[fp,eR,cnt,lenB];omega];exact xdz
   have aD:((l:Int)==len)=false:=yam Z;rw[show fp 8 len C P X l=false by rw[Bool.eq_false_iff];intro ba;simp[fp,eR,cnt,lenB]at ba;omega];exact xdz
  have N:((X:Int)==len)=false:=yam a1;rw[show fp 8 len C P X l=false by rw[Bool.eq_false_iff];intro ba;simp[fp,eR,cnt,lenB]at ba;omega];clear br a1;exact xbn
 have a9:((P:Int)==len)=false:=yam br;rw[show fp 8 len C P X l=false by rw[Bool.eq_false_iff];intro ba;simp[fp,eR,cnt,lenB]at ba;omega];clear br;exact xbn
theorem Md(w len A I C)(K P X l:Nat)(B:1<=len)(U:len<=1000):
  Calls prog 44 #[gO 9 len A I C K,hF P,hF X,hF l] w λe J=>e=.returned (.bool (fp 9 len C P X l))/\J=w.alloc (eM 9 len A I C K):=by
 by_cases br:len=1
 ·have a9:(len==1)=true:=beq_iff_eq.2 br;by_cases a1:1<=(P:Int)
  ·have N:=a1;by_cases Z:(P:Int)<=1000
   ·have aD:=Z;rw[show fp 9 len C P X l=true by simp[fp,eR,cnt,lenB];omega];exact xbm
   have aD:decide ((P:Int)<=1000)=false:=yax Z;exact xbu
  have N:decide (1<=(P:Int))=false:=yax a1;exact xbu
 have a9:(len==1)=false:=yam br;exact xbu
theorem IJ(w len A I C)(K P X l:Nat)(B:1<=len)(U:len<=1000):
  Calls prog 44 #[gO 10 len A I C K,hF P,hF X,hF l] w λe J=>e=.returned (.bool (fp 10 len C P X l))/\J=w.alloc (eM 10 len A I C K):=by
 by_cases br:(P:Int)=1
 ·have a9:((P:Int)==1)=true:=beq_iff_eq.2 br;rw[show fp 10 len C P X l=true by simp[fp,eR,cnt,lenB];omega];exact xeg
 have a9:((P:Int)==1)=false:=yam br;rw[show fp 10 len C P X l=false by rw[Bool.eq_false_iff];intro ba;simp[fp,eR,cnt,lenB]at ba;omega];exact xeg
theorem IK(w len A I C)(K P X l:Nat)(B:1<=len)(U:len<=1000):
  Calls prog 44 #[gO 11 len A I C K,hF P,hF X,hF l] w λe J=>e=.returned (.bool (fp 11 len C P X l))/\J=w.alloc (eM 11 len A I C K):=by
 by_cases br:len=1
 ·have a9:(len==1)=true:=beq_iff_eq.2 br;by_cases a1:1<=(P:Int)
  ·have N:=a1;by_cases Z:(P:Int)<=1000
   ·have aD:=Z;by_cases a3:0<=C
    ·have ad:=a3;by_cases a4:C<(P:Int)
     ·have an:=a4;rw[show fp 11 len C P X l=true by simp[fp,eR,cnt,lenB,fN];omega];exact xar
     have an:decide (C<(P:Int))=false:=yax a4;exact xaq
    have ad:decide (0<=C)=false:=yax a3;exact xaq
   have aD:decide ((P:Int)<=1000)=false:=yax Z;exact xaq
  have N:decide (1<=(P:Int))=false:=yax a1;exact xaq
 have a9:(len==1)=false:=yam br;exact xaq
theorem IL(w len A I C)(K P X l:Nat)(B:1<=len)(U:len<=1000):
  Calls prog 44 #[gO 12 len A I C K,hF P,hF X,hF l] w λe J=>e=.returned (.bool (fp 12 len C P X l))/\J=w.alloc (eM 12 len A I C K):=by
 by_cases br:(P:Int)=1
 ·have a9:((P:Int)==1)=true:=beq_iff_eq.2 br;by_cases a1:0<=C
  ·have N:=a1;by_cases Z:C<len
   ·have aD:=Z;rw[show fp 12 len C P X l=true by simp[fp,eR,cnt,lenB,fN];omega];exact xbl
   have aD:decide (C<len)=false:=yax Z;exact xbs
  have N:decide (0<=C)=false:=yax a1;exact xbs
 have a9:((P:Int)==1)=false:=yam br;exact xbs
theorem IM(w len A I C)(K P X l:Nat)(B:1<=len)(U:len<=1000):
  Calls prog 44 #[gO 13 len A I C K,hF P,hF X,hF l] w λe J=>e=.returned (.bool (fp 13 len C P X l))/\J=w.alloc (eM 13 len A I C K):=by
 by_cases br:(P:Int)=len
 ·have a9:((P:Int)==len)=true:=beq_iff_eq.2 br;rw[show fp 13 len C P X l=true by simp[fp,eR,cnt,lenB];omega];exact xeh
 have a9:((P:Int)==len)=false:=yam br;rw[show fp 13 len C P X l=false by rw[Bool.eq_false_iff];intro ba;simp[fp,eR,cnt,lenB]at ba;omega];exact xeh
theorem EL(w op len A I C)(K P X l:Nat)(h:¬(1<=op/\op<=13/\1<=len/\len<=1000)):
  Calls prog 44 #[gO op len A I C K,hF P,hF X,hF l] w λe J=>e=.returned (.bool false)/\J=w.alloc (eM op len A I C K):=by
 by_cases br:op<1
 ·exact xgc
 have a9:decide (op<1)=false:=yax br;by_cases a1:13<op
 ·exact xgc
 have N:decide (13<op)=false:=yax a1;by_cases Z:len<1
 ·exact xgc
 have aD:decide (len<1)=false:=yax Z;have a3:1000<len:=xaa;exact xgc
theorem x7(op len C P X l)(h:¬(1<=op/\op<=13/\1<=len/\len<=1000)):fp op len C P X l=false:=by
 rw[Bool.eq_false_iff];intro ba;apply h;simp only[fp,Bool.and_eq_true]at ba;obtain⟨B,U⟩:=ba;simp only[lenB,decide_eq_true_eq]at B;rcases qf op with c|c|c|c|c|c|c|c|c|c|c|c|c|c
 all_goals first|omega|skip
 obtain⟨_,_,_,_,_,_,_,_,ab,af,aj,av,_⟩:=c;unfold eR at U;rw[hG ab,hG af,hG aj,hG av]at U;split at U
 ·omega
 cases U
theorem kC(w op len A I C)(K P X l:Nat):
  Calls prog 44 #[gO op len A I C K,hF P,hF X,hF l] w λe J=>e=.returned (.bool (fp op len C P X l))/\J=w.alloc (eM op len A I C K):=by
 by_cases h:1<=op/\op<=13/\1<=len/\len<=1000
 ·obtain⟨B,U,h3,a6⟩:=h;have:op=1\/op=2\/op=3\/op=4\/op=5\/op=6\/op=7\/op=8\/op=9\/op=10\/op=11\/op=12\/op=13:=xaa;rcases this with rfl|rfl|rfl|rfl|rfl|rfl|rfl|rfl|rfl|rfl|rfl|rfl|rfl
  ·exact L4 w len A I C K P X l h3 a6
  ·exact L5 w len A I C K P X l h3 a6
  ·exact L6 w len A I C K P X l h3 a6
  ·exact L7 w len A I C K P X l h3 a6
  ·exact L8 w len A I C K P X l h3 a6
  ·exact L9 w len A I C K P X l h3 a6
  ·exact Ma w len A I C K P X l h3 a6
  ·exact Mc w len A I C K P X l h3 a6
  ·exact Md w len A I C K P X l h3 a6
  ·exact IJ w len A I C K P X l h3 a6
  ·exact IK w len A I C K P X l h3 a6
  ·exact IL w len A I C K P X l h3 a6
  exact IM w len A I C K P X l h3 a6
 rw[x7 op len C P X l h];exact EL w op len A I C K P X l h
