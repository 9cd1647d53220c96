import Derived.Test.YtdpbpcnldpkljaaGreatP04
namespace Go.Proofs.Z
open Tryz
set_option maxRecDepth 1000000
set_option maxHeartbeats 0
open Go.RowKit Flt
attribute [local go_sem] eD eB eA
theorem Fe (w:World)(len A B C:Int)(K la lb lc:Nat)(h1:1<=len)(h2:len<=1000):
  Calls prog 38 #[ib 1 len A B C K,.int .i64 (la:Int),.int .i64 (lb:Int),.int .i64 (lc:Int)] w λe w'=>e=.returned (.bool (fi 1 len C la lb lc))/\w'=w.alloc (fX 1 len A B C K):=by
 rw[show fi 1 len C la lb lc=true by simp[fi,eQ,cnt,lenB];omega]
 go_enter func38,ntmps38
 go_wp2_with (first|(go_at_call 69;refine(fD _ _ xaa xaa).mono ?_;rintro e w2 ⟨rfl,rfl⟩;simp only[show gg 1=false from rfl])|(go_at_call 36;refine(eV _ _ xaa xaa).mono ?_;rintro e w2 ⟨rfl,rfl⟩;simp only[show ig 1=0 from rfl]))
 go_ret
 exact⟨rfl,rfl⟩
theorem Ff (w:World)(len A B C:Int)(K la lb lc:Nat)(h1:1<=len)(h2:len<=1000):
  Calls prog 38 #[ib 2 len A B C K,.int .i64 (la:Int),.int .i64 (lb:Int),.int .i64 (lc:Int)] w λe w'=>e=.returned (.bool (fi 2 len C la lb lc))/\w'=w.alloc (fX 2 len A B C K):=by
 by_cases a0:(la:Int)=len
 ·have b0:((la:Int)==len)=true:=beq_iff_eq.2 a0
  by_cases a1:(lb:Int)=len
  ·have b1:((lb:Int)==len)=true:=beq_iff_eq.2 a1
   rw[show fi 2 len C la lb lc=true by simp[fi,eQ,cnt,lenB];omega]
   exact xdw
  ·have b1:((lb:Int)==len)=false:=yam a1
   rw[show fi 2 len C la lb lc=false by rw[Bool.eq_false_iff];intro hh;simp[fi,eQ,cnt,lenB] at hh;omega]
   exact xdw
 ·have b0:((la:Int)==len)=false:=yam a0
  rw[show fi 2 len C la lb lc=false by rw[Bool.eq_false_iff];intro hh;simp[fi,eQ,cnt,lenB] at hh;omega]
  clear a0
  exact xcg
theorem Fg (w:World)(len A B C:Int)(K la lb lc:Nat)(h1:1<=len)(h2:len<=1000):
  Calls prog 38 #[ib 3 len A B C K,.int .i64 (la:Int),.int .i64 (lb:Int),.int .i64 (lc:Int)] w λe w'=>e=.returned (.bool (fi 3 len C la lb lc))/\w'=w.alloc (fX 3 len A B C K):=by
 by_cases a0:(la:Int)=len
 ·have b0:((la:Int)==len)=true:=beq_iff_eq.2 a0
  by_cases a1:(lb:Int)=len
  ·have b1:((lb:Int)==len)=true:=beq_iff_eq.2 a1
   rw[show fi 3 len C la lb lc=true by simp[fi,eQ,cnt,lenB];omega]
   exact xdx
  ·have b1:((lb:Int)==len)=false:=yam a1
   rw[show fi 3 len C la lb lc=false by rw[Bool.eq_false_iff];intro hh;simp[fi,eQ,cnt,lenB] at hh;omega]
   exact xdx
 ·have b0:((la:Int)==len)=false:=yam a0
  rw[show fi 3 len C la lb lc=false by rw[Bool.eq_false_iff];intro hh;simp[fi,eQ,cnt,lenB] at hh;omega]
  clear a0
  exact xch
theorem Fh (w:World)(len A B C:Int)(K la lb lc:Nat)(h1:1<=len)(h2:len<=1000):
  Calls prog 38 #[ib 4 len A B C K,.int .i64 (la:Int),.int .i64 (lb:Int),.int .i64 (lc:Int)] w λe w'=>e=.returned (.bool (fi 4 len C la lb lc))/\w'=w.alloc (fX 4 len A B C K):=by
 by_cases a0:(la:Int)=len
 ·have b0:((la:Int)==len)=true:=beq_iff_eq.2 a0
  by_cases a1:(lb:Int)=len
  ·have b1:((lb:Int)==len)=true:=beq_iff_eq.2 a1
   rw[show fi 4 len C la lb lc=true by simp[fi,eQ,cnt,lenB];omega]
   exact xdy
  ·have b1:((lb:Int)==len)=false:=yam a1
   rw[show fi 4 len C la lb lc=false by rw[Bool.eq_false_iff];intro hh;simp[fi,eQ,cnt,lenB] at hh;omega]
   exact xdy
 ·have b0:((la:Int)==len)=false:=yam a0
  rw[show fi 4 len C la lb lc=false by rw[Bool.eq_false_iff];intro hh;simp[fi,eQ,cnt,lenB] at hh;omega]
  clear a0
  exact xci
theorem Fi (w:World)(len A B C:Int)(K la lb lc:Nat)(h1:1<=len)(h2:len<=1000):
  Calls prog 38 #[ib 5 len A B C K,.int .i64 (la:Int),.int .i64 (lb:Int),.int .i64 (lc:Int)] w λe w'=>e=.returned (.bool (fi 5 len C la lb lc))/\w'=w.alloc (fX 5 len A B C K):=by
 by_cases a0:(la:Int)=len
 ·have b0:((la:Int)==len)=true:=beq_iff_eq.2 a0
  by_cases a1:(lb:Int)=len
  ·have b1:((lb:Int)==len)=true:=beq_iff_eq.2 a1
   rw[show fi 5 len C la lb lc=true by simp[fi,eQ,cnt,lenB];omega]
   exact xdz
  ·have b1:((lb:Int)==len)=false:=yam a1
   rw[show fi 5 len C la lb lc=false by rw[Bool.eq_false_iff];intro hh;simp[fi,eQ,cnt,lenB] at hh;omega]
   exact xdz
 ·have b0:((la:Int)==len)=false:=yam a0
  rw[show fi 5 len C la lb lc=false by rw[Bool.eq_false_iff];intro hh;simp[fi,eQ,cnt,lenB] at hh;omega]
  clear a0
  exact xcj
theorem Fj (w:World)(len A B C:Int)(K la lb lc:Nat)(h1:1<=len)(h2:len<=1000):
  Calls prog 38 #[ib 6 len A B C K,.int .i64 (la:Int),.int .i64 (lb:Int),.int .i64 (lc:Int)] w λe w'=>e=.returned (.bool (fi 6 len C la lb lc))/\w'=w.alloc (fX 6 len A B C K):=by
 by_cases a0:(la:Int)=len
 ·have b0:((la:Int)==len)=true:=beq_iff_eq.2 a0
  rw[show fi 6 len C la lb lc=true by simp[fi,eQ,cnt,lenB];omega]
  exact xed
 ·have b0:((la:Int)==len)=false:=yam a0
  rw[show fi 6 len C la lb lc=false by rw[Bool.eq_false_iff];intro hh;simp[fi,eQ,cnt,lenB] at hh;omega]
  exact xed
theorem Fk (w:World)(len A B C:Int)(K la lb lc:Nat)(h1:1<=len)(h2:len<=1000):
  Calls prog 38 #[ib 7 len A B C K,.int .i64 (la:Int),.int .i64 (lb:Int),.int .i64 (lc:Int)] w λe w'=>e=.returned (.bool (fi 7 len C la lb lc))/\w'=w.alloc (fX 7 len A B C K):=by
 by_cases a0:(la:Int)=len
 ·have b0:((la:Int)==len)=true:=beq_iff_eq.2 a0
  by_cases a1:(lb:Int)=len
  ·have b1:((lb:Int)==len)=true:=beq_iff_eq.2 a1
   rw[show fi 7 len C la lb lc=true by simp[fi,eQ,cnt,lenB];omega]
   exact xea
  ·have b1:((lb:Int)==len)=false:=yam a1
   rw[show fi 7 len C la lb lc=false by rw[Bool.eq_false_iff];intro hh;simp[fi,eQ,cnt,lenB] at hh;omega]
   exact xea
 ·have b0:((la:Int)==len)=false:=yam a0
  rw[show fi 7 len C la lb lc=false by rw[Bool.eq_false_iff];intro hh;simp[fi,eQ,cnt,lenB] at hh;omega]
  clear a0
  exact xck
theorem Fl (w:World)(len A B C:Int)(K la lb lc:Nat)(h1:1<=len)(h2:len<=1000):
  Calls prog 38 #[ib 8 len A B C K,.int .i64 (la:Int),.int .i64 (lb:Int),.int .i64 (lc:Int)] w λe w'=>e=.returned (.bool (fi 8 len C la lb lc))/\w'=w.alloc (fX 8 len A B C K):=by
 by_cases a0:(la:Int)=len
 ·have b0:((la:Int)==len)=true:=beq_iff_eq.2 a0
  by_cases a1:(lb:Int)=len
  ·have b1:((lb:Int)==len)=true:=beq_iff_eq.2 a1
   by_cases a2:(lc:Int)=len
   ·have b2:((lc:Int)==len)=true:=beq_iff_eq.2 a2
    rw[show fi 8 len C la lb lc=true by simp[fi,eQ,cnt,lenB];omega]
    exact xdu
   ·have b2:((lc:Int)==len)=false:=yam a2
    rw[show fi 8 len C la lb lc=false by rw[Bool.eq_false_iff];intro hh;simp[fi,eQ,cnt,lenB] at hh;omega]
    exact xdu
  ·have b1:((lb:Int)==len)=false:=yam a1
   rw[show fi 8 len C la lb lc=false by rw[Bool.eq_false_iff];intro hh;simp[fi,eQ,cnt,lenB] at hh;omega]
   clear a0 a1
   exact xbk
 ·have b0:((la:Int)==len)=false:=yam a0
  rw[show fi 8 len C la lb lc=false by rw[Bool.eq_false_iff];intro hh;simp[fi,eQ,cnt,lenB] at hh;omega]
  clear a0
  exact xbk
theorem Fm (w:World)(len A B C:Int)(K la lb lc:Nat)(h1:1<=len)(h2:len<=1000):
  Calls prog 38 #[ib 9 len A B C K,.int .i64 (la:Int),.int .i64 (lb:Int),.int .i64 (lc:Int)] w λe w'=>e=.returned (.bool (fi 9 len C la lb lc))/\w'=w.alloc (fX 9 len A B C K):=by
 by_cases a0:len=1
 ·have b0:(len==1)=true:=beq_iff_eq.2 a0
  by_cases a1:1<=(la:Int)
  ·have b1:=a1
   by_cases a2:(la:Int)<=1000
   ·have b2:=a2
    rw[show fi 9 len C la lb lc=true by simp[fi,eQ,cnt,lenB];omega]
    exact xbi
   ·have b2:decide ((la:Int)<=1000)=false:=yax a2
    exact xbs
  ·have b1:decide (1<=(la:Int))=false:=yax a1
   exact xbs
 ·have b0:(len==1)=false:=yam a0
  exact xbs
theorem B7 (w:World)(len A B C:Int)(K la lb lc:Nat)(h1:1<=len)(h2:len<=1000):
  Calls prog 38 #[ib 10 len A B C K,.int .i64 (la:Int),.int .i64 (lb:Int),.int .i64 (lc:Int)] w λe w'=>e=.returned (.bool (fi 10 len C la lb lc))/\w'=w.alloc (fX 10 len A B C K):=by
 by_cases a0:(la:Int)=1
 ·have b0:((la:Int)==1)=true:=beq_iff_eq.2 a0
  rw[show fi 10 len C la lb lc=true by simp[fi,eQ,cnt,lenB];omega]
  exact xeb
 ·have b0:((la:Int)==1)=false:=yam a0
  rw[show fi 10 len C la lb lc=false by rw[Bool.eq_false_iff];intro hh;simp[fi,eQ,cnt,lenB] at hh;omega]
  exact xeb
theorem B8 (w:World)(len A B C:Int)(K la lb lc:Nat)(h1:1<=len)(h2:len<=1000):
  Calls prog 38 #[ib 11 len A B C K,.int .i64 (la:Int),.int .i64 (lb:Int),.int .i64 (lc:Int)] w λe w'=>e=.returned (.bool (fi 11 len C la lb lc))/\w'=w.alloc (fX 11 len A B C K):=by
 by_cases a0:len=1
 ·have b0:(len==1)=true:=beq_iff_eq.2 a0
  by_cases a1:1<=(la:Int)
  ·have b1:=a1
   by_cases a2:(la:Int)<=1000
   ·have b2:=a2
    by_cases a3:0<=C
    ·have b3:=a3
     by_cases a4:C<(la:Int)
     ·have b4:=a4
      rw[show fi 11 len C la lb lc=true by simp[fi,eQ,cnt,lenB,fC];omega]
      exact xau
     ·have b4:decide (C<(la:Int))=false:=yax a4
      exact xas
    ·have b3:decide (0<=C)=false:=yax a3
     exact xas
   ·have b2:decide ((la:Int)<=1000)=false:=yax a2
    exact xas
  ·have b1:decide (1<=(la:Int))=false:=yax a1
   exact xas
 ·have b0:(len==1)=false:=yam a0
  exact xas
theorem B9 (w:World)(len A B C:Int)(K la lb lc:Nat)(h1:1<=len)(h2:len<=1000):
  Calls prog 38 #[ib 12 len A B C K,.int .i64 (la:Int),.int .i64 (lb:Int),.int .i64 (lc:Int)] w λe w'=>e=.returned (.bool (fi 12 len C la lb lc))/\w'=w.alloc (fX 12 len A B C K):=by
 by_cases a0:(la:Int)=1
 ·have b0:((la:Int)==1)=true:=beq_iff_eq.2 a0
  by_cases a1:0<=C
  ·have b1:=a1
   by_cases a2:C<len
   ·have b2:=a2
    rw[show fi 12 len C la lb lc=true by simp[fi,eQ,cnt,lenB,fC];omega]
    exact xbh
   ·have b2:decide (C<len)=false:=yax a2
    exact xbq
  ·have b1:decide (0<=C)=false:=yax a1
   exact xbq
 ·have b0:((la:Int)==1)=false:=yam a0
  exact xbq
theorem Ca (w:World)(len A B C:Int)(K la lb lc:Nat)(h1:1<=len)(h2:len<=1000):
  Calls prog 38 #[ib 13 len A B C K,.int .i64 (la:Int),.int .i64 (lb:Int),.int .i64 (lc:Int)] w λe w'=>e=.returned (.bool (fi 13 len C la lb lc))/\w'=w.alloc (fX 13 len A B C K):=by
 by_cases a0:(la:Int)=len
 ·have b0:((la:Int)==len)=true:=beq_iff_eq.2 a0
  rw[show fi 13 len C la lb lc=true by simp[fi,eQ,cnt,lenB];omega]
  exact xec
 ·have b0:((la:Int)==len)=false:=yam a0
  rw[show fi 13 len C la lb lc=false by rw[Bool.eq_false_iff];intro hh;simp[fi,eQ,cnt,lenB] at hh;omega]
  exact xec
theorem yW (w:World)(op len A B C:Int)(K la lb lc:Nat)(h:¬(1<=op/\op<=13/\1<=len/\len<=1000)):
  Calls prog 38 #[ib op len A B C K,.int .i64 (la:Int),.int .i64 (lb:Int),.int .i64 (lc:Int)] w λe w'=>e=.returned (.bool false)/\w'=w.alloc (fX op len A B C K):=by
 by_cases a0:op<1
 ·exact xfs
 ·have b0:decide (op<1)=false:=yax a0
  by_cases a1:13<op
  ·exact xfs
  ·have b1:decide (13<op)=false:=yax a1
   by_cases a2:len<1
   ·exact xfs
   ·have b2:decide (len<1)=false:=yax a2
    have a3:1000<len:=xaa
    exact xfs
theorem yX (op len C:Int)(la lb lc:Nat)(h:¬(1<=op/\op<=13/\1<=len/\len<=1000)):fi op len C la lb lc=false:=by
 rw[Bool.eq_false_iff]
 intro hh
 apply h
 simp only[fi,Bool.and_eq_true] at hh
 obtain⟨h1,h2⟩:=hh
 simp only[lenB,decide_eq_true_eq] at h1
 rcases oZ op with c|c|c|c|c|c|c|c|c|c|c|c|c|c
 all_goals first|omega|skip
 obtain⟨_,_,_,_,_,_,_,_,h9,h10,h11,h12,_⟩:=c
 unfold eQ at h2
 rw[if_neg h9,if_neg h10,if_neg h11,if_neg h12] at h2
 split at h2
 ·omega
 ·cases h2
theorem Fo (w:World)(op len A B C:Int)(K la lb lc:Nat):
  Calls prog 38 #[ib op len A B C K,.int .i64 (la:Int),.int .i64 (lb:Int),.int .i64 (lc:Int)] w λe w'=>e=.returned (.bool (fi op len C la lb lc))/\w'=w.alloc (fX op len A B C K):=by
 by_cases h:1<=op/\op<=13/\1<=len/\len<=1000
 ·obtain⟨h1,h2,h3,h4⟩:=h
  have:op=1\/op=2\/op=3\/op=4\/op=5\/op=6\/op=7\/op=8\/op=9\/op=10\/op=11\/op=12\/op=13:=xaa
  rcases this with rfl|rfl|rfl|rfl|rfl|rfl|rfl|rfl|rfl|rfl|rfl|rfl|rfl
  ·exact Fe w len A B C K la lb lc h3 h4
  ·exact Ff w len A B C K la lb lc h3 h4
  ·exact Fg w len A B C K la lb lc h3 h4
  ·exact Fh w len A B C K la lb lc h3 h4
  ·exact Fi w len A B C K la lb lc h3 h4
  ·exact Fj w len A B C K la lb lc h3 h4
  ·exact Fk w len A B C K la lb lc h3 h4
  ·exact Fl w len A B C K la lb lc h3 h4
  ·exact Fm w len A B C K la lb lc h3 h4
  ·exact B7 w len A B C K la lb lc h3 h4
  ·exact B8 w len A B C K la lb lc h3 h4
  ·exact B9 w len A B C K la lb lc h3 h4
  ·exact Ca w len A B C K la lb lc h3 h4
 ·rw[yX op len C la lb lc h]
  exact yW w op len A B C K la lb lc h
