import Derived.Test.YtnlffngpnoodkaaGreatP12
import Derived.Test.YtnlffngpnoodkaaGreatP13
namespace Go.Proofs.YtnlffngpnoodkaaGreat
set_option maxRecDepth 1000000
set_option maxHeartbeats 0
open Go.RowKit Flt
attribute [local go_sem] ic ib ia
theorem Cp (w:World)(len A B C:Int)(K la lb lc:Nat)(h1:1<=len)(h2:len<=1000):
  Calls Tryz.prog 72 #[jA 1 len A B C K,.int .i64 (la:Int),.int .i64 (lb:Int),.int .i64 (lc:Int)] w λe w'=>e=.returned (.bool (iA 1 len C la lb lc))/\w'=w.alloc (ij 1 len A B C K):=by
 rw[show iA 1 len C la lb lc=true by simp[iA,im,cnt,iJ];omega]
 go_enter Tryz.func72,Tryz.ntmps72
 go_wp2_with (first|(go_at_call 73;refine(iT _ _ (by omega) (by omega)).mono ?_;rintro e w2 ⟨rfl,rfl⟩;simp only[show iG 1=false from rfl])|(go_at_call 45;refine(iu _ _ (by omega) (by omega)).mono ?_;rintro e w2 ⟨rfl,rfl⟩;simp only[show jy 1=0 from rfl]))
 go_ret
 exact⟨rfl,rfl⟩
theorem Cq (w:World)(len A B C:Int)(K la lb lc:Nat)(h1:1<=len)(h2:len<=1000):
  Calls Tryz.prog 72 #[jA 2 len A B C K,.int .i64 (la:Int),.int .i64 (lb:Int),.int .i64 (lc:Int)] w λe w'=>e=.returned (.bool (iA 2 len C la lb lc))/\w'=w.alloc (ij 2 len A B C K):=by
 by_cases a0:(la:Int)=len
 ·have b0:((la:Int)==len)=true:=beq_iff_eq.2 a0
  by_cases a1:(lb:Int)=len
  ·have b1:((lb:Int)==len)=true:=beq_iff_eq.2 a1
   rw[show iA 2 len C la lb lc=true by simp[iA,im,cnt,iJ];omega]
   clear a0 a1
   go_enter Tryz.func72,Tryz.ntmps72
   go_wp2_with (first|(go_at_call 73;refine(iT _ _ (by omega) (by omega)).mono ?_;rintro e w2 ⟨rfl,rfl⟩;simp only[show iG 2=true from rfl])|(go_at_call 45;refine(iu _ _ (by omega) (by omega)).mono ?_;rintro e w2 ⟨rfl,rfl⟩;simp only[show jy 2=2 from rfl]))
   go_ret
   exact⟨rfl,rfl⟩
  ·have b1:((lb:Int)==len)=false:=beq_eq_false_iff_ne.2 a1
   rw[show iA 2 len C la lb lc=false by rw[Bool.eq_false_iff];intro hh;simp[iA,im,cnt,iJ] at hh;omega]
   clear a0 a1
   go_enter Tryz.func72,Tryz.ntmps72
   go_wp2_with (first|(go_at_call 73;refine(iT _ _ (by omega) (by omega)).mono ?_;rintro e w2 ⟨rfl,rfl⟩;simp only[show iG 2=true from rfl])|(go_at_call 45;refine(iu _ _ (by omega) (by omega)).mono ?_;rintro e w2 ⟨rfl,rfl⟩;simp only[show jy 2=2 from rfl]))
   go_ret
   exact⟨rfl,rfl⟩
 ·have b0:((la:Int)==len)=false:=beq_eq_false_iff_ne.2 a0
  rw[show iA 2 len C la lb lc=false by rw[Bool.eq_false_iff];intro hh;simp[iA,im,cnt,iJ] at hh;omega]
  clear a0
  go_enter Tryz.func72,Tryz.ntmps72
  go_wp2_with (first|(go_at_call 73;refine(iT _ _ (by omega) (by omega)).mono ?_;rintro e w2 ⟨rfl,rfl⟩;simp only[show iG 2=true from rfl])|(go_at_call 45;refine(iu _ _ (by omega) (by omega)).mono ?_;rintro e w2 ⟨rfl,rfl⟩;simp only[show jy 2=2 from rfl]))
  go_ret
  exact⟨rfl,rfl⟩
theorem Cr (w:World)(len A B C:Int)(K la lb lc:Nat)(h1:1<=len)(h2:len<=1000):
  Calls Tryz.prog 72 #[jA 3 len A B C K,.int .i64 (la:Int),.int .i64 (lb:Int),.int .i64 (lc:Int)] w λe w'=>e=.returned (.bool (iA 3 len C la lb lc))/\w'=w.alloc (ij 3 len A B C K):=by
 by_cases a0:(la:Int)=len
 ·have b0:((la:Int)==len)=true:=beq_iff_eq.2 a0
  by_cases a1:(lb:Int)=len
  ·have b1:((lb:Int)==len)=true:=beq_iff_eq.2 a1
   rw[show iA 3 len C la lb lc=true by simp[iA,im,cnt,iJ];omega]
   clear a0 a1
   go_enter Tryz.func72,Tryz.ntmps72
   go_wp2_with (first|(go_at_call 73;refine(iT _ _ (by omega) (by omega)).mono ?_;rintro e w2 ⟨rfl,rfl⟩;simp only[show iG 3=true from rfl])|(go_at_call 45;refine(iu _ _ (by omega) (by omega)).mono ?_;rintro e w2 ⟨rfl,rfl⟩;simp only[show jy 3=2 from rfl]))
   go_ret
   exact⟨rfl,rfl⟩
  ·have b1:((lb:Int)==len)=false:=beq_eq_false_iff_ne.2 a1
   rw[show iA 3 len C la lb lc=false by rw[Bool.eq_false_iff];intro hh;simp[iA,im,cnt,iJ] at hh;omega]
   clear a0 a1
   go_enter Tryz.func72,Tryz.ntmps72
   go_wp2_with (first|(go_at_call 73;refine(iT _ _ (by omega) (by omega)).mono ?_;rintro e w2 ⟨rfl,rfl⟩;simp only[show iG 3=true from rfl])|(go_at_call 45;refine(iu _ _ (by omega) (by omega)).mono ?_;rintro e w2 ⟨rfl,rfl⟩;simp only[show jy 3=2 from rfl]))
   go_ret
   exact⟨rfl,rfl⟩
 ·have b0:((la:Int)==len)=false:=beq_eq_false_iff_ne.2 a0
  rw[show iA 3 len C la lb lc=false by rw[Bool.eq_false_iff];intro hh;simp[iA,im,cnt,iJ] at hh;omega]
  clear a0
  go_enter Tryz.func72,Tryz.ntmps72
  go_wp2_with (first|(go_at_call 73;refine(iT _ _ (by omega) (by omega)).mono ?_;rintro e w2 ⟨rfl,rfl⟩;simp only[show iG 3=true from rfl])|(go_at_call 45;refine(iu _ _ (by omega) (by omega)).mono ?_;rintro e w2 ⟨rfl,rfl⟩;simp only[show jy 3=2 from rfl]))
  go_ret
  exact⟨rfl,rfl⟩
theorem Cs (w:World)(len A B C:Int)(K la lb lc:Nat)(h1:1<=len)(h2:len<=1000):
  Calls Tryz.prog 72 #[jA 4 len A B C K,.int .i64 (la:Int),.int .i64 (lb:Int),.int .i64 (lc:Int)] w λe w'=>e=.returned (.bool (iA 4 len C la lb lc))/\w'=w.alloc (ij 4 len A B C K):=by
 by_cases a0:(la:Int)=len
 ·have b0:((la:Int)==len)=true:=beq_iff_eq.2 a0
  by_cases a1:(lb:Int)=len
  ·have b1:((lb:Int)==len)=true:=beq_iff_eq.2 a1
   rw[show iA 4 len C la lb lc=true by simp[iA,im,cnt,iJ];omega]
   clear a0 a1
   go_enter Tryz.func72,Tryz.ntmps72
   go_wp2_with (first|(go_at_call 73;refine(iT _ _ (by omega) (by omega)).mono ?_;rintro e w2 ⟨rfl,rfl⟩;simp only[show iG 4=true from rfl])|(go_at_call 45;refine(iu _ _ (by omega) (by omega)).mono ?_;rintro e w2 ⟨rfl,rfl⟩;simp only[show jy 4=2 from rfl]))
   go_ret
   exact⟨rfl,rfl⟩
  ·have b1:((lb:Int)==len)=false:=beq_eq_false_iff_ne.2 a1
   rw[show iA 4 len C la lb lc=false by rw[Bool.eq_false_iff];intro hh;simp[iA,im,cnt,iJ] at hh;omega]
   clear a0 a1
   go_enter Tryz.func72,Tryz.ntmps72
   go_wp2_with (first|(go_at_call 73;refine(iT _ _ (by omega) (by omega)).mono ?_;rintro e w2 ⟨rfl,rfl⟩;simp only[show iG 4=true from rfl])|(go_at_call 45;refine(iu _ _ (by omega) (by omega)).mono ?_;rintro e w2 ⟨rfl,rfl⟩;simp only[show jy 4=2 from rfl]))
   go_ret
   exact⟨rfl,rfl⟩
 ·have b0:((la:Int)==len)=false:=beq_eq_false_iff_ne.2 a0
  rw[show iA 4 len C la lb lc=false by rw[Bool.eq_false_iff];intro hh;simp[iA,im,cnt,iJ] at hh;omega]
  clear a0
  go_enter Tryz.func72,Tryz.ntmps72
  go_wp2_with (first|(go_at_call 73;refine(iT _ _ (by omega) (by omega)).mono ?_;rintro e w2 ⟨rfl,rfl⟩;simp only[show iG 4=true from rfl])|(go_at_call 45;refine(iu _ _ (by omega) (by omega)).mono ?_;rintro e w2 ⟨rfl,rfl⟩;simp only[show jy 4=2 from rfl]))
  go_ret
  exact⟨rfl,rfl⟩
theorem Ct (w:World)(len A B C:Int)(K la lb lc:Nat)(h1:1<=len)(h2:len<=1000):
  Calls Tryz.prog 72 #[jA 5 len A B C K,.int .i64 (la:Int),.int .i64 (lb:Int),.int .i64 (lc:Int)] w λe w'=>e=.returned (.bool (iA 5 len C la lb lc))/\w'=w.alloc (ij 5 len A B C K):=by
 by_cases a0:(la:Int)=len
 ·have b0:((la:Int)==len)=true:=beq_iff_eq.2 a0
  by_cases a1:(lb:Int)=len
  ·have b1:((lb:Int)==len)=true:=beq_iff_eq.2 a1
   rw[show iA 5 len C la lb lc=true by simp[iA,im,cnt,iJ];omega]
   clear a0 a1
   go_enter Tryz.func72,Tryz.ntmps72
   go_wp2_with (first|(go_at_call 73;refine(iT _ _ (by omega) (by omega)).mono ?_;rintro e w2 ⟨rfl,rfl⟩;simp only[show iG 5=true from rfl])|(go_at_call 45;refine(iu _ _ (by omega) (by omega)).mono ?_;rintro e w2 ⟨rfl,rfl⟩;simp only[show jy 5=2 from rfl]))
   go_ret
   exact⟨rfl,rfl⟩
  ·have b1:((lb:Int)==len)=false:=beq_eq_false_iff_ne.2 a1
   rw[show iA 5 len C la lb lc=false by rw[Bool.eq_false_iff];intro hh;simp[iA,im,cnt,iJ] at hh;omega]
   clear a0 a1
   go_enter Tryz.func72,Tryz.ntmps72
   go_wp2_with (first|(go_at_call 73;refine(iT _ _ (by omega) (by omega)).mono ?_;rintro e w2 ⟨rfl,rfl⟩;simp only[show iG 5=true from rfl])|(go_at_call 45;refine(iu _ _ (by omega) (by omega)).mono ?_;rintro e w2 ⟨rfl,rfl⟩;simp only[show jy 5=2 from rfl]))
   go_ret
   exact⟨rfl,rfl⟩
 ·have b0:((la:Int)==len)=false:=beq_eq_false_iff_ne.2 a0
  rw[show iA 5 len C la lb lc=false by rw[Bool.eq_false_iff];intro hh;simp[iA,im,cnt,iJ] at hh;omega]
  clear a0
  go_enter Tryz.func72,Tryz.ntmps72
  go_wp2_with (first|(go_at_call 73;refine(iT _ _ (by omega) (by omega)).mono ?_;rintro e w2 ⟨rfl,rfl⟩;simp only[show iG 5=true from rfl])|(go_at_call 45;refine(iu _ _ (by omega) (by omega)).mono ?_;rintro e w2 ⟨rfl,rfl⟩;simp only[show jy 5=2 from rfl]))
  go_ret
  exact⟨rfl,rfl⟩
theorem Cu (w:World)(len A B C:Int)(K la lb lc:Nat)(h1:1<=len)(h2:len<=1000):
  Calls Tryz.prog 72 #[jA 6 len A B C K,.int .i64 (la:Int),.int .i64 (lb:Int),.int .i64 (lc:Int)] w λe w'=>e=.returned (.bool (iA 6 len C la lb lc))/\w'=w.alloc (ij 6 len A B C K):=by
 by_cases a0:(la:Int)=len
 ·have b0:((la:Int)==len)=true:=beq_iff_eq.2 a0
  rw[show iA 6 len C la lb lc=true by simp[iA,im,cnt,iJ];omega]
  clear a0
  go_enter Tryz.func72,Tryz.ntmps72
  go_wp2_with (first|(go_at_call 73;refine(iT _ _ (by omega) (by omega)).mono ?_;rintro e w2 ⟨rfl,rfl⟩;simp only[show iG 6=true from rfl])|(go_at_call 45;refine(iu _ _ (by omega) (by omega)).mono ?_;rintro e w2 ⟨rfl,rfl⟩;simp only[show jy 6=1 from rfl]))
  go_ret
  exact⟨rfl,rfl⟩
 ·have b0:((la:Int)==len)=false:=beq_eq_false_iff_ne.2 a0
  rw[show iA 6 len C la lb lc=false by rw[Bool.eq_false_iff];intro hh;simp[iA,im,cnt,iJ] at hh;omega]
  clear a0
  go_enter Tryz.func72,Tryz.ntmps72
  go_wp2_with (first|(go_at_call 73;refine(iT _ _ (by omega) (by omega)).mono ?_;rintro e w2 ⟨rfl,rfl⟩;simp only[show iG 6=true from rfl])|(go_at_call 45;refine(iu _ _ (by omega) (by omega)).mono ?_;rintro e w2 ⟨rfl,rfl⟩;simp only[show jy 6=1 from rfl]))
  go_ret
  exact⟨rfl,rfl⟩
theorem Cv (w:World)(len A B C:Int)(K la lb lc:Nat)(h1:1<=len)(h2:len<=1000):
  Calls Tryz.prog 72 #[jA 7 len A B C K,.int .i64 (la:Int),.int .i64 (lb:Int),.int .i64 (lc:Int)] w λe w'=>e=.returned (.bool (iA 7 len C la lb lc))/\w'=w.alloc (ij 7 len A B C K):=by
 by_cases a0:(la:Int)=len
 ·have b0:((la:Int)==len)=true:=beq_iff_eq.2 a0
  by_cases a1:(lb:Int)=len
  ·have b1:((lb:Int)==len)=true:=beq_iff_eq.2 a1
   rw[show iA 7 len C la lb lc=true by simp[iA,im,cnt,iJ];omega]
   clear a0 a1
   go_enter Tryz.func72,Tryz.ntmps72
   go_wp2_with (first|(go_at_call 73;refine(iT _ _ (by omega) (by omega)).mono ?_;rintro e w2 ⟨rfl,rfl⟩;simp only[show iG 7=true from rfl])|(go_at_call 45;refine(iu _ _ (by omega) (by omega)).mono ?_;rintro e w2 ⟨rfl,rfl⟩;simp only[show jy 7=2 from rfl]))
   go_ret
   exact⟨rfl,rfl⟩
  ·have b1:((lb:Int)==len)=false:=beq_eq_false_iff_ne.2 a1
   rw[show iA 7 len C la lb lc=false by rw[Bool.eq_false_iff];intro hh;simp[iA,im,cnt,iJ] at hh;omega]
   clear a0 a1
   go_enter Tryz.func72,Tryz.ntmps72
   go_wp2_with (first|(go_at_call 73;refine(iT _ _ (by omega) (by omega)).mono ?_;rintro e w2 ⟨rfl,rfl⟩;simp only[show iG 7=true from rfl])|(go_at_call 45;refine(iu _ _ (by omega) (by omega)).mono ?_;rintro e w2 ⟨rfl,rfl⟩;simp only[show jy 7=2 from rfl]))
   go_ret
   exact⟨rfl,rfl⟩
 ·have b0:((la:Int)==len)=false:=beq_eq_false_iff_ne.2 a0
  rw[show iA 7 len C la lb lc=false by rw[Bool.eq_false_iff];intro hh;simp[iA,im,cnt,iJ] at hh;omega]
  clear a0
  go_enter Tryz.func72,Tryz.ntmps72
  go_wp2_with (first|(go_at_call 73;refine(iT _ _ (by omega) (by omega)).mono ?_;rintro e w2 ⟨rfl,rfl⟩;simp only[show iG 7=true from rfl])|(go_at_call 45;refine(iu _ _ (by omega) (by omega)).mono ?_;rintro e w2 ⟨rfl,rfl⟩;simp only[show jy 7=2 from rfl]))
  go_ret
  exact⟨rfl,rfl⟩
theorem Cw (w:World)(len A B C:Int)(K la lb lc:Nat)(h1:1<=len)(h2:len<=1000):
  Calls Tryz.prog 72 #[jA 8 len A B C K,.int .i64 (la:Int),.int .i64 (lb:Int),.int .i64 (lc:Int)] w λe w'=>e=.returned (.bool (iA 8 len C la lb lc))/\w'=w.alloc (ij 8 len A B C K):=by
 by_cases a0:(la:Int)=len
 ·have b0:((la:Int)==len)=true:=beq_iff_eq.2 a0
  by_cases a1:(lb:Int)=len
  ·have b1:((lb:Int)==len)=true:=beq_iff_eq.2 a1
   by_cases a2:(lc:Int)=len
   ·have b2:((lc:Int)==len)=true:=beq_iff_eq.2 a2
    rw[show iA 8 len C la lb lc=true by simp[iA,im,cnt,iJ];omega]
    clear a0 a1 a2
    go_enter Tryz.func72,Tryz.ntmps72
    go_wp2_with (first|(go_at_call 73;refine(iT _ _ (by omega) (by omega)).mono ?_;rintro e w2 ⟨rfl,rfl⟩;simp only[show iG 8=true from rfl])|(go_at_call 45;refine(iu _ _ (by omega) (by omega)).mono ?_;rintro e w2 ⟨rfl,rfl⟩;simp only[show jy 8=3 from rfl]))
    go_ret
    exact⟨rfl,rfl⟩
   ·have b2:((lc:Int)==len)=false:=beq_eq_false_iff_ne.2 a2
    rw[show iA 8 len C la lb lc=false by rw[Bool.eq_false_iff];intro hh;simp[iA,im,cnt,iJ] at hh;omega]
    clear a0 a1 a2
    go_enter Tryz.func72,Tryz.ntmps72
    go_wp2_with (first|(go_at_call 73;refine(iT _ _ (by omega) (by omega)).mono ?_;rintro e w2 ⟨rfl,rfl⟩;simp only[show iG 8=true from rfl])|(go_at_call 45;refine(iu _ _ (by omega) (by omega)).mono ?_;rintro e w2 ⟨rfl,rfl⟩;simp only[show jy 8=3 from rfl]))
    go_ret
    exact⟨rfl,rfl⟩
  ·have b1:((lb:Int)==len)=false:=beq_eq_false_iff_ne.2 a1
   rw[show iA 8 len C la lb lc=false by rw[Bool.eq_false_iff];intro hh;simp[iA,im,cnt,iJ] at hh;omega]
   clear a0 a1
   go_enter Tryz.func72,Tryz.ntmps72
   go_wp2_with (first|(go_at_call 73;refine(iT _ _ (by omega) (by omega)).mono ?_;rintro e w2 ⟨rfl,rfl⟩;simp only[show iG 8=true from rfl])|(go_at_call 45;refine(iu _ _ (by omega) (by omega)).mono ?_;rintro e w2 ⟨rfl,rfl⟩;simp only[show jy 8=3 from rfl]))
   go_ret
   exact⟨rfl,rfl⟩
 ·have b0:((la:Int)==len)=false:=beq_eq_false_iff_ne.2 a0
  rw[show iA 8 len C la lb lc=false by rw[Bool.eq_false_iff];intro hh;simp[iA,im,cnt,iJ] at hh;omega]
  clear a0
  go_enter Tryz.func72,Tryz.ntmps72
  go_wp2_with (first|(go_at_call 73;refine(iT _ _ (by omega) (by omega)).mono ?_;rintro e w2 ⟨rfl,rfl⟩;simp only[show iG 8=true from rfl])|(go_at_call 45;refine(iu _ _ (by omega) (by omega)).mono ?_;rintro e w2 ⟨rfl,rfl⟩;simp only[show jy 8=3 from rfl]))
  go_ret
  exact⟨rfl,rfl⟩
theorem Cx (w:World)(len A B C:Int)(K la lb lc:Nat)(h1:1<=len)(h2:len<=1000):
  Calls Tryz.prog 72 #[jA 9 len A B C K,.int .i64 (la:Int),.int .i64 (lb:Int),.int .i64 (lc:Int)] w λe w'=>e=.returned (.bool (iA 9 len C la lb lc))/\w'=w.alloc (ij 9 len A B C K):=by
 by_cases a0:len=1
 ·have b0:(len==1)=true:=beq_iff_eq.2 a0
  by_cases a1:1<=(la:Int)
  ·have b1:=a1
   by_cases a2:(la:Int)<=1000
   ·have b2:=a2
    rw[show iA 9 len C la lb lc=true by simp[iA,im,cnt,iJ];omega]
    clear a0
    go_enter Tryz.func72,Tryz.ntmps72
    go_wp2_with (first|(go_at_call 73;refine(iT _ _ (by omega) (by omega)).mono ?_;rintro e w2 ⟨rfl,rfl⟩;simp only[show iG 9=false from rfl])|(go_at_call 45;refine(iu _ _ (by omega) (by omega)).mono ?_;rintro e w2 ⟨rfl,rfl⟩;simp only[show jy 9=1 from rfl]))
    go_ret
    exact⟨rfl,rfl⟩
   ·have b2:decide ((la:Int)<=1000)=false:=decide_eq_false a2
    rw[show iA 9 len C la lb lc=false by rw[Bool.eq_false_iff];intro hh;simp[iA,im,cnt,iJ] at hh;omega]
    clear a0
    go_enter Tryz.func72,Tryz.ntmps72
    go_wp2_with (first|(go_at_call 73;refine(iT _ _ (by omega) (by omega)).mono ?_;rintro e w2 ⟨rfl,rfl⟩;simp only[show iG 9=false from rfl])|(go_at_call 45;refine(iu _ _ (by omega) (by omega)).mono ?_;rintro e w2 ⟨rfl,rfl⟩;simp only[show jy 9=1 from rfl]))
    go_ret
    exact⟨rfl,rfl⟩
  ·have b1:decide (1<=(la:Int))=false:=decide_eq_false a1
   rw[show iA 9 len C la lb lc=false by rw[Bool.eq_false_iff];intro hh;simp[iA,im,cnt,iJ] at hh;omega]
   clear a0
   go_enter Tryz.func72,Tryz.ntmps72
   go_wp2_with (first|(go_at_call 73;refine(iT _ _ (by omega) (by omega)).mono ?_;rintro e w2 ⟨rfl,rfl⟩;simp only[show iG 9=false from rfl])|(go_at_call 45;refine(iu _ _ (by omega) (by omega)).mono ?_;rintro e w2 ⟨rfl,rfl⟩;simp only[show jy 9=1 from rfl]))
   go_ret
   exact⟨rfl,rfl⟩
 ·have b0:(len==1)=false:=beq_eq_false_iff_ne.2 a0
  rw[show iA 9 len C la lb lc=false by rw[Bool.eq_false_iff];intro hh;simp[iA,im,cnt,iJ] at hh;omega]
  clear a0
  go_enter Tryz.func72,Tryz.ntmps72
  go_wp2_with (first|(go_at_call 73;refine(iT _ _ (by omega) (by omega)).mono ?_;rintro e w2 ⟨rfl,rfl⟩;simp only[show iG 9=false from rfl])|(go_at_call 45;refine(iu _ _ (by omega) (by omega)).mono ?_;rintro e w2 ⟨rfl,rfl⟩;simp only[show jy 9=1 from rfl]))
  go_ret
  exact⟨rfl,rfl⟩
theorem Ab (w:World)(len A B C:Int)(K la lb lc:Nat)(h1:1<=len)(h2:len<=1000):
  Calls Tryz.prog 72 #[jA 10 len A B C K,.int .i64 (la:Int),.int .i64 (lb:Int),.int .i64 (lc:Int)] w λe w'=>e=.returned (.bool (iA 10 len C la lb lc))/\w'=w.alloc (ij 10 len A B C K):=by
 by_cases a0:(la:Int)=1
 ·have b0:((la:Int)==1)=true:=beq_iff_eq.2 a0
  rw[show iA 10 len C la lb lc=true by simp[iA,im,cnt,iJ];omega]
  clear a0
  go_enter Tryz.func72,Tryz.ntmps72
  go_wp2_with (first|(go_at_call 73;refine(iT _ _ (by omega) (by omega)).mono ?_;rintro e w2 ⟨rfl,rfl⟩;simp only[show iG 10=false from rfl])|(go_at_call 45;refine(iu _ _ (by omega) (by omega)).mono ?_;rintro e w2 ⟨rfl,rfl⟩;simp only[show jy 10=1 from rfl]))
  go_ret
  exact⟨rfl,rfl⟩
 ·have b0:((la:Int)==1)=false:=beq_eq_false_iff_ne.2 a0
  rw[show iA 10 len C la lb lc=false by rw[Bool.eq_false_iff];intro hh;simp[iA,im,cnt,iJ] at hh;omega]
  clear a0
  go_enter Tryz.func72,Tryz.ntmps72
  go_wp2_with (first|(go_at_call 73;refine(iT _ _ (by omega) (by omega)).mono ?_;rintro e w2 ⟨rfl,rfl⟩;simp only[show iG 10=false from rfl])|(go_at_call 45;refine(iu _ _ (by omega) (by omega)).mono ?_;rintro e w2 ⟨rfl,rfl⟩;simp only[show jy 10=1 from rfl]))
  go_ret
  exact⟨rfl,rfl⟩
theorem Ac (w:World)(len A B C:Int)(K la lb lc:Nat)(h1:1<=len)(h2:len<=1000):
  Calls Tryz.prog 72 #[jA 11 len A B C K,.int .i64 (la:Int),.int .i64 (lb:Int),.int .i64 (lc:Int)] w λe w'=>e=.returned (.bool (iA 11 len C la lb lc))/\w'=w.alloc (ij 11 len A B C K):=by
 by_cases a0:len=1
 ·have b0:(len==1)=true:=beq_iff_eq.2 a0
  by_cases a1:1<=(la:Int)
  ·have b1:=a1
   by_cases a2:(la:Int)<=1000
   ·have b2:=a2
    by_cases a3:0<=C
    ·have b3:=a3
     by_cases a4:C<(la:Int)
     ·have b4:=a4
      rw[show iA 11 len C la lb lc=true by simp[iA,im,cnt,iJ,iL];omega]
      clear a0
      go_enter Tryz.func72,Tryz.ntmps72
      go_wp2_with (first|(go_at_call 73;refine(iT _ _ (by omega) (by omega)).mono ?_;rintro e w2 ⟨rfl,rfl⟩;simp only[show iG 11=false from rfl])|(go_at_call 45;refine(iu _ _ (by omega) (by omega)).mono ?_;rintro e w2 ⟨rfl,rfl⟩;simp only[show jy 11=1 from rfl]))
      go_ret
      exact⟨rfl,rfl⟩
     ·have b4:decide (C<(la:Int))=false:=decide_eq_false a4
      rw[show iA 11 len C la lb lc=false by rw[Bool.eq_false_iff];intro hh;simp[iA,im,cnt,iJ,iL] at hh;omega]
      clear a0
      go_enter Tryz.func72,Tryz.ntmps72
      go_wp2_with (first|(go_at_call 73;refine(iT _ _ (by omega) (by omega)).mono ?_;rintro e w2 ⟨rfl,rfl⟩;simp only[show iG 11=false from rfl])|(go_at_call 45;refine(iu _ _ (by omega) (by omega)).mono ?_;rintro e w2 ⟨rfl,rfl⟩;simp only[show jy 11=1 from rfl]))
      go_ret
      exact⟨rfl,rfl⟩
    ·have b3:decide (0<=C)=false:=decide_eq_false a3
     rw[show iA 11 len C la lb lc=false by rw[Bool.eq_false_iff];intro hh;simp[iA,im,cnt,iJ,iL] at hh;omega]
     clear a0
     go_enter Tryz.func72,Tryz.ntmps72
     go_wp2_with (first|(go_at_call 73;refine(iT _ _ (by omega) (by omega)).mono ?_;rintro e w2 ⟨rfl,rfl⟩;simp only[show iG 11=false from rfl])|(go_at_call 45;refine(iu _ _ (by omega) (by omega)).mono ?_;rintro e w2 ⟨rfl,rfl⟩;simp only[show jy 11=1 from rfl]))
     go_ret
     exact⟨rfl,rfl⟩
   ·have b2:decide ((la:Int)<=1000)=false:=decide_eq_false a2
    rw[show iA 11 len C la lb lc=false by rw[Bool.eq_false_iff];intro hh;simp[iA,im,cnt,iJ,iL] at hh;omega]
    clear a0
    go_enter Tryz.func72,Tryz.ntmps72
    go_wp2_with (first|(go_at_call 73;refine(iT _ _ (by omega) (by omega)).mono ?_;rintro e w2 ⟨rfl,rfl⟩;simp only[show iG 11=false from rfl])|(go_at_call 45;refine(iu _ _ (by omega) (by omega)).mono ?_;rintro e w2 ⟨rfl,rfl⟩;simp only[show jy 11=1 from rfl]))
    go_ret
    exact⟨rfl,rfl⟩
  ·have b1:decide (1<=(la:Int))=false:=decide_eq_false a1
   rw[show iA 11 len C la lb lc=false by rw[Bool.eq_false_iff];intro hh;simp[iA,im,cnt,iJ,iL] at hh;omega]
   clear a0
   go_enter Tryz.func72,Tryz.ntmps72
   go_wp2_with (first|(go_at_call 73;refine(iT _ _ (by omega) (by omega)).mono ?_;rintro e w2 ⟨rfl,rfl⟩;simp only[show iG 11=false from rfl])|(go_at_call 45;refine(iu _ _ (by omega) (by omega)).mono ?_;rintro e w2 ⟨rfl,rfl⟩;simp only[show jy 11=1 from rfl]))
   go_ret
   exact⟨rfl,rfl⟩
 ·have b0:(len==1)=false:=beq_eq_false_iff_ne.2 a0
  rw[show iA 11 len C la lb lc=false by rw[Bool.eq_false_iff];intro hh;simp[iA,im,cnt,iJ,iL] at hh;omega]
  clear a0
  go_enter Tryz.func72,Tryz.ntmps72
  go_wp2_with (first|(go_at_call 73;refine(iT _ _ (by omega) (by omega)).mono ?_;rintro e w2 ⟨rfl,rfl⟩;simp only[show iG 11=false from rfl])|(go_at_call 45;refine(iu _ _ (by omega) (by omega)).mono ?_;rintro e w2 ⟨rfl,rfl⟩;simp only[show jy 11=1 from rfl]))
  go_ret
  exact⟨rfl,rfl⟩
theorem Ad (w:World)(len A B C:Int)(K la lb lc:Nat)(h1:1<=len)(h2:len<=1000):
  Calls Tryz.prog 72 #[jA 12 len A B C K,.int .i64 (la:Int),.int .i64 (lb:Int),.int .i64 (lc:Int)] w λe w'=>e=.returned (.bool (iA 12 len C la lb lc))/\w'=w.alloc (ij 12 len A B C K):=by
 by_cases a0:(la:Int)=1
 ·have b0:((la:Int)==1)=true:=beq_iff_eq.2 a0
  by_cases a1:0<=C
  ·have b1:=a1
   by_cases a2:C<len
   ·have b2:=a2
    rw[show iA 12 len C la lb lc=true by simp[iA,im,cnt,iJ,iL];omega]
    clear a0
    go_enter Tryz.func72,Tryz.ntmps72
    go_wp2_with (first|(go_at_call 73;refine(iT _ _ (by omega) (by omega)).mono ?_;rintro e w2 ⟨rfl,rfl⟩;simp only[show iG 12=false from rfl])|(go_at_call 45;refine(iu _ _ (by omega) (by omega)).mono ?_;rintro e w2 ⟨rfl,rfl⟩;simp only[show jy 12=1 from rfl]))
    go_ret
    exact⟨rfl,rfl⟩
   ·have b2:decide (C<len)=false:=decide_eq_false a2
    rw[show iA 12 len C la lb lc=false by rw[Bool.eq_false_iff];intro hh;simp[iA,im,cnt,iJ,iL] at hh;omega]
    clear a0
    go_enter Tryz.func72,Tryz.ntmps72
    go_wp2_with (first|(go_at_call 73;refine(iT _ _ (by omega) (by omega)).mono ?_;rintro e w2 ⟨rfl,rfl⟩;simp only[show iG 12=false from rfl])|(go_at_call 45;refine(iu _ _ (by omega) (by omega)).mono ?_;rintro e w2 ⟨rfl,rfl⟩;simp only[show jy 12=1 from rfl]))
    go_ret
    exact⟨rfl,rfl⟩
  ·have b1:decide (0<=C)=false:=decide_eq_false a1
   rw[show iA 12 len C la lb lc=false by rw[Bool.eq_false_iff];intro hh;simp[iA,im,cnt,iJ,iL] at hh;omega]
   clear a0
   go_enter Tryz.func72,Tryz.ntmps72
   go_wp2_with (first|(go_at_call 73;refine(iT _ _ (by omega) (by omega)).mono ?_;rintro e w2 ⟨rfl,rfl⟩;simp only[show iG 12=false from rfl])|(go_at_call 45;refine(iu _ _ (by omega) (by omega)).mono ?_;rintro e w2 ⟨rfl,rfl⟩;simp only[show jy 12=1 from rfl]))
   go_ret
   exact⟨rfl,rfl⟩
 ·have b0:((la:Int)==1)=false:=beq_eq_false_iff_ne.2 a0
  rw[show iA 12 len C la lb lc=false by rw[Bool.eq_false_iff];intro hh;simp[iA,im,cnt,iJ,iL] at hh;omega]
  clear a0
  go_enter Tryz.func72,Tryz.ntmps72
  go_wp2_with (first|(go_at_call 73;refine(iT _ _ (by omega) (by omega)).mono ?_;rintro e w2 ⟨rfl,rfl⟩;simp only[show iG 12=false from rfl])|(go_at_call 45;refine(iu _ _ (by omega) (by omega)).mono ?_;rintro e w2 ⟨rfl,rfl⟩;simp only[show jy 12=1 from rfl]))
  go_ret
  exact⟨rfl,rfl⟩
theorem Ae (w:World)(len A B C:Int)(K la lb lc:Nat)(h1:1<=len)(h2:len<=1000):
  Calls Tryz.prog 72 #[jA 13 len A B C K,.int .i64 (la:Int),.int .i64 (lb:Int),.int .i64 (lc:Int)] w λe w'=>e=.returned (.bool (iA 13 len C la lb lc))/\w'=w.alloc (ij 13 len A B C K):=by
 by_cases a0:(la:Int)=len
 ·have b0:((la:Int)==len)=true:=beq_iff_eq.2 a0
  rw[show iA 13 len C la lb lc=true by simp[iA,im,cnt,iJ];omega]
  clear a0
  go_enter Tryz.func72,Tryz.ntmps72
  go_wp2_with (first|(go_at_call 73;refine(iT _ _ (by omega) (by omega)).mono ?_;rintro e w2 ⟨rfl,rfl⟩;simp only[show iG 13=true from rfl])|(go_at_call 45;refine(iu _ _ (by omega) (by omega)).mono ?_;rintro e w2 ⟨rfl,rfl⟩;simp only[show jy 13=1 from rfl]))
  go_ret
  exact⟨rfl,rfl⟩
 ·have b0:((la:Int)==len)=false:=beq_eq_false_iff_ne.2 a0
  rw[show iA 13 len C la lb lc=false by rw[Bool.eq_false_iff];intro hh;simp[iA,im,cnt,iJ] at hh;omega]
  clear a0
  go_enter Tryz.func72,Tryz.ntmps72
  go_wp2_with (first|(go_at_call 73;refine(iT _ _ (by omega) (by omega)).mono ?_;rintro e w2 ⟨rfl,rfl⟩;simp only[show iG 13=true from rfl])|(go_at_call 45;refine(iu _ _ (by omega) (by omega)).mono ?_;rintro e w2 ⟨rfl,rfl⟩;simp only[show jy 13=1 from rfl]))
  go_ret
  exact⟨rfl,rfl⟩
theorem xM (w:World)(op len A B C:Int)(K la lb lc:Nat)(h:¬(1<=op/\op<=13/\1<=len/\len<=1000)):
  Calls Tryz.prog 72 #[jA op len A B C K,.int .i64 (la:Int),.int .i64 (lb:Int),.int .i64 (lc:Int)] w λe w'=>e=.returned (.bool false)/\w'=w.alloc (ij op len A B C K):=by
 by_cases a0:op<1
 ·go_enter Tryz.func72,Tryz.ntmps72
  go_wp2
  go_ret
  exact⟨rfl,rfl⟩
 ·have b0:decide (op<1)=false:=decide_eq_false a0
  by_cases a1:13<op
  ·go_enter Tryz.func72,Tryz.ntmps72
   go_wp2
   go_ret
   exact⟨rfl,rfl⟩
  ·have b1:decide (13<op)=false:=decide_eq_false a1
   by_cases a2:len<1
   ·go_enter Tryz.func72,Tryz.ntmps72
    go_wp2
    go_ret
    exact⟨rfl,rfl⟩
   ·have b2:decide (len<1)=false:=decide_eq_false a2
    have a3:1000<len:=by omega
    go_enter Tryz.func72,Tryz.ntmps72
    go_wp2
    go_ret
    exact⟨rfl,rfl⟩
theorem tO (op len C:Int)(la lb lc:Nat)(h:¬(1<=op/\op<=13/\1<=len/\len<=1000)):iA op len C la lb lc=false:=by
 rw[Bool.eq_false_iff]
 intro hh
 apply h
 simp only[iA,Bool.and_eq_true] at hh
 obtain⟨h1,h2⟩:=hh
 simp only[iJ,decide_eq_true_eq] at h1
 rcases oD op with c|c|c|c|c|c|c|c|c|c|c|c|c|c
 all_goals first|omega|skip
 obtain⟨_,_,_,_,_,_,_,_,h9,h10,h11,h12,_⟩:=c
 unfold im at h2
 rw[if_neg h9,if_neg h10,if_neg h11,if_neg h12] at h2
 split at h2
 ·omega
 ·cases h2
theorem kI (w:World)(op len A B C:Int)(K la lb lc:Nat):
  Calls Tryz.prog 72 #[jA op len A B C K,.int .i64 (la:Int),.int .i64 (lb:Int),.int .i64 (lc:Int)] w λe w'=>e=.returned (.bool (iA op len C la lb lc))/\w'=w.alloc (ij op len A B C K):=by
 by_cases h:1<=op/\op<=13/\1<=len/\len<=1000
 ·obtain⟨h1,h2,h3,h4⟩:=h
  have:op=1\/op=2\/op=3\/op=4\/op=5\/op=6\/op=7\/op=8\/op=9\/op=10\/op=11\/op=12\/op=13:=by omega
  rcases this with rfl|rfl|rfl|rfl|rfl|rfl|rfl|rfl|rfl|rfl|rfl|rfl|rfl
  ·exact Cp w len A B C K la lb lc h3 h4
  ·exact Cq w len A B C K la lb lc h3 h4
  ·exact Cr w len A B C K la lb lc h3 h4
  ·exact Cs w len A B C K la lb lc h3 h4
  ·exact Ct w len A B C K la lb lc h3 h4
  ·exact Cu w len A B C K la lb lc h3 h4
  ·exact Cv w len A B C K la lb lc h3 h4
  ·exact Cw w len A B C K la lb lc h3 h4
  ·exact Cx w len A B C K la lb lc h3 h4
  ·exact Ab w len A B C K la lb lc h3 h4
  ·exact Ac w len A B C K la lb lc h3 h4
  ·exact Ad w len A B C K la lb lc h3 h4
  ·exact Ae w len A B C K la lb lc h3 h4
 ·rw[tO op len C la lb lc h]
  exact xM w op len A B C K la lb lc h
end Go.Proofs.YtnlffngpnoodkaaGreat
