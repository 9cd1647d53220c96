import Derived.Test.YtgamjhpebmmjcaaGreatDoorP05
import Derived.Test.YtgamjhpebmmjcaaGreatDoorP04
import Derived.Deep.QuietTactic
import Derived.BigQuiet
import Derived.Test.YtgamjhpebmmjcaaGreatDoorP03
namespace Go.Proofs.YtgamjhpebmmjcaaGreatDoor
set_option maxRecDepth 100000
set_option maxHeartbeats 40000000
open Go.RowKit Flt
attribute [local go_sem] alloc_drewN setCell_drewN run_store_float
theorem e2_plus (w:World)(n:Nat)(h1:1≤n)(hn:n≤1000){l0 h0':Nat}{a0:Option Addr}{c0:Nat}{xs:List Nat}(f0:FS w l0 h0' a0 n xs){l1 h1':Nat}{a1:Option Addr}{c1:Nat}{ys:List Nat}(f1:FS w l1 h1' a1 n ys):
  Calls Tryz.prog 155 #[.slice a0 n c0,.slice a1 n c1,.func (.func 156) #[] #[]] w fun e w'=>Made n (fun k=>cop .add (xs.getD k 0) (ys.getD k 0)) w e w':=by
 rcases f0.at_ with h|⟨g0,o0,rfl,_,_,b0,k0⟩
 ·omega
 rcases f1.at_ with h|⟨g1,o1,rfl,_,_,b1,k1⟩
 ·omega
 exact each_plus _ fn_plus w n hn g0 o0 c0 xs b0 f0.lt k0 g1 o1 c1 ys b1 f1.lt k1
theorem e2_minus (w:World)(n:Nat)(h1:1≤n)(hn:n≤1000){l0 h0':Nat}{a0:Option Addr}{c0:Nat}{xs:List Nat}(f0:FS w l0 h0' a0 n xs){l1 h1':Nat}{a1:Option Addr}{c1:Nat}{ys:List Nat}(f1:FS w l1 h1' a1 n ys):
  Calls Tryz.prog 155 #[.slice a0 n c0,.slice a1 n c1,.func (.func 157) #[] #[]] w fun e w'=>Made n (fun k=>cop .sub (xs.getD k 0) (ys.getD k 0)) w e w':=by
 rcases f0.at_ with h|⟨g0,o0,rfl,_,_,b0,k0⟩
 ·omega
 rcases f1.at_ with h|⟨g1,o1,rfl,_,_,b1,k1⟩
 ·omega
 exact each_minus _ fn_minus w n hn g0 o0 c0 xs b0 f0.lt k0 g1 o1 c1 ys b1 f1.lt k1
theorem e2_times (w:World)(n:Nat)(h1:1≤n)(hn:n≤1000){l0 h0':Nat}{a0:Option Addr}{c0:Nat}{xs:List Nat}(f0:FS w l0 h0' a0 n xs){l1 h1':Nat}{a1:Option Addr}{c1:Nat}{ys:List Nat}(f1:FS w l1 h1' a1 n ys):
  Calls Tryz.prog 155 #[.slice a0 n c0,.slice a1 n c1,.func (.func 158) #[] #[]] w fun e w'=>Made n (fun k=>cop .mul (xs.getD k 0) (ys.getD k 0)) w e w':=by
 rcases f0.at_ with h|⟨g0,o0,rfl,_,_,b0,k0⟩
 ·omega
 rcases f1.at_ with h|⟨g1,o1,rfl,_,_,b1,k1⟩
 ·omega
 exact each_times _ fn_times w n hn g0 o0 c0 xs b0 f0.lt k0 g1 o1 c1 ys b1 f1.lt k1
theorem e2_over (w:World)(n:Nat)(h1:1≤n)(hn:n≤1000){l0 h0':Nat}{a0:Option Addr}{c0:Nat}{xs:List Nat}(f0:FS w l0 h0' a0 n xs){l1 h1':Nat}{a1:Option Addr}{c1:Nat}{ys:List Nat}(f1:FS w l1 h1' a1 n ys):
  Calls Tryz.prog 155 #[.slice a0 n c0,.slice a1 n c1,.func (.func 16) #[] #[]] w fun e w'=>Made n (fun k=>cop .quo (xs.getD k 0) (ys.getD k 0)) w e w':=by
 rcases f0.at_ with h|⟨g0,o0,rfl,_,_,b0,k0⟩
 ·omega
 rcases f1.at_ with h|⟨g1,o1,rfl,_,_,b1,k1⟩
 ·omega
 exact each_over _ fn_over w n hn g0 o0 c0 xs b0 f0.lt k0 g1 o1 c1 ys b1 f1.lt k1
theorem e2_greater (w:World)(n:Nat)(h1:1≤n)(hn:n≤1000){l0 h0':Nat}{a0:Option Addr}{c0:Nat}{xs:List Nat}(f0:FS w l0 h0' a0 n xs){l1 h1':Nat}{a1:Option Addr}{c1:Nat}{ys:List Nat}(f1:FS w l1 h1' a1 n ys):
  Calls Tryz.prog 155 #[.slice a0 n c0,.slice a1 n c1,.func (.func 161) #[] #[]] w fun e w'=>Made n (fun k=>greaterN (xs.getD k 0) (ys.getD k 0)) w e w':=by
 rcases f0.at_ with h|⟨g0,o0,rfl,_,_,b0,k0⟩
 ·omega
 rcases f1.at_ with h|⟨g1,o1,rfl,_,_,b1,k1⟩
 ·omega
 exact each_greater _ fn_greater w n hn g0 o0 c0 xs b0 f0.lt k0 g1 o1 c1 ys b1 f1.lt k1
theorem e1_negated (w:World)(n:Nat)(h1:1≤n)(hn:n≤1000){l0 h0':Nat}{a0:Option Addr}{c0:Nat}{xs:List Nat}(f0:FS w l0 h0' a0 n xs):
  Calls Tryz.prog 159 #[.slice a0 n c0,.func (.func 160) #[] #[]] w fun e w'=>Made n (fun k=>Op.negFloat .f64 (xs.getD k 0)) w e w':=by
 rcases f0.at_ with h|⟨g0,o0,rfl,_,_,b0,k0⟩
 ·omega
 exact each_negated _ fn_negated w n hn g0 o0 c0 xs b0 f0.lt k0
theorem e1_exp (w:World)(n:Nat)(h1:1≤n)(hn:n≤1000){l0 h0':Nat}{a0:Option Addr}{c0:Nat}{xs:List Nat}(f0:FS w l0 h0' a0 n xs):
  Calls Tryz.prog 159 #[.slice a0 n c0,.func (.func 166) #[] #[]] w fun e w'=>Made n (fun k=>cexp (xs.getD k 0)) w e w':=by
 rcases f0.at_ with h|⟨g0,o0,rfl,_,_,b0,k0⟩
 ·omega
 exact each_exp _ fn_exp w n hn g0 o0 c0 xs b0 f0.lt k0
theorem e3_chosen (w:World)(n:Nat)(h1:1≤n)(hn:n≤1000){l0 h0':Nat}{a0:Option Addr}{c0:Nat}{xs:List Nat}(f0:FS w l0 h0' a0 n xs){l1 h1':Nat}{a1:Option Addr}{c1:Nat}{ys:List Nat}(f1:FS w l1 h1' a1 n ys){l2 h2':Nat}{a2:Option Addr}{c2:Nat}{us:List Nat}(f2:FS w l2 h2' a2 n us):
  Calls Tryz.prog 162 #[.slice a0 n c0,.slice a1 n c1,.slice a2 n c2,.func (.func 163) #[] #[]] w fun e w'=>Made n (fun k=>chosenN (xs.getD k 0) (ys.getD k 0) (us.getD k 0)) w e w':=by
 rcases f0.at_ with h|⟨g0,o0,rfl,_,_,b0,k0⟩
 ·omega
 rcases f1.at_ with h|⟨g1,o1,rfl,_,_,b1,k1⟩
 ·omega
 rcases f2.at_ with h|⟨g2,o2,rfl,_,_,b2,k2⟩
 ·omega
 exact each_chosen w n hn g0 o0 c0 xs b0 f0.lt k0 g1 o1 c1 ys b1 f1.lt k1 g2 o2 c2 us b2 f2.lt k2
theorem foldFS (w:World)(n:Nat)(h1:1≤n)(hn:n≤1000){l0 h0':Nat}{a0:Option Addr}{c0:Nat}{xs:List Nat}(f0:FS w l0 h0' a0 n xs)(hc:n≤c0):
  Calls Tryz.prog 164 #[.slice a0 n c0,.func (.func 156) #[] #[]] w fun e w'=>∃z,e=.returned (.float .f64 z)∧z<18446744073709551616∧fb z=fb (csum xs)∧Drawn w w':=by
 rcases f0.at_ with h|⟨g,o,rfl,_,_,b,k⟩
 ·omega
 exact fold w n hn h1 g o c0 xs f0.len hc f0.lt k
theorem Made.kres {n:Nat}{q q':Nat→Nat}{w wc:World}{e:Ending}{w':World}(h:Made n q wc e w')(hk:Kept 0 0 w wc)(hq:∀k,k<n→fb (q k)=fb (q' k)):KRes n q' w e w':=by
 obtain⟨zs,h1,h2,h3,h4,h5,h6⟩:=h
 exact⟨_,zs,h1,hk.size,h2,h3,h4,fun k hk'=>(h5 k hk').trans (hq k hk'),hk.trans h6⟩
theorem implKernel_ok (w:World)(op A B C:Int)(n K:Nat)(h1:1≤n)(hn:n≤1000)(hK:K<18446744073709551616){l0 h0' l1 h1' l2 h2':Nat}{a b c:Option Addr}{la lb lc ca cb cc:Nat}{xa xb xc:List Nat}
  (fa:FS w l0 h0' a la xa) (fb':FS w l1 h1' b lb xb) (fc:FS w l2 h2' c lc xc) (hca:la≤ca)
  (hs:shapeB op (n:Int) C (([(la:Int),(lb:Int),(lc:Int)]).take (cnt op))=true):
  Calls Tryz.prog 141 #[vagg op (n:Int) A B C K,.slice a la ca,.slice b lb cb,.slice c lc cc] w fun e w'=>KRes n (elem op C K xa xb xc) w e w':=by
 have HS:Hid (shapeB op (n:Int) C (([(la:Int),(lb:Int),(lc:Int)]).take (cnt op))=true):=hs
 have hL:Hid (∀w,Calls Tryz.prog 62 #[.int .i64 (n:Int)] w fun e w'=>e=.returned (.bool true)∧w'=w):=fun w=>by
  have:=isLength_any (n:Int) w
  rw[lenB_true (by omega) (by omega)] at this
  exact this
 have hI:=lens_is (w.alloc (vbox op (n:Int) A B C K)) la lb lc
 have hI2:=hI.prefix (cnt op) (cnt_le op)
 have hcnt:=cnt_le op
 have hC:Hid (∀w,Calls Tryz.prog 75 #[.int .i64 op] w fun e w'=>e=.returned (.int .i64 (cnt op:Nat))∧w'=w):=opCount op
 have hS:Hid (∀m,Calls Tryz.prog 101 #[vagg op (n:Int) A B C K,.slice (some ⟨w.heap.size+1,0,none⟩) (cnt op) 3] (((w.alloc (vbox op (n:Int) A B C K)).alloc (.cells #[.int .i64 la,.int .i64 lb,.int .i64 lc] 3)).drewN m)
   fun e w'=>e=.returned (.bool true)∧Kept 0 0 (((w.alloc (vbox op (n:Int) A B C K)).alloc (.cells #[.int .i64 la,.int .i64 lb,.int .i64 lc] 3)).drewN m) w'):=fun m=>by
  have h:=shapeFits _ op (n:Int) A B C K _ _ _ _ 3 _ (hI2.keep (kept_drewN 0 0 _ m) (.inr (.inr (Nat.le_refl _)))) rfl
  rw[hs] at h
  have e:(w.alloc (vbox op (n:Int) A B C K)).heap.size=w.heap.size+1:=by simp
  rw[e] at h
  exact h
 clear hI hI2 hs
 generalize cnt op=q at hC hS hcnt
 go_enter Tryz.func141,Tryz.ntmps141
 go_upto_region 2 with fail
 go_cut [30] (fun r wx=>r=.bool (!true)∧Kept 0 0 ((w.alloc (vbox op (n:Int) A B C K)).alloc (.cells #[.int .i64 la,.int .i64 lb,.int .i64 lc] 3)) wx)
 case first=>
  go_region_with (first|(go_at_call 62;refine(hL.out _).mono ?_;rintro e w2 ⟨rfl,rfl⟩)|(go_at_call 75;refine(hC.out _).mono ?_;rintro e w2 ⟨rfl,rfl⟩)|(go_at_call 101;refine(hS.out 1).mono ?_;rintro e w2 ⟨rfl,hk⟩))
  all_goals
   go_wp2_with fail
   go_meet
   exact⟨rfl,(kept_drewN 0 0 _ 1).trans hk⟩
 case rest=>
  obtain⟨rfl,hcut2⟩:=hcut
  clear hL hC hS hcnt
  have hW:Hid _:=((kept_alloc 0 0 w (vbox op (n:Int) A B C K)).trans (kept_alloc 0 0 _ (.cells #[.int .i64 la,.int .i64 lb,.int .i64 lc] 3))).trans hcut2
  have sz:w.heap.size<((w.alloc (vbox op (n:Int) A B C K)).alloc (.cells #[.int .i64 la,.int .i64 lb,.int .i64 lc] 3)).heap.size:=by simp;omega
  have bx:∀i,wc.cell? ⟨w.heap.size,i,none⟩=((w.alloc (vbox op (n:Int) A B C K)).alloc (.cells #[.int .i64 la,.int .i64 lb,.int .i64 lc] 3)).cell? ⟨w.heap.size,i,none⟩:=fun i=>hcut2.cell (p:=⟨w.heap.size,i,none⟩) sz (by omega)
  have b0:wc.cell? ⟨w.heap.size,0,none⟩=some (.int .i64 op):=by rw[bx];simp
  have b1:wc.cell? ⟨w.heap.size,1,none⟩=some (.int .i64 (n:Int)):=by rw[bx];simp
  have b4:wc.cell? ⟨w.heap.size,4,none⟩=some (.int .i64 C):=by rw[bx];simp
  have b5:wc.cell? ⟨w.heap.size,5,none⟩=some (.float .f64 K):=by rw[bx];simp
  have ga:=fa.keep hW.out (.inr (.inr (Nat.le_refl _)))
  have gb:=fb'.keep hW.out (.inr (.inr (Nat.le_refl _)))
  have gc:=fc.keep hW.out (.inr (.inr (Nat.le_refl _)))
  clear fa fb' fc bx sz hcut2
  have HOP:=HS.out
  clear HS
  rcases op_cases op with h|h|h|h|h|h|h|h|h|h|h|h|h|h
  ·
   have t1:(op==1)=true:=beq_iff_eq.2 h
   clear HOP ga gb gc
   have HE:Hid (∀k,k<n→fb ((fun _=>K) k)=fb (elem op C K xa xb xc k)):=fun k _=>by simp[elem,h]
   clear h
   go_wp2_with fail
   refine(copies _ K n hK hn).mono ?_
   intro e w2 hm
   obtain⟨zs,rfl,m1,m2,m3,m4,m5⟩:=hm
   have M1:Hid _:=m1
   have M2:Hid _:=m2
   have M3:Hid _:=m3
   have M4:Hid _:=m4
   have M5:Hid _:=m5
   clear m1 m2 m3 m4 m5
   go_wp2
   go_ret
   exact Made.kres ⟨zs,rfl,M1.out,M2.out,M3.out,M4.out,M5.out⟩ hW.out HE.out
  ·
   have t1:(op==1)=false:=beq_eq_false_iff_ne.2 (by omega)
   have t2:(op==2)=true:=beq_iff_eq.2 h
   have hfit:la=n∧lb=n:=by rw[h] at HOP;simp[shapeB,cnt] at HOP;omega
   have HE:Hid (∀k,k<n→fb ((fun k=>cop .add (xa.getD k 0) (xb.getD k 0)) k)=fb (elem op C K xa xb xc k)):=fun k _=>by simp[elem,h]
   have HF:Hid _:=hfit
   have GA:Hid _:=ga
   have GB:Hid _:=gb
   have GC:Hid _:=gc
   clear HOP ga gb gc hfit h
   go_wp2_with fail
   have q0:=GA.out
   rw[HF.out.1] at q0
   have q1:=GB.out
   rw[HF.out.2] at q1
   rw[HF.out.1,HF.out.2]
   refine(e2_plus _ n h1 hn q0 q1).mono ?_
   clear q0 q1
   intro e w2 hm
   obtain⟨zs,rfl,m1,m2,m3,m4,m5⟩:=hm
   have M1:Hid _:=m1
   have M2:Hid _:=m2
   have M3:Hid _:=m3
   have M4:Hid _:=m4
   have M5:Hid _:=m5
   clear m1 m2 m3 m4 m5
   go_wp2
   go_ret
   exact Made.kres ⟨zs,rfl,M1.out,M2.out,M3.out,M4.out,M5.out⟩ hW.out HE.out
  ·
   have t1:(op==1)=false:=beq_eq_false_iff_ne.2 (by omega)
   have t2:(op==2)=false:=beq_eq_false_iff_ne.2 (by omega)
   have t3:(op==3)=true:=beq_iff_eq.2 h
   have hfit:la=n∧lb=n:=by rw[h] at HOP;simp[shapeB,cnt] at HOP;omega
   have HE:Hid (∀k,k<n→fb ((fun k=>cop .sub (xa.getD k 0) (xb.getD k 0)) k)=fb (elem op C K xa xb xc k)):=fun k _=>by simp[elem,h]
   have HF:Hid _:=hfit
   have GA:Hid _:=ga
   have GB:Hid _:=gb
   have GC:Hid _:=gc
   clear HOP ga gb gc hfit h
   go_wp2_with fail
   have q0:=GA.out
   rw[HF.out.1] at q0
   have q1:=GB.out
   rw[HF.out.2] at q1
   rw[HF.out.1,HF.out.2]
   refine(e2_minus _ n h1 hn q0 q1).mono ?_
   clear q0 q1
   intro e w2 hm
   obtain⟨zs,rfl,m1,m2,m3,m4,m5⟩:=hm
   have M1:Hid _:=m1
   have M2:Hid _:=m2
   have M3:Hid _:=m3
   have M4:Hid _:=m4
   have M5:Hid _:=m5
   clear m1 m2 m3 m4 m5
   go_wp2
   go_ret
   exact Made.kres ⟨zs,rfl,M1.out,M2.out,M3.out,M4.out,M5.out⟩ hW.out HE.out
  ·
   have t1:(op==1)=false:=beq_eq_false_iff_ne.2 (by omega)
   have t2:(op==2)=false:=beq_eq_false_iff_ne.2 (by omega)
   have t3:(op==3)=false:=beq_eq_false_iff_ne.2 (by omega)
   have t4:(op==4)=true:=beq_iff_eq.2 h
   have hfit:la=n∧lb=n:=by rw[h] at HOP;simp[shapeB,cnt] at HOP;omega
   have HE:Hid (∀k,k<n→fb ((fun k=>cop .mul (xa.getD k 0) (xb.getD k 0)) k)=fb (elem op C K xa xb xc k)):=fun k _=>by simp[elem,h]
   have HF:Hid _:=hfit
   have GA:Hid _:=ga
   have GB:Hid _:=gb
   have GC:Hid _:=gc
   clear HOP ga gb gc hfit h
   go_wp2_with fail
   have q0:=GA.out
   rw[HF.out.1] at q0
   have q1:=GB.out
   rw[HF.out.2] at q1
   rw[HF.out.1,HF.out.2]
   refine(e2_times _ n h1 hn q0 q1).mono ?_
   clear q0 q1
   intro e w2 hm
   obtain⟨zs,rfl,m1,m2,m3,m4,m5⟩:=hm
   have M1:Hid _:=m1
   have M2:Hid _:=m2
   have M3:Hid _:=m3
   have M4:Hid _:=m4
   have M5:Hid _:=m5
   clear m1 m2 m3 m4 m5
   go_wp2
   go_ret
   exact Made.kres ⟨zs,rfl,M1.out,M2.out,M3.out,M4.out,M5.out⟩ hW.out HE.out
  ·
   have t1:(op==1)=false:=beq_eq_false_iff_ne.2 (by omega)
   have t2:(op==2)=false:=beq_eq_false_iff_ne.2 (by omega)
   have t3:(op==3)=false:=beq_eq_false_iff_ne.2 (by omega)
   have t4:(op==4)=false:=beq_eq_false_iff_ne.2 (by omega)
   have t5:(op==5)=true:=beq_iff_eq.2 h
   have hfit:la=n∧lb=n:=by rw[h] at HOP;simp[shapeB,cnt] at HOP;omega
   have HE:Hid (∀k,k<n→fb ((fun k=>cop .quo (xa.getD k 0) (xb.getD k 0)) k)=fb (elem op C K xa xb xc k)):=fun k _=>by simp[elem,h]
   have HF:Hid _:=hfit
   have GA:Hid _:=ga
   have GB:Hid _:=gb
   have GC:Hid _:=gc
   clear HOP ga gb gc hfit h
   go_wp2_with fail
   have q0:=GA.out
   rw[HF.out.1] at q0
   have q1:=GB.out
   rw[HF.out.2] at q1
   rw[HF.out.1,HF.out.2]
   refine(e2_over _ n h1 hn q0 q1).mono ?_
   clear q0 q1
   intro e w2 hm
   obtain⟨zs,rfl,m1,m2,m3,m4,m5⟩:=hm
   have M1:Hid _:=m1
   have M2:Hid _:=m2
   have M3:Hid _:=m3
   have M4:Hid _:=m4
   have M5:Hid _:=m5
   clear m1 m2 m3 m4 m5
   go_wp2
   go_ret
   exact Made.kres ⟨zs,rfl,M1.out,M2.out,M3.out,M4.out,M5.out⟩ hW.out HE.out
  ·
   have t1:(op==1)=false:=beq_eq_false_iff_ne.2 (by omega)
   have t2:(op==2)=false:=beq_eq_false_iff_ne.2 (by omega)
   have t3:(op==3)=false:=beq_eq_false_iff_ne.2 (by omega)
   have t4:(op==4)=false:=beq_eq_false_iff_ne.2 (by omega)
   have t5:(op==5)=false:=beq_eq_false_iff_ne.2 (by omega)
   have t6:(op==6)=true:=beq_iff_eq.2 h
   have hfit:la=n:=by rw[h] at HOP;simp[shapeB,cnt] at HOP;omega
   have HE:Hid (∀k,k<n→fb ((fun k=>Op.negFloat .f64 (xa.getD k 0)) k)=fb (elem op C K xa xb xc k)):=fun k _=>by simp[elem,h]
   have HF:Hid _:=hfit
   have GA:Hid _:=ga
   have GB:Hid _:=gb
   have GC:Hid _:=gc
   clear HOP ga gb gc hfit h
   go_wp2_with fail
   have q0:=GA.out
   rw[HF.out] at q0
   rw[HF.out]
   refine(e1_negated _ n h1 hn q0).mono ?_
   clear q0
   intro e w2 hm
   obtain⟨zs,rfl,m1,m2,m3,m4,m5⟩:=hm
   have M1:Hid _:=m1
   have M2:Hid _:=m2
   have M3:Hid _:=m3
   have M4:Hid _:=m4
   have M5:Hid _:=m5
   clear m1 m2 m3 m4 m5
   go_wp2
   go_ret
   exact Made.kres ⟨zs,rfl,M1.out,M2.out,M3.out,M4.out,M5.out⟩ hW.out HE.out
  ·
   have t1:(op==1)=false:=beq_eq_false_iff_ne.2 (by omega)
   have t2:(op==2)=false:=beq_eq_false_iff_ne.2 (by omega)
   have t3:(op==3)=false:=beq_eq_false_iff_ne.2 (by omega)
   have t4:(op==4)=false:=beq_eq_false_iff_ne.2 (by omega)
   have t5:(op==5)=false:=beq_eq_false_iff_ne.2 (by omega)
   have t6:(op==6)=false:=beq_eq_false_iff_ne.2 (by omega)
   have t7:(op==7)=true:=beq_iff_eq.2 h
   have hfit:la=n∧lb=n:=by rw[h] at HOP;simp[shapeB,cnt] at HOP;omega
   have HE:Hid (∀k,k<n→fb ((fun k=>greaterN (xa.getD k 0) (xb.getD k 0)) k)=fb (elem op C K xa xb xc k)):=fun k _=>by simp[elem,h]
   have HF:Hid _:=hfit
   have GA:Hid _:=ga
   have GB:Hid _:=gb
   have GC:Hid _:=gc
   clear HOP ga gb gc hfit h
   go_wp2_with fail
   have q0:=GA.out
   rw[HF.out.1] at q0
   have q1:=GB.out
   rw[HF.out.2] at q1
   rw[HF.out.1,HF.out.2]
   refine(e2_greater _ n h1 hn q0 q1).mono ?_
   clear q0 q1
   intro e w2 hm
   obtain⟨zs,rfl,m1,m2,m3,m4,m5⟩:=hm
   have M1:Hid _:=m1
   have M2:Hid _:=m2
   have M3:Hid _:=m3
   have M4:Hid _:=m4
   have M5:Hid _:=m5
   clear m1 m2 m3 m4 m5
   go_wp2
   go_ret
   exact Made.kres ⟨zs,rfl,M1.out,M2.out,M3.out,M4.out,M5.out⟩ hW.out HE.out
  ·
   have t1:(op==1)=false:=beq_eq_false_iff_ne.2 (by omega)
   have t2:(op==2)=false:=beq_eq_false_iff_ne.2 (by omega)
   have t3:(op==3)=false:=beq_eq_false_iff_ne.2 (by omega)
   have t4:(op==4)=false:=beq_eq_false_iff_ne.2 (by omega)
   have t5:(op==5)=false:=beq_eq_false_iff_ne.2 (by omega)
   have t6:(op==6)=false:=beq_eq_false_iff_ne.2 (by omega)
   have t7:(op==7)=false:=beq_eq_false_iff_ne.2 (by omega)
   have t8:(op==8)=true:=beq_iff_eq.2 h
   have hfit:la=n∧lb=n∧lc=n:=by rw[h] at HOP;simp[shapeB,cnt] at HOP;omega
   have HE:Hid (∀k,k<n→fb ((fun k=>chosenN (xa.getD k 0) (xb.getD k 0) (xc.getD k 0)) k)=fb (elem op C K xa xb xc k)):=fun k _=>by simp[elem,h]
   have HF:Hid _:=hfit
   have GA:Hid _:=ga
   have GB:Hid _:=gb
   have GC:Hid _:=gc
   clear HOP ga gb gc hfit h
   go_wp2_with fail
   have q0:=GA.out
   rw[HF.out.1] at q0
   have q1:=GB.out
   rw[HF.out.2.1] at q1
   have q2:=GC.out
   rw[HF.out.2.2] at q2
   rw[HF.out.1,HF.out.2.1,HF.out.2.2]
   refine(e3_chosen _ n h1 hn q0 q1 q2).mono ?_
   clear q0 q1 q2
   intro e w2 hm
   obtain⟨zs,rfl,m1,m2,m3,m4,m5⟩:=hm
   have M1:Hid _:=m1
   have M2:Hid _:=m2
   have M3:Hid _:=m3
   have M4:Hid _:=m4
   have M5:Hid _:=m5
   clear m1 m2 m3 m4 m5
   go_wp2
   go_ret
   exact Made.kres ⟨zs,rfl,M1.out,M2.out,M3.out,M4.out,M5.out⟩ hW.out HE.out
  ·
   have t1:(op==1)=false:=beq_eq_false_iff_ne.2 (by omega)
   have t2:(op==2)=false:=beq_eq_false_iff_ne.2 (by omega)
   have t3:(op==3)=false:=beq_eq_false_iff_ne.2 (by omega)
   have t4:(op==4)=false:=beq_eq_false_iff_ne.2 (by omega)
   have t5:(op==5)=false:=beq_eq_false_iff_ne.2 (by omega)
   have t6:(op==6)=false:=beq_eq_false_iff_ne.2 (by omega)
   have t7:(op==7)=false:=beq_eq_false_iff_ne.2 (by omega)
   have t8:(op==8)=false:=beq_eq_false_iff_ne.2 (by omega)
   have t9:(op==9)=true:=beq_iff_eq.2 h
   have hfit:n=1∧1≤la∧la≤1000:=by rw[h] at HOP;simp[shapeB,cnt,lenB] at HOP;omega
   have HE:Hid (∀z,fb z=fb (csum xa)→∀k,k<n→fb ((fun _=>z) k)=fb (elem op C K xa xb xc k)):=fun z hz k _=>by simp[elem,h,hz]
   have HF:Hid _:=hfit
   have GA:Hid _:=ga
   clear HOP ga gb gc hfit h
   go_wp2_with fail
   refine(foldFS _ la HF.out.2.1 HF.out.2.2 GA.out hca).mono ?_
   rintro e w2 ⟨z,rfl,hz,hsum,hD⟩
   have HZ:Hid (fb z=fb (csum xa)):=hsum
   clear hsum
   go_wp2_with fail
   refine(copies _ z 1 hz (by omega)).mono ?_
   intro e w3 hm
   obtain⟨zs,rfl,m1,m2,m3,m4,m5⟩:=hm
   have M1:Hid _:=m1
   have M2:Hid _:=m2
   have M3:Hid _:=m3
   have M4:Hid _:=m4
   have M5:Hid _:=m5
   clear m1 m2 m3 m4 m5
   go_wp2
   go_ret
   rw[HF.out.1]
   have hE:=HE.out z HZ.out
   rw[HF.out.1] at hE
   exact Made.kres ⟨zs,rfl,M1.out,M2.out,M3.out,M4.out,M5.out⟩ (hW.out.trans (hD.kept 0 0)) hE
  ·
   have t1:(op==1)=false:=beq_eq_false_iff_ne.2 (by omega)
   have t2:(op==2)=false:=beq_eq_false_iff_ne.2 (by omega)
   have t3:(op==3)=false:=beq_eq_false_iff_ne.2 (by omega)
   have t4:(op==4)=false:=beq_eq_false_iff_ne.2 (by omega)
   have t5:(op==5)=false:=beq_eq_false_iff_ne.2 (by omega)
   have t6:(op==6)=false:=beq_eq_false_iff_ne.2 (by omega)
   have t7:(op==7)=false:=beq_eq_false_iff_ne.2 (by omega)
   have t8:(op==8)=false:=beq_eq_false_iff_ne.2 (by omega)
   have t9:(op==9)=false:=beq_eq_false_iff_ne.2 (by omega)
   have t10:(op==10)=true:=beq_iff_eq.2 h
   have hfit:la=1:=by rw[h] at HOP;simp[shapeB,cnt] at HOP;omega
   have HE:Hid (∀k,k<n→fb ((fun _=>xa.getD 0 0) k)=fb (elem op C K xa xb xc k)):=fun k _=>by simp[elem,h]
   have hx:=getD_lt ga.lt 0
   rcases ga.at_ with hz|⟨g,o,rfl,_,_,hg,kc⟩
   ·omega
   have k0:=kc 0 (by omega)
   rw[Nat.add_zero] at k0
   have hla:(0:Int)<(la:Int):=by omega
   clear HOP ga gb gc hfit h kc hg
   generalize xa.getD 0 0=x at hx HE k0
   go_wp2_with fail
   go_region_with (go_at_call 154;refine(copies _ x n hx hn).mono ?_;intro e w2 hm;obtain⟨zs,rfl,m1,m2,m3,m4,m5⟩:=hm;have M1:Hid _:=m1;have M2:Hid _:=m2;have M3:Hid _:=m3;have M4:Hid _:=m4;have M5:Hid _:=m5;clear m1 m2 m3 m4 m5)
   all_goals
    go_wp2
    go_ret
    exact Made.kres (wc:=wc.drew) ⟨zs,rfl,M1.out,M2.out,M3.out,M4.out,M5.out⟩ (hW.out.trans (kept_drewN 0 0 _ 1)) HE.out
  ·
   have t1:(op==1)=false:=beq_eq_false_iff_ne.2 (by omega)
   have t2:(op==2)=false:=beq_eq_false_iff_ne.2 (by omega)
   have t3:(op==3)=false:=beq_eq_false_iff_ne.2 (by omega)
   have t4:(op==4)=false:=beq_eq_false_iff_ne.2 (by omega)
   have t5:(op==5)=false:=beq_eq_false_iff_ne.2 (by omega)
   have t6:(op==6)=false:=beq_eq_false_iff_ne.2 (by omega)
   have t7:(op==7)=false:=beq_eq_false_iff_ne.2 (by omega)
   have t8:(op==8)=false:=beq_eq_false_iff_ne.2 (by omega)
   have t9:(op==9)=false:=beq_eq_false_iff_ne.2 (by omega)
   have t10:(op==10)=false:=beq_eq_false_iff_ne.2 (by omega)
   have t11:(op==11)=true:=beq_iff_eq.2 h
   have hfit:n=1∧1≤la∧la≤1000∧0≤C∧C<(la:Int):=by rw[h] at HOP;simp[shapeB,cnt,lenB,idxB] at HOP;omega
   obtain⟨p,hp⟩:=Int.eq_ofNat_of_zero_le hfit.2.2.2.1
   have HE:Hid (∀k,k<n→fb ((fun _=>xa.getD p 0) k)=fb (elem op C K xa xb xc k)):=fun k _=>by simp[elem,h,hp]
   have hx:=getD_lt ga.lt p
   rcases ga.at_ with hz|⟨g,o,rfl,_,_,hg,kc⟩
   ·omega
   have k0:=kc p (by omega)
   have hpl:(p:Int)<(la:Int):=by omega
   have HF:Hid _:=hfit
   rw[hp] at b4
   clear HOP ga gb gc hfit h kc hg hp
   generalize xa.getD p 0=x at hx HE k0
   go_wp2_with fail
   refine(copies _ x 1 hx (by omega)).mono ?_
   intro e w2 hm
   obtain⟨zs,rfl,m1,m2,m3,m4,m5⟩:=hm
   have M1:Hid _:=m1
   have M2:Hid _:=m2
   have M3:Hid _:=m3
   have M4:Hid _:=m4
   have M5:Hid _:=m5
   clear m1 m2 m3 m4 m5
   go_wp2
   go_ret
   rw[HF.out.1]
   have hE:=HE.out
   rw[HF.out.1] at hE
   exact Made.kres ⟨zs,rfl,M1.out,M2.out,M3.out,M4.out,M5.out⟩ hW.out hE
  ·
   have t1:(op==1)=false:=beq_eq_false_iff_ne.2 (by omega)
   have t2:(op==2)=false:=beq_eq_false_iff_ne.2 (by omega)
   have t3:(op==3)=false:=beq_eq_false_iff_ne.2 (by omega)
   have t4:(op==4)=false:=beq_eq_false_iff_ne.2 (by omega)
   have t5:(op==5)=false:=beq_eq_false_iff_ne.2 (by omega)
   have t6:(op==6)=false:=beq_eq_false_iff_ne.2 (by omega)
   have t7:(op==7)=false:=beq_eq_false_iff_ne.2 (by omega)
   have t8:(op==8)=false:=beq_eq_false_iff_ne.2 (by omega)
   have t9:(op==9)=false:=beq_eq_false_iff_ne.2 (by omega)
   have t10:(op==10)=false:=beq_eq_false_iff_ne.2 (by omega)
   have t11:(op==11)=false:=beq_eq_false_iff_ne.2 (by omega)
   have t12:(op==12)=true:=beq_iff_eq.2 h
   have hfit:la=1∧0≤C∧C<(n:Int):=by rw[h] at HOP;simp[shapeB,cnt,idxB] at HOP;omega
   obtain⟨p,hp⟩:=Int.eq_ofNat_of_zero_le hfit.2.1
   have HE:Hid (∀k,k<n→fb ((fun k=>if k=p then xa.getD 0 0 else 0) k)=fb (elem op C K xa xb xc k)):=fun k _=>by simp[elem,h,hp]
   have hx:=getD_lt ga.lt 0
   rcases ga.at_ with hz|⟨g,o,rfl,_,_,hg,kc⟩
   ·omega
   have k0:=kc 0 (by omega)
   rw[Nat.add_zero] at k0
   have hla:(0:Int)<(la:Int):=by omega
   have hpn:p<n:=by omega
   rw[hp] at b4
   clear HOP ga gb gc hfit h kc hg hp
   generalize xa.getD 0 0=x at hx HE k0
   go_wp2_with fail
   go_region_with (go_at_call 165;refine(placed _ x p n hx hn hpn).mono ?_;intro e w2 hm;obtain⟨zs,rfl,m1,m2,m3,m4,m5⟩:=hm;have M1:Hid _:=m1;have M2:Hid _:=m2;have M3:Hid _:=m3;have M4:Hid _:=m4;have M5:Hid _:=m5;clear m1 m2 m3 m4 m5)
   all_goals
    go_wp2
    go_ret
    exact Made.kres (wc:=wc.drew) ⟨zs,rfl,M1.out,M2.out,M3.out,M4.out,M5.out⟩ (hW.out.trans (kept_drewN 0 0 _ 1)) HE.out
  ·
   have t1:(op==1)=false:=beq_eq_false_iff_ne.2 (by omega)
   have t2:(op==2)=false:=beq_eq_false_iff_ne.2 (by omega)
   have t3:(op==3)=false:=beq_eq_false_iff_ne.2 (by omega)
   have t4:(op==4)=false:=beq_eq_false_iff_ne.2 (by omega)
   have t5:(op==5)=false:=beq_eq_false_iff_ne.2 (by omega)
   have t6:(op==6)=false:=beq_eq_false_iff_ne.2 (by omega)
   have t7:(op==7)=false:=beq_eq_false_iff_ne.2 (by omega)
   have t8:(op==8)=false:=beq_eq_false_iff_ne.2 (by omega)
   have t9:(op==9)=false:=beq_eq_false_iff_ne.2 (by omega)
   have t10:(op==10)=false:=beq_eq_false_iff_ne.2 (by omega)
   have t11:(op==11)=false:=beq_eq_false_iff_ne.2 (by omega)
   have t12:(op==12)=false:=beq_eq_false_iff_ne.2 (by omega)
   have t13:(op==13)=true:=beq_iff_eq.2 h
   have hfit:la=n:=by rw[h] at HOP;simp[shapeB,cnt] at HOP;omega
   have HE:Hid (∀k,k<n→fb ((fun k=>cexp (xa.getD k 0)) k)=fb (elem op C K xa xb xc k)):=fun k _=>by simp[elem,h]
   have HF:Hid _:=hfit
   have GA:Hid _:=ga
   have GB:Hid _:=gb
   have GC:Hid _:=gc
   clear HOP ga gb gc hfit h
   go_wp2_with fail
   have q0:=GA.out
   rw[HF.out] at q0
   rw[HF.out]
   refine(e1_exp _ n h1 hn q0).mono ?_
   clear q0
   intro e w2 hm
   obtain⟨zs,rfl,m1,m2,m3,m4,m5⟩:=hm
   have M1:Hid _:=m1
   have M2:Hid _:=m2
   have M3:Hid _:=m3
   have M4:Hid _:=m4
   have M5:Hid _:=m5
   clear m1 m2 m3 m4 m5
   go_wp2
   go_ret
   exact Made.kres ⟨zs,rfl,M1.out,M2.out,M3.out,M4.out,M5.out⟩ hW.out HE.out
  ·exfalso
   obtain⟨h1',h2',h3,h4,h5,h6,h7,h8,h9,h10,h11,h12,h13⟩:=h
   unfold shapeB at HOP
   rw[if_neg h9,if_neg h10,if_neg h11,if_neg h12,if_neg (by omega)] at HOP
   cases HOP
end Go.Proofs.YtgamjhpebmmjcaaGreatDoor
namespace Go.Proofs.YtgamjhpebmmjcaaGreatDoor
set_option maxRecDepth 100000
set_option maxHeartbeats 40000000
open Go.RowKit Flt
attribute [local go_sem] alloc_drewN setCell_drewN run_store_float
def kern (op len C:Int)(K:Nat)(xa xb xc:List Nat):List Nat:=
 if fitB op len C xa.length xb.length xc.length then (List.range len.toNat).map (elem op C K xa xb xc) else[]
theorem kern_same {op len C:Int}{K:Nat}{xa xb xc zs:List Nat}(h:fitB op len C xa.length xb.length xc.length=true)(hl:zs.length=len.toNat)
  (hq:∀k,k<len.toNat→fb (zs.getD k 0)=fb (elem op C K xa xb xc k)):same zs (kern op len C K xa xb xc):=by
 unfold kern
 rw[if_pos h]
 refine same_of (by simp[hl]) fun k hk=>?_
 rw[hq k (by omega)]
 congr 1
 simp[List.getD_eq_getElem?_getD,(by omega:k<len.toNat)]
def OR (w:World)(lo:Nat)(a:Option Addr)(n cap:Nat)(zs:List Nat):Prop:=
 (a=none∧n=0∧cap=0∧zs=[])∨∃g,a=some ⟨g,0,none⟩∧lo≤g∧FR w g zs∧zs.length=n∧(∀z∈zs,z<18446744073709551616)
theorem OR.fs {w:World}{lo:Nat}{a:Option Addr}{n cap:Nat}{zs:List Nat}(h:OR w lo a n cap zs):FS w lo w.heap.size a n zs:=by
 rcases h with⟨rfl,rfl,rfl,rfl⟩|⟨g,rfl,h1,h2,rfl,h4⟩
 ·exact⟨rfl,by simp,.inl rfl⟩
 ·exact h2.fs h4 h1 h2.lt
theorem implKernel' (w:World)(op len A B C:Int)(K:Nat)(hK:K<18446744073709551616){l0 h0' l1 h1' l2 h2':Nat}{a b c:Option Addr}{la lb lc ca cb cc:Nat}{xa xb xc:List Nat}
  (fa:FS w l0 h0' a la xa) (fb':FS w l1 h1' b lb xb) (fc:FS w l2 h2' c lc xc) (hca:la≤ca):
  Calls Tryz.prog 141 #[vagg op len A B C K,.slice a la ca,.slice b lb cb,.slice c lc cc] w fun e w'=>
   ∃(a':Option Addr) (n cap:Nat) (zs:List Nat),e=.returned (.slice a' n cap)∧OR w' w.heap.size a' n cap zs∧same zs (kern op len C K xa xb xc)∧Kept 0 0 w w'∧n≤cap:=by
 have e1:=fa.len
 have e2:=fb'.len
 have e3:=fc.len
 cases hf:fitB op len C la lb lc
 ·have hn:kern op len C K xa xb xc=[]:=by unfold kern;rw[e1,e2,e3,hf];rfl
  have key:∀(e:Ending) (w':World),(e=.returned (.slice none 0 0)∧Kept 0 0 w w')→∃(a':Option Addr) (n cap:Nat) (zs:List Nat),e=.returned (.slice a' n cap)∧OR w' w.heap.size a' n cap zs∧same zs (kern op len C K xa xb xc)∧Kept 0 0 w w'∧n≤cap:=
   fun e w' h=>⟨none,0,0,[],h.1,.inl ⟨rfl,rfl,rfl,rfl⟩,by rw[hn];rfl,h.2,Nat.le_refl _⟩
  cases hl:lenB len
  ·exact(implKernel_short w op len A B C K a b c la lb lc ca cb cc hl).mono fun e w' h=>key e w' h
  ·refine(implKernel_bad w op len A B C K a b c la lb lc ca cb cc hl ?_).mono fun e w' h=>key e w' h
   simpa[fitB,hl] using hf
 ·have hl:lenB len=true:=by have:=hf;simp only[fitB,Bool.and_eq_true] at this;exact this.1
  have hs:shapeB op len C (([(la:Int),(lb:Int),(lc:Int)]).take (cnt op))=true:=by have:=hf;simp only[fitB,Bool.and_eq_true] at this;exact this.2
  have hb:1≤len∧len≤1000:=by simpa[lenB] using hl
  obtain⟨n,rfl⟩:=Int.eq_ofNat_of_zero_le (by omega:0≤len)
  refine(implKernel_ok w op A B C n K (by omega) (by omega) hK fa fb' fc hca hs).mono fun e w' h=>?_
  obtain⟨G,zs,h1,h2,h3,h4,h5,h6,h7⟩:=h
  exact⟨_,n,n,zs,h1,.inr ⟨G,rfl,h2,h3,h5,h4⟩,kern_same (by rw[e1,e2,e3];exact hf) (by simpa using h5) (by simpa using h6),h7,Nat.le_refl _⟩
end Go.Proofs.YtgamjhpebmmjcaaGreatDoor
namespace Go.Proofs.YtgamjhpebmmjcaaGreatDoor
set_option maxRecDepth 100000
set_option maxHeartbeats 40000000
open Go.RowKit Flt
attribute [local go_sem] alloc_drewN setCell_drewN run_store_float
structure FO (w:World)(g n:Nat)(xs:List Nat):Prop where
 len:xs.length=n
 bnd:∀x∈xs,x<18446744073709551616
 lt:g<w.heap.size
 at_:∀k,k<n→w.cell? ⟨g,k,none⟩=some (.float .f64 (xs.getD k 0))
 free:∀o,w.frozen? ⟨g,o,none⟩=false
theorem FO.keep {w w':World}{g n l h:Nat}{xs:List Nat}(f:FO w g n xs)(k:Kept l h w w')(hd:g<l∨h≤g∨h≤l):FO w' g n xs:=
 ⟨f.len,f.bnd,Nat.lt_of_lt_of_le f.lt k.size,fun j hj=>by rw[k.cell (p:=⟨g,j,none⟩) f.lt (by show ¬(l≤g∧g<h);omega)];exact f.at_ j hj,fun o=>by rw[k.frozen (p:=⟨g,o,none⟩) f.lt (by show ¬(l≤g∧g<h);omega)];exact f.free o⟩
structure SS (w:World)(a:Option Addr)(n:Nat)(xss:List (List Nat)):Prop where
 len:xss.length=n
 at_:n=0∨∃g off,a=some ⟨g,off,none⟩∧g<w.heap.size∧∀k,k<n→∃b c,w.cell? ⟨g,off+k,none⟩=some (.slice b (xss.getD k []).length c)∧(xss.getD k []).length≤c∧FS w 0 w.heap.size b (xss.getD k []).length (xss.getD k [])
theorem FS.keep0 {w w':World}{a:Option Addr}{n:Nat}{xs:List Nat}(f:FS w 0 w.heap.size a n xs)(k:Kept 0 0 w w'):FS w' 0 w'.heap.size a n xs:=
 (f.keep k (.inr (.inr (Nat.le_refl _)))).mono (Nat.le_refl _) k.size
theorem SS.keep {w w':World}{a:Option Addr}{n:Nat}{xss:List (List Nat)}(f:SS w a n xss)(k:Kept 0 0 w w'):SS w' a n xss:=
 ⟨f.len,by
  rcases f.at_ with h0|⟨g,off,e,h1,h2⟩
  ·exact .inl h0
  ·refine .inr ⟨g,off,e,Nat.lt_of_lt_of_le h1 k.size,fun j hj=>?_⟩
   obtain⟨b,c,g1,g2,g3⟩:=h2 j hj
   exact⟨b,c,kcell k h1 g1,g2,g3.keep0 k⟩⟩
structure SP (w:World)(g n k:Nat)(gf cf:Nat→Nat)(xss:List (List Nat)):Prop where
 lt:g<w.heap.size
 free:∀o,w.frozen? ⟨g,o,none⟩=false
 cell:∀j,j<k→w.cell? ⟨g,j,none⟩=some (.slice (some ⟨gf j,0,none⟩) (xss.getD j []).length (cf j))
 rest:∀j,j<n→∃u,w.cell? ⟨g,j,none⟩=some u
 cap:∀j,j<k→(xss.getD j []).length≤cf j
 own:∀j,j<k→FO w (gf j) (xss.getD j []).length (xss.getD j [])
 up:∀j,j<k→g<gf j
 inc:∀i j,i<j→j<k→gf i<gf j
theorem SP.keep {w w':World}{g n k:Nat}{gf cf:Nat→Nat}{xss:List (List Nat)}(f:SP w g n k gf cf xss)(q:Kept 0 0 w w'):SP w' g n k gf cf xss:=
 ⟨Nat.lt_of_lt_of_le f.lt q.size,fun o=>by rw[q.frozen (p:=⟨g,o,none⟩) f.lt (by omega)];exact f.free o,fun j hj=>kcell q f.lt (f.cell j hj),fun j hj=>(f.rest j hj).imp fun _ h=>kcell q f.lt h,f.cap,fun j hj=>(f.own j hj).keep q (.inr (.inr (Nat.le_refl _))),f.up,f.inc⟩
def upd (f:Nat→Nat)(k x:Nat):Nat→Nat:=fun j=>if j=k then x else f j
theorem upd_same (f:Nat→Nat)(k x:Nat):upd f k x k=x:=if_pos rfl
theorem upd_other {f:Nat→Nat}{k x j:Nat}(h:j≠k):upd f k x j=f j:=if_neg h
theorem SP.step {w w':World}{g n k:Nat}{gf cf:Nat→Nat}{xss:List (List Nat)}(f:SP w g n k gf cf xss)(hk:k<n)(q:Kept 0 0 w w'){G c:Nat}
  (ho:FO w' G (xss.getD k []).length (xss.getD k [])) (hG:w.heap.size≤G) (hc:(xss.getD k []).length≤c):
  SP (w'.setCell ⟨g,k,none⟩ (.slice (some ⟨G,0,none⟩) (xss.getD k []).length c)) g n (k+1) (upd gf k G) (upd cf k c) xss:=by
 have f':=f.keep q
 have hgl:=f.lt
 have pk:∀v,Kept g (g+1) w' (w'.setCell ⟨g,k,none⟩ v):=fun v=>kept_setCell w' ⟨g,k,none⟩ v (.inl ⟨Nat.le_refl _,Nat.lt_succ_self _⟩)
 obtain⟨u,hu⟩:=f'.rest k hk
 refine⟨by simpa using f'.lt,fun o=>by simp[f'.free o],fun j hj=>?_,fun j hj=>?_,fun j hj=>?_,fun j hj=>?_,fun j hj=>?_,fun i j hij hj=>?_⟩
 ·by_cases e:j=k
  ·subst e
   rw[upd_same,upd_same]
   exact cell_eq _ _ _ _ _ hu
  ·rw[upd_other e,upd_other e,cell_ne _ _ _ _ _ _ (.inr (Ne.symm e))]
   exact f'.cell j (by omega)
 ·by_cases e:j=k
  ·subst e;exact⟨_,cell_eq _ _ _ _ _ hu⟩
  ·rw[cell_ne _ _ _ _ _ _ (.inr (Ne.symm e))]
   exact f'.rest j hj
 ·by_cases e:j=k
  ·subst e;rw[upd_same];exact hc
  ·rw[upd_other e];exact f.cap j (by omega)
 ·by_cases e:j=k
  ·subst e;rw[upd_same];exact ho.keep (pk _) (by omega)
  ·rw[upd_other e];exact(f'.own j (by omega)).keep (pk _) (by have:=f.up j (by omega);omega)
 ·by_cases e:j=k
  ·subst e;rw[upd_same];omega
  ·rw[upd_other e];exact f.up j (by omega)
 ·by_cases e:j=k
  ·subst e
   rw[upd_same,upd_other (by omega)]
   have:=(f.own i (by omega)).lt
   omega
  ·rw[upd_other e,upd_other (by omega)]
   exact f.inc i j hij (by omega)
theorem infoS:(Tryz.prog.info? 33).map (fun i=>(i.zero,i.size,i.bytes))=some (some (.slice none 0 0),1,24):=by kernel_rfl
theorem make_s (n:Nat)(w:World)(hn:n≤1099511627776):
  (Instr.makeSlice 28 (.int .i64 (n:Int)) (.int .i64 (n:Int))).run Tryz.prog w=.ok (.slice (some ⟨w.heap.size,0,none⟩) n n) (w.alloc (.cells (madeCells #[.slice none 0 0] n) 33)):=by
 obtain⟨i,hi,hz0,hz1,hz2⟩:=info_parts infoS
 have:=run_make (P:=Tryz.prog) w 28 33 i (.slice none 0 0) Tryz.underlying28 hi hz0 .i64 .i64 n n (by omega) (by omega) (by rw[hz2];omega) (by omega)
 rw[hz1,Nat.mul_one,Int.toNat_natCast] at this
 exact this
theorem SP.made (w:World)(n:Nat)(gf cf:Nat→Nat)(xss:List (List Nat)):SP (w.alloc (.cells (madeCells #[.slice none 0 0] n) 33)) w.heap.size n 0 gf cf xss where
 lt:=by simp
 free:=fun o=>by simp
 cell:=fun j hj=>absurd hj (Nat.not_lt_zero _)
 rest:=fun j hj=>by
  rw[World.cell?_alloc_new]
  refine⟨.slice none 0 0,?_⟩
  simp only[madeCells]
  rw[Array.getElem?_map,Array.getElem?_range,if_pos hj]
  have hm:j%1=0:=Nat.mod_one j
  simp[hm]
 cap:=fun j hj=>absurd hj (Nat.not_lt_zero _)
 own:=fun j hj=>absurd hj (Nat.not_lt_zero _)
 up:=fun j hj=>absurd hj (Nat.not_lt_zero _)
 inc:=fun i j _ hj=>absurd hj (Nat.not_lt_zero _)
end Go.Proofs.YtgamjhpebmmjcaaGreatDoor
