import Derived.Test.YtnlffngpnoodkaaGreatP25
namespace Go.Proofs.YtnlffngpnoodkaaGreat
set_option maxRecDepth 1000000
set_option maxHeartbeats 0
open Go.RowKit Flt
attribute [local go_sem] ic ib ia
variable {l0 h0' g n c0 k l1 h1' l2 h2' c1 la lb lc ca cb cc:Nat} {w w':World} {a0 a a1 b c:Option Addr} {xs zs ys xa xb xc:List Nat} {gf cf:Nat->Nat} {xss:List (List Nat)}
theorem AO (w:World)(n:Nat)(h1:1<=n)(hn:n<=1000)(f0:FS w l0 h0' a0 n xs)(f1:FS w l1 h1' a1 n ys):
  Calls Tryz.prog 94 #[.slice a0 n c0,.slice a1 n c1,.func (.func 95) #[] #[]] w λe w'=>Made n (λk=>cop .add (xs.getD k 0) (ys.getD k 0)) w e w':=by
 rcases f0.at_ with h|⟨g0,o0,rfl,_,_,b0,k0⟩
 ·omega
 rcases f1.at_ with h|⟨g1,o1,rfl,_,_,b1,k1⟩
 ·omega
 exact wu _ vG w n hn g0 o0 c0 xs b0 f0.lt k0 g1 o1 c1 ys b1 f1.lt k1
theorem ym (w:World)(n:Nat)(h1:1<=n)(hn:n<=1000)(f0:FS w l0 h0' a0 n xs)(f1:FS w l1 h1' a1 n ys):
  Calls Tryz.prog 94 #[.slice a0 n c0,.slice a1 n c1,.func (.func 96) #[] #[]] w λe w'=>Made n (λk=>cop .sub (xs.getD k 0) (ys.getD k 0)) w e w':=by
 rcases f0.at_ with h|⟨g0,o0,rfl,_,_,b0,k0⟩
 ·omega
 rcases f1.at_ with h|⟨g1,o1,rfl,_,_,b1,k1⟩
 ·omega
 exact uJ _ xJ w n hn g0 o0 c0 xs b0 f0.lt k0 g1 o1 c1 ys b1 f1.lt k1
theorem yn (w:World)(n:Nat)(h1:1<=n)(hn:n<=1000)(f0:FS w l0 h0' a0 n xs)(f1:FS w l1 h1' a1 n ys):
  Calls Tryz.prog 94 #[.slice a0 n c0,.slice a1 n c1,.func (.func 97) #[] #[]] w λe w'=>Made n (λk=>cop .mul (xs.getD k 0) (ys.getD k 0)) w e w':=by
 rcases f0.at_ with h|⟨g0,o0,rfl,_,_,b0,k0⟩
 ·omega
 rcases f1.at_ with h|⟨g1,o1,rfl,_,_,b1,k1⟩
 ·omega
 exact uK _ xI w n hn g0 o0 c0 xs b0 f0.lt k0 g1 o1 c1 ys b1 f1.lt k1
theorem AP (w:World)(n:Nat)(h1:1<=n)(hn:n<=1000)(f0:FS w l0 h0' a0 n xs)(f1:FS w l1 h1' a1 n ys):
  Calls Tryz.prog 94 #[.slice a0 n c0,.slice a1 n c1,.func (.func 98) #[] #[]] w λe w'=>Made n (λk=>cop .quo (xs.getD k 0) (ys.getD k 0)) w e w':=by
 rcases f0.at_ with h|⟨g0,o0,rfl,_,_,b0,k0⟩
 ·omega
 rcases f1.at_ with h|⟨g1,o1,rfl,_,_,b1,k1⟩
 ·omega
 exact wv _ z9 w n hn g0 o0 c0 xs b0 f0.lt k0 g1 o1 c1 ys b1 f1.lt k1
theorem uY (w:World)(n:Nat)(h1:1<=n)(hn:n<=1000)(f0:FS w l0 h0' a0 n xs)(f1:FS w l1 h1' a1 n ys):
  Calls Tryz.prog 94 #[.slice a0 n c0,.slice a1 n c1,.func (.func 101) #[] #[]] w λe w'=>Made n (λk=>jZ (xs.getD k 0) (ys.getD k 0)) w e w':=by
 rcases f0.at_ with h|⟨g0,o0,rfl,_,_,b0,k0⟩
 ·omega
 rcases f1.at_ with h|⟨g1,o1,rfl,_,_,b1,k1⟩
 ·omega
 exact se _ uM w n hn g0 o0 c0 xs b0 f0.lt k0 g1 o1 c1 ys b1 f1.lt k1
theorem uZ (w:World)(n:Nat)(h1:1<=n)(hn:n<=1000)(f0:FS w l0 h0' a0 n xs):
  Calls Tryz.prog 99 #[.slice a0 n c0,.func (.func 100) #[] #[]] w λe w'=>Made n (λk=>Op.negFloat .f64 (xs.getD k 0)) w e w':=by
 rcases f0.at_ with h|⟨g0,o0,rfl,_,_,b0,k0⟩
 ·omega
 exact sf _ uN w n hn g0 o0 c0 xs b0 f0.lt k0
theorem Df (w:World)(n:Nat)(h1:1<=n)(hn:n<=1000)(f0:FS w l0 h0' a0 n xs):
  Calls Tryz.prog 99 #[.slice a0 n c0,.func (.func 106) #[] #[]] w λe w'=>Made n (λk=>oC (xs.getD k 0)) w e w':=by
 rcases f0.at_ with h|⟨g0,o0,rfl,_,_,b0,k0⟩
 ·omega
 exact xH _ Cm w n hn g0 o0 c0 xs b0 f0.lt k0
theorem wM (w:World)(n:Nat)(h1:1<=n)(hn:n<=1000)(f0:FS w l0 h0' a0 n xs)(f1:FS w l1 h1' a1 n ys){a2:Option Addr}{c2:Nat}{us:List Nat}(f2:FS w l2 h2' a2 n us):
  Calls Tryz.prog 102 #[.slice a0 n c0,.slice a1 n c1,.slice a2 n c2,.func (.func 103) #[] #[]] w λe w'=>Made n (λk=>jz (xs.getD k 0) (ys.getD k 0) (us.getD k 0)) w e w':=by
 rcases f0.at_ with h|⟨g0,o0,rfl,_,_,b0,k0⟩
 ·omega
 rcases f1.at_ with h|⟨g1,o1,rfl,_,_,b1,k1⟩
 ·omega
 rcases f2.at_ with h|⟨g2,o2,rfl,_,_,b2,k2⟩
 ·omega
 exact tN w n hn g0 o0 c0 xs b0 f0.lt k0 g1 o1 c1 ys b1 f1.lt k1 g2 o2 c2 us b2 f2.lt k2
theorem Dg (w:World)(n:Nat)(h1:1<=n)(hn:n<=1000)(f0:FS w l0 h0' a0 n xs)(hc:n<=c0):
  Calls Tryz.prog 104 #[.slice a0 n c0,.func (.func 95) #[] #[]] w λe w'=>∃z,e=.returned (.float .f64 z)/\z<18446744073709551616/\fb z=fb (kP xs)/\Drawn w w':=by
 rcases f0.at_ with h|⟨g,o,rfl,_,_,b,k⟩
 ·omega
 exact FF w n hn h1 g o c0 xs f0.len hc f0.lt k
theorem Made.kres {q q':Nat->Nat}{wc:World}{e:Ending}(h:Made n q wc e w')(hk:Kept 0 0 w wc)(hq:∀k,k<n->fb (q k)=fb (q' k)):EI n q' w e w':=by
 obtain⟨zs,h1,h2,h3,h4,h5,h6⟩:=h
 exact⟨_,zs,h1,hk.size,h2,h3,h4,λk hk'=>(h5 k hk').trans (hq k hk'),hk.trans h6⟩
theorem qV (w:World)(op A B C:Int)(n K:Nat)(h1:1<=n)(hn:n<=1000)(hK:K<18446744073709551616)
  (fa:FS w l0 h0' a la xa) (fb':FS w l1 h1' b lb xb) (fc:FS w l2 h2' c lc xc) (hca:la<=ca)
  (hs:im op (n:Int) C (([(la:Int),(lb:Int),(lc:Int)]).take (cnt op))=true):
  Calls Tryz.prog 68 #[jA op (n:Int) A B C K,.slice a la ca,.slice b lb cb,.slice c lc cc] w λe w'=>EI n (iF op C K xa xb xc) w e w':=by
 have HS:Hid (im op (n:Int) C (([(la:Int),(lb:Int),(lc:Int)]).take (cnt op))=true):=hs
 have hL:Hid (∀w,Calls Tryz.prog 56 #[.int .i64 (n:Int)] w λe w'=>e=.returned (.bool true)/\w'=w):=λw=>by
  have:=je (n:Int) w
  rw[nK (by omega) (by omega)] at this
  exact this
 have hI:=sn (w.alloc (ij op (n:Int) A B C K)) la lb lc
 have hI2:=hI.prefix (cnt op) (jo op)
 have hcnt:=jo op
 have hC:Hid (∀w,Calls Tryz.prog 92 #[.int .i64 op] w λe w'=>e=.returned (.int .i64 (cnt op:Nat))/\w'=w):=pF op
 have hS:Hid (∀m,Calls Tryz.prog 79 #[jA op (n:Int) A B C K,.slice (some ⟨w.heap.size+1,0,none⟩) (cnt op) 3] (((w.alloc (ij op (n:Int) A B C K)).alloc (.cells #[.int .i64 la,.int .i64 lb,.int .i64 lc] 3)).drewN m)
   λe w'=>e=.returned (.bool true)/\Kept 0 0 (((w.alloc (ij op (n:Int) A B C K)).alloc (.cells #[.int .i64 la,.int .i64 lb,.int .i64 lc] 3)).drewN m) w'):=λm=>by
  have h:=oX _ op (n:Int) A B C K _ _ _ _ 3 _ (hI2.keep (iq 0 0 _ m) (.inr (.inr (Nat.le_refl _)))) rfl
  rw[hs] at h
  have e:(w.alloc (ij op (n:Int) A B C K)).heap.size=w.heap.size+1:=by simp
  rw[e] at h
  exact h
 clear hI hI2 hs
 generalize cnt op=q at hC hS hcnt
 go_enter Tryz.func68,Tryz.ntmps68
 go_upto_region 2 with fail
 go_cut [30] (λr wx=>r=.bool (!true)/\Kept 0 0 ((w.alloc (ij op (n:Int) A B C K)).alloc (.cells #[.int .i64 la,.int .i64 lb,.int .i64 lc] 3)) wx)
 case first=>
  go_region_with (first|(go_at_call 56;refine(hL.out _).mono ?_;rintro e w2 ⟨rfl,rfl⟩)|(go_at_call 92;refine(hC.out _).mono ?_;rintro e w2 ⟨rfl,rfl⟩)|(go_at_call 79;refine(hS.out 1).mono ?_;rintro e w2 ⟨rfl,hk⟩))
  all_goals
   go_wp2_with fail
   go_meet
   exact⟨rfl,(iq 0 0 _ 1).trans hk⟩
 case rest=>
  obtain⟨rfl,hcut2⟩:=hcut
  clear hL hC hS hcnt
  have hW:Hid _:=((hU 0 0 w (ij op (n:Int) A B C K)).trans (hU 0 0 _ (.cells #[.int .i64 la,.int .i64 lb,.int .i64 lc] 3))).trans hcut2
  have sz:w.heap.size<((w.alloc (ij op (n:Int) A B C K)).alloc (.cells #[.int .i64 la,.int .i64 lb,.int .i64 lc] 3)).heap.size:=by simp;omega
  have bx:∀i,wc.cell? ⟨w.heap.size,i,none⟩=((w.alloc (ij op (n:Int) A B C K)).alloc (.cells #[.int .i64 la,.int .i64 lb,.int .i64 lc] 3)).cell? ⟨w.heap.size,i,none⟩:=λi=>hcut2.cell (p:=⟨w.heap.size,i,none⟩) sz (by omega)
  have b0:wc.cell? ⟨w.heap.size,0,none⟩=some (.int .i64 op):=by rw[bx];simp
  have b1:wc.cell? ⟨w.heap.size,1,none⟩=some (.int .i64 (n:Int)):=by rw[bx];simp
  have b4:wc.cell? ⟨w.heap.size,4,none⟩=some (.int .i64 C):=by rw[bx];simp
  have b5:wc.cell? ⟨w.heap.size,5,none⟩=some (.float .f64 K):=by rw[bx];simp
  have ga:=fa.keep hW.out (.inr (.inr (Nat.le_refl _)))
  have gb:=fb'.keep hW.out (.inr (.inr (Nat.le_refl _)))
  have gc:=fc.keep hW.out (.inr (.inr (Nat.le_refl _)))
  clear fa fb' fc bx sz hcut2
  have HOP:=HS.out
  clear HS
  rcases oD op with h|h|h|h|h|h|h|h|h|h|h|h|h|h
  ·
   have t1:(op==1)=true:=beq_iff_eq.2 h
   clear HOP ga gb gc
   have HE:Hid (∀k,k<n->fb ((λ_=>K) k)=fb (iF op C K xa xb xc k)):=λk _=>by simp[iF,h]
   clear h
   go_wp2_with fail
   refine(sj _ K n hK hn).mono ?_
   intro e w2 hm
   obtain⟨zs,rfl,m1,m2,m3,m4,m5⟩:=hm
   have M1:Hid _:=m1
   have M2:Hid _:=m2
   have M3:Hid _:=m3
   have M4:Hid _:=m4
   have M5:Hid _:=m5
   clear m1 m2 m3 m4 m5
   go_wp2
   go_ret
   exact Made.kres ⟨zs,rfl,M1.out,M2.out,M3.out,M4.out,M5.out⟩ hW.out HE.out
  ·
   have t1:(op==1)=false:=beq_eq_false_iff_ne.2 (by omega)
   have t2:(op==2)=true:=beq_iff_eq.2 h
   have hfit:la=n/\lb=n:=by rw[h] at HOP;simp[im,cnt] at HOP;omega
   have HE:Hid (∀k,k<n->fb ((λk=>cop .add (xa.getD k 0) (xb.getD k 0)) k)=fb (iF op C K xa xb xc k)):=λk _=>by simp[iF,h]
   have HF:Hid _:=hfit
   have GA:Hid _:=ga
   have GB:Hid _:=gb
   have GC:Hid _:=gc
   clear HOP ga gb gc hfit h
   go_wp2_with fail
   have q0:=GA.out
   rw[HF.out.1] at q0
   have q1:=GB.out
   rw[HF.out.2] at q1
   rw[HF.out.1,HF.out.2]
   refine(AO _ n h1 hn q0 q1).mono ?_
   clear q0 q1
   intro e w2 hm
   obtain⟨zs,rfl,m1,m2,m3,m4,m5⟩:=hm
   have M1:Hid _:=m1
   have M2:Hid _:=m2
   have M3:Hid _:=m3
   have M4:Hid _:=m4
   have M5:Hid _:=m5
   clear m1 m2 m3 m4 m5
   go_wp2
   go_ret
   exact Made.kres ⟨zs,rfl,M1.out,M2.out,M3.out,M4.out,M5.out⟩ hW.out HE.out
  ·
   have t1:(op==1)=false:=beq_eq_false_iff_ne.2 (by omega)
   have t2:(op==2)=false:=beq_eq_false_iff_ne.2 (by omega)
   have t3:(op==3)=true:=beq_iff_eq.2 h
   have hfit:la=n/\lb=n:=by rw[h] at HOP;simp[im,cnt] at HOP;omega
   have HE:Hid (∀k,k<n->fb ((λk=>cop .sub (xa.getD k 0) (xb.getD k 0)) k)=fb (iF op C K xa xb xc k)):=λk _=>by simp[iF,h]
   have HF:Hid _:=hfit
   have GA:Hid _:=ga
   have GB:Hid _:=gb
   have GC:Hid _:=gc
   clear HOP ga gb gc hfit h
   go_wp2_with fail
   have q0:=GA.out
   rw[HF.out.1] at q0
   have q1:=GB.out
   rw[HF.out.2] at q1
   rw[HF.out.1,HF.out.2]
   refine(ym _ n h1 hn q0 q1).mono ?_
   clear q0 q1
   intro e w2 hm
   obtain⟨zs,rfl,m1,m2,m3,m4,m5⟩:=hm
   have M1:Hid _:=m1
   have M2:Hid _:=m2
   have M3:Hid _:=m3
   have M4:Hid _:=m4
   have M5:Hid _:=m5
   clear m1 m2 m3 m4 m5
   go_wp2
   go_ret
   exact Made.kres ⟨zs,rfl,M1.out,M2.out,M3.out,M4.out,M5.out⟩ hW.out HE.out
  ·
   have t1:(op==1)=false:=beq_eq_false_iff_ne.2 (by omega)
   have t2:(op==2)=false:=beq_eq_false_iff_ne.2 (by omega)
   have t3:(op==3)=false:=beq_eq_false_iff_ne.2 (by omega)
   have t4:(op==4)=true:=beq_iff_eq.2 h
   have hfit:la=n/\lb=n:=by rw[h] at HOP;simp[im,cnt] at HOP;omega
   have HE:Hid (∀k,k<n->fb ((λk=>cop .mul (xa.getD k 0) (xb.getD k 0)) k)=fb (iF op C K xa xb xc k)):=λk _=>by simp[iF,h]
   have HF:Hid _:=hfit
   have GA:Hid _:=ga
   have GB:Hid _:=gb
   have GC:Hid _:=gc
   clear HOP ga gb gc hfit h
   go_wp2_with fail
   have q0:=GA.out
   rw[HF.out.1] at q0
   have q1:=GB.out
   rw[HF.out.2] at q1
   rw[HF.out.1,HF.out.2]
   refine(yn _ n h1 hn q0 q1).mono ?_
   clear q0 q1
   intro e w2 hm
   obtain⟨zs,rfl,m1,m2,m3,m4,m5⟩:=hm
   have M1:Hid _:=m1
   have M2:Hid _:=m2
   have M3:Hid _:=m3
   have M4:Hid _:=m4
   have M5:Hid _:=m5
   clear m1 m2 m3 m4 m5
   go_wp2
   go_ret
   exact Made.kres ⟨zs,rfl,M1.out,M2.out,M3.out,M4.out,M5.out⟩ hW.out HE.out
  ·
   have t1:(op==1)=false:=beq_eq_false_iff_ne.2 (by omega)
   have t2:(op==2)=false:=beq_eq_false_iff_ne.2 (by omega)
   have t3:(op==3)=false:=beq_eq_false_iff_ne.2 (by omega)
   have t4:(op==4)=false:=beq_eq_false_iff_ne.2 (by omega)
   have t5:(op==5)=true:=beq_iff_eq.2 h
   have hfit:la=n/\lb=n:=by rw[h] at HOP;simp[im,cnt] at HOP;omega
   have HE:Hid (∀k,k<n->fb ((λk=>cop .quo (xa.getD k 0) (xb.getD k 0)) k)=fb (iF op C K xa xb xc k)):=λk _=>by simp[iF,h]
   have HF:Hid _:=hfit
   have GA:Hid _:=ga
   have GB:Hid _:=gb
   have GC:Hid _:=gc
   clear HOP ga gb gc hfit h
   go_wp2_with fail
   have q0:=GA.out
   rw[HF.out.1] at q0
   have q1:=GB.out
   rw[HF.out.2] at q1
   rw[HF.out.1,HF.out.2]
   refine(AP _ n h1 hn q0 q1).mono ?_
   clear q0 q1
   intro e w2 hm
   obtain⟨zs,rfl,m1,m2,m3,m4,m5⟩:=hm
   have M1:Hid _:=m1
   have M2:Hid _:=m2
   have M3:Hid _:=m3
   have M4:Hid _:=m4
   have M5:Hid _:=m5
   clear m1 m2 m3 m4 m5
   go_wp2
   go_ret
   exact Made.kres ⟨zs,rfl,M1.out,M2.out,M3.out,M4.out,M5.out⟩ hW.out HE.out
  ·
   have t1:(op==1)=false:=beq_eq_false_iff_ne.2 (by omega)
   have t2:(op==2)=false:=beq_eq_false_iff_ne.2 (by omega)
   have t3:(op==3)=false:=beq_eq_false_iff_ne.2 (by omega)
   have t4:(op==4)=false:=beq_eq_false_iff_ne.2 (by omega)
   have t5:(op==5)=false:=beq_eq_false_iff_ne.2 (by omega)
   have t6:(op==6)=true:=beq_iff_eq.2 h
   have hfit:la=n:=by rw[h] at HOP;simp[im,cnt] at HOP;omega
   have HE:Hid (∀k,k<n->fb ((λk=>Op.negFloat .f64 (xa.getD k 0)) k)=fb (iF op C K xa xb xc k)):=λk _=>by simp[iF,h]
   have HF:Hid _:=hfit
   have GA:Hid _:=ga
   have GB:Hid _:=gb
   have GC:Hid _:=gc
   clear HOP ga gb gc hfit h
   go_wp2_with fail
   have q0:=GA.out
   rw[HF.out] at q0
   rw[HF.out]
   refine(uZ _ n h1 hn q0).mono ?_
   clear q0
   intro e w2 hm
   obtain⟨zs,rfl,m1,m2,m3,m4,m5⟩:=hm
   have M1:Hid _:=m1
   have M2:Hid _:=m2
   have M3:Hid _:=m3
   have M4:Hid _:=m4
   have M5:Hid _:=m5
   clear m1 m2 m3 m4 m5
   go_wp2
   go_ret
   exact Made.kres ⟨zs,rfl,M1.out,M2.out,M3.out,M4.out,M5.out⟩ hW.out HE.out
  ·
   have t1:(op==1)=false:=beq_eq_false_iff_ne.2 (by omega)
   have t2:(op==2)=false:=beq_eq_false_iff_ne.2 (by omega)
   have t3:(op==3)=false:=beq_eq_false_iff_ne.2 (by omega)
   have t4:(op==4)=false:=beq_eq_false_iff_ne.2 (by omega)
   have t5:(op==5)=false:=beq_eq_false_iff_ne.2 (by omega)
   have t6:(op==6)=false:=beq_eq_false_iff_ne.2 (by omega)
   have t7:(op==7)=true:=beq_iff_eq.2 h
   have hfit:la=n/\lb=n:=by rw[h] at HOP;simp[im,cnt] at HOP;omega
   have HE:Hid (∀k,k<n->fb ((λk=>jZ (xa.getD k 0) (xb.getD k 0)) k)=fb (iF op C K xa xb xc k)):=λk _=>by simp[iF,h]
   have HF:Hid _:=hfit
   have GA:Hid _:=ga
   have GB:Hid _:=gb
   have GC:Hid _:=gc
   clear HOP ga gb gc hfit h
   go_wp2_with fail
   have q0:=GA.out
   rw[HF.out.1] at q0
   have q1:=GB.out
   rw[HF.out.2] at q1
   rw[HF.out.1,HF.out.2]
   refine(uY _ n h1 hn q0 q1).mono ?_
   clear q0 q1
   intro e w2 hm
   obtain⟨zs,rfl,m1,m2,m3,m4,m5⟩:=hm
   have M1:Hid _:=m1
   have M2:Hid _:=m2
   have M3:Hid _:=m3
   have M4:Hid _:=m4
   have M5:Hid _:=m5
   clear m1 m2 m3 m4 m5
   go_wp2
   go_ret
   exact Made.kres ⟨zs,rfl,M1.out,M2.out,M3.out,M4.out,M5.out⟩ hW.out HE.out
  ·
   have t1:(op==1)=false:=beq_eq_false_iff_ne.2 (by omega)
   have t2:(op==2)=false:=beq_eq_false_iff_ne.2 (by omega)
   have t3:(op==3)=false:=beq_eq_false_iff_ne.2 (by omega)
   have t4:(op==4)=false:=beq_eq_false_iff_ne.2 (by omega)
   have t5:(op==5)=false:=beq_eq_false_iff_ne.2 (by omega)
   have t6:(op==6)=false:=beq_eq_false_iff_ne.2 (by omega)
   have t7:(op==7)=false:=beq_eq_false_iff_ne.2 (by omega)
   have t8:(op==8)=true:=beq_iff_eq.2 h
   have hfit:la=n/\lb=n/\lc=n:=by rw[h] at HOP;simp[im,cnt] at HOP;omega
   have HE:Hid (∀k,k<n->fb ((λk=>jz (xa.getD k 0) (xb.getD k 0) (xc.getD k 0)) k)=fb (iF op C K xa xb xc k)):=λk _=>by simp[iF,h]
   have HF:Hid _:=hfit
   have GA:Hid _:=ga
   have GB:Hid _:=gb
   have GC:Hid _:=gc
   clear HOP ga gb gc hfit h
   go_wp2_with fail
   have q0:=GA.out
   rw[HF.out.1] at q0
   have q1:=GB.out
   rw[HF.out.2.1] at q1
   have q2:=GC.out
   rw[HF.out.2.2] at q2
   rw[HF.out.1,HF.out.2.1,HF.out.2.2]
   refine(wM _ n h1 hn q0 q1 q2).mono ?_
   clear q0 q1 q2
   intro e w2 hm
   obtain⟨zs,rfl,m1,m2,m3,m4,m5⟩:=hm
   have M1:Hid _:=m1
   have M2:Hid _:=m2
   have M3:Hid _:=m3
   have M4:Hid _:=m4
   have M5:Hid _:=m5
   clear m1 m2 m3 m4 m5
   go_wp2
   go_ret
   exact Made.kres ⟨zs,rfl,M1.out,M2.out,M3.out,M4.out,M5.out⟩ hW.out HE.out
  ·
   have t1:(op==1)=false:=beq_eq_false_iff_ne.2 (by omega)
   have t2:(op==2)=false:=beq_eq_false_iff_ne.2 (by omega)
   have t3:(op==3)=false:=beq_eq_false_iff_ne.2 (by omega)
   have t4:(op==4)=false:=beq_eq_false_iff_ne.2 (by omega)
   have t5:(op==5)=false:=beq_eq_false_iff_ne.2 (by omega)
   have t6:(op==6)=false:=beq_eq_false_iff_ne.2 (by omega)
   have t7:(op==7)=false:=beq_eq_false_iff_ne.2 (by omega)
   have t8:(op==8)=false:=beq_eq_false_iff_ne.2 (by omega)
   have t9:(op==9)=true:=beq_iff_eq.2 h
   have hfit:n=1/\1<=la/\la<=1000:=by rw[h] at HOP;simp[im,cnt,iJ] at HOP;omega
   have HE:Hid (∀z,fb z=fb (kP xa)->∀k,k<n->fb ((λ_=>z) k)=fb (iF op C K xa xb xc k)):=λz hz k _=>by simp[iF,h,hz]
   have HF:Hid _:=hfit
   have GA:Hid _:=ga
   clear HOP ga gb gc hfit h
   go_wp2_with fail
   refine(Dg _ la HF.out.2.1 HF.out.2.2 GA.out hca).mono ?_
   rintro e w2 ⟨z,rfl,hz,hsum,hD⟩
   have HZ:Hid (fb z=fb (kP xa)):=hsum
   clear hsum
   go_wp2_with fail
   refine(sj _ z 1 hz (by omega)).mono ?_
   intro e w3 hm
   obtain⟨zs,rfl,m1,m2,m3,m4,m5⟩:=hm
   have M1:Hid _:=m1
   have M2:Hid _:=m2
   have M3:Hid _:=m3
   have M4:Hid _:=m4
   have M5:Hid _:=m5
   clear m1 m2 m3 m4 m5
   go_wp2
   go_ret
   rw[HF.out.1]
   have hE:=HE.out z HZ.out
   rw[HF.out.1] at hE
   exact Made.kres ⟨zs,rfl,M1.out,M2.out,M3.out,M4.out,M5.out⟩ (hW.out.trans (hD.kept 0 0)) hE
  ·
   have t1:(op==1)=false:=beq_eq_false_iff_ne.2 (by omega)
   have t2:(op==2)=false:=beq_eq_false_iff_ne.2 (by omega)
   have t3:(op==3)=false:=beq_eq_false_iff_ne.2 (by omega)
   have t4:(op==4)=false:=beq_eq_false_iff_ne.2 (by omega)
   have t5:(op==5)=false:=beq_eq_false_iff_ne.2 (by omega)
   have t6:(op==6)=false:=beq_eq_false_iff_ne.2 (by omega)
   have t7:(op==7)=false:=beq_eq_false_iff_ne.2 (by omega)
   have t8:(op==8)=false:=beq_eq_false_iff_ne.2 (by omega)
   have t9:(op==9)=false:=beq_eq_false_iff_ne.2 (by omega)
   have t10:(op==10)=true:=beq_iff_eq.2 h
   have hfit:la=1:=by rw[h] at HOP;simp[im,cnt] at HOP;omega
   have HE:Hid (∀k,k<n->fb ((λ_=>xa.getD 0 0) k)=fb (iF op C K xa xb xc k)):=λk _=>by simp[iF,h]
   have hx:=iE ga.lt 0
   rcases ga.at_ with hz|⟨g,o,rfl,_,_,hg,kc⟩
   ·omega
   have k0:=kc 0 (by omega)
   rw[Nat.add_zero] at k0
   have hla:(0:Int)<(la:Int):=by omega
   clear HOP ga gb gc hfit h kc hg
   generalize xa.getD 0 0=x at hx HE k0
   go_wp2_with fail
   go_region_with (go_at_call 93;refine(sj _ x n hx hn).mono ?_;intro e w2 hm;obtain⟨zs,rfl,m1,m2,m3,m4,m5⟩:=hm;have M1:Hid _:=m1;have M2:Hid _:=m2;have M3:Hid _:=m3;have M4:Hid _:=m4;have M5:Hid _:=m5;clear m1 m2 m3 m4 m5)
   all_goals
    go_wp2
    go_ret
    exact Made.kres (wc:=wc.drew) ⟨zs,rfl,M1.out,M2.out,M3.out,M4.out,M5.out⟩ (hW.out.trans (iq 0 0 _ 1)) HE.out
  ·
   have t1:(op==1)=false:=beq_eq_false_iff_ne.2 (by omega)
   have t2:(op==2)=false:=beq_eq_false_iff_ne.2 (by omega)
   have t3:(op==3)=false:=beq_eq_false_iff_ne.2 (by omega)
   have t4:(op==4)=false:=beq_eq_false_iff_ne.2 (by omega)
   have t5:(op==5)=false:=beq_eq_false_iff_ne.2 (by omega)
   have t6:(op==6)=false:=beq_eq_false_iff_ne.2 (by omega)
   have t7:(op==7)=false:=beq_eq_false_iff_ne.2 (by omega)
   have t8:(op==8)=false:=beq_eq_false_iff_ne.2 (by omega)
   have t9:(op==9)=false:=beq_eq_false_iff_ne.2 (by omega)
   have t10:(op==10)=false:=beq_eq_false_iff_ne.2 (by omega)
   have t11:(op==11)=true:=beq_iff_eq.2 h
   have hfit:n=1/\1<=la/\la<=1000/\0<=C/\C<(la:Int):=by rw[h] at HOP;simp[im,cnt,iJ,iL] at HOP;omega
   obtain⟨p,hp⟩:=Int.eq_ofNat_of_zero_le hfit.2.2.2.1
   have HE:Hid (∀k,k<n->fb ((λ_=>xa.getD p 0) k)=fb (iF op C K xa xb xc k)):=λk _=>by simp[iF,h,hp]
   have hx:=iE ga.lt p
   rcases ga.at_ with hz|⟨g,o,rfl,_,_,hg,kc⟩
   ·omega
   have k0:=kc p (by omega)
   have hpl:(p:Int)<(la:Int):=by omega
   have HF:Hid _:=hfit
   rw[hp] at b4
   clear HOP ga gb gc hfit h kc hg hp
   generalize xa.getD p 0=x at hx HE k0
   go_wp2_with fail
   refine(sj _ x 1 hx (by omega)).mono ?_
   intro e w2 hm
   obtain⟨zs,rfl,m1,m2,m3,m4,m5⟩:=hm
   have M1:Hid _:=m1
   have M2:Hid _:=m2
   have M3:Hid _:=m3
   have M4:Hid _:=m4
   have M5:Hid _:=m5
   clear m1 m2 m3 m4 m5
   go_wp2
   go_ret
   rw[HF.out.1]
   have hE:=HE.out
   rw[HF.out.1] at hE
   exact Made.kres ⟨zs,rfl,M1.out,M2.out,M3.out,M4.out,M5.out⟩ hW.out hE
  ·
   have t1:(op==1)=false:=beq_eq_false_iff_ne.2 (by omega)
   have t2:(op==2)=false:=beq_eq_false_iff_ne.2 (by omega)
   have t3:(op==3)=false:=beq_eq_false_iff_ne.2 (by omega)
   have t4:(op==4)=false:=beq_eq_false_iff_ne.2 (by omega)
   have t5:(op==5)=false:=beq_eq_false_iff_ne.2 (by omega)
   have t6:(op==6)=false:=beq_eq_false_iff_ne.2 (by omega)
   have t7:(op==7)=false:=beq_eq_false_iff_ne.2 (by omega)
   have t8:(op==8)=false:=beq_eq_false_iff_ne.2 (by omega)
   have t9:(op==9)=false:=beq_eq_false_iff_ne.2 (by omega)
   have t10:(op==10)=false:=beq_eq_false_iff_ne.2 (by omega)
   have t11:(op==11)=false:=beq_eq_false_iff_ne.2 (by omega)
   have t12:(op==12)=true:=beq_iff_eq.2 h
   have hfit:la=1/\0<=C/\C<(n:Int):=by rw[h] at HOP;simp[im,cnt,iL] at HOP;omega
   obtain⟨p,hp⟩:=Int.eq_ofNat_of_zero_le hfit.2.1
   have HE:Hid (∀k,k<n->fb ((λk=>if k=p then xa.getD 0 0 else 0) k)=fb (iF op C K xa xb xc k)):=λk _=>by simp[iF,h,hp]
   have hx:=iE ga.lt 0
   rcases ga.at_ with hz|⟨g,o,rfl,_,_,hg,kc⟩
   ·omega
   have k0:=kc 0 (by omega)
   rw[Nat.add_zero] at k0
   have hla:(0:Int)<(la:Int):=by omega
   have hpn:p<n:=by omega
   rw[hp] at b4
   clear HOP ga gb gc hfit h kc hg hp
   generalize xa.getD 0 0=x at hx HE k0
   go_wp2_with fail
   go_region_with (go_at_call 105;refine(Co _ x p n hx hn hpn).mono ?_;intro e w2 hm;obtain⟨zs,rfl,m1,m2,m3,m4,m5⟩:=hm;have M1:Hid _:=m1;have M2:Hid _:=m2;have M3:Hid _:=m3;have M4:Hid _:=m4;have M5:Hid _:=m5;clear m1 m2 m3 m4 m5)
   all_goals
    go_wp2
    go_ret
    exact Made.kres (wc:=wc.drew) ⟨zs,rfl,M1.out,M2.out,M3.out,M4.out,M5.out⟩ (hW.out.trans (iq 0 0 _ 1)) HE.out
  ·
   have t1:(op==1)=false:=beq_eq_false_iff_ne.2 (by omega)
   have t2:(op==2)=false:=beq_eq_false_iff_ne.2 (by omega)
   have t3:(op==3)=false:=beq_eq_false_iff_ne.2 (by omega)
   have t4:(op==4)=false:=beq_eq_false_iff_ne.2 (by omega)
   have t5:(op==5)=false:=beq_eq_false_iff_ne.2 (by omega)
   have t6:(op==6)=false:=beq_eq_false_iff_ne.2 (by omega)
   have t7:(op==7)=false:=beq_eq_false_iff_ne.2 (by omega)
   have t8:(op==8)=false:=beq_eq_false_iff_ne.2 (by omega)
   have t9:(op==9)=false:=beq_eq_false_iff_ne.2 (by omega)
   have t10:(op==10)=false:=beq_eq_false_iff_ne.2 (by omega)
   have t11:(op==11)=false:=beq_eq_false_iff_ne.2 (by omega)
   have t12:(op==12)=false:=beq_eq_false_iff_ne.2 (by omega)
   have t13:(op==13)=true:=beq_iff_eq.2 h
   have hfit:la=n:=by rw[h] at HOP;simp[im,cnt] at HOP;omega
   have HE:Hid (∀k,k<n->fb ((λk=>oC (xa.getD k 0)) k)=fb (iF op C K xa xb xc k)):=λk _=>by simp[iF,h]
   have HF:Hid _:=hfit
   have GA:Hid _:=ga
   have GB:Hid _:=gb
   have GC:Hid _:=gc
   clear HOP ga gb gc hfit h
   go_wp2_with fail
   have q0:=GA.out
   rw[HF.out] at q0
   rw[HF.out]
   refine(Df _ n h1 hn q0).mono ?_
   clear q0
   intro e w2 hm
   obtain⟨zs,rfl,m1,m2,m3,m4,m5⟩:=hm
   have M1:Hid _:=m1
   have M2:Hid _:=m2
   have M3:Hid _:=m3
   have M4:Hid _:=m4
   have M5:Hid _:=m5
   clear m1 m2 m3 m4 m5
   go_wp2
   go_ret
   exact Made.kres ⟨zs,rfl,M1.out,M2.out,M3.out,M4.out,M5.out⟩ hW.out HE.out
  ·exfalso
   obtain⟨h1',h2',h3,h4,h5,h6,h7,h8,h9,h10,h11,h12,h13⟩:=h
   unfold im at HOP
   rw[if_neg h9,if_neg h10,if_neg h11,if_neg h12,if_neg (by omega)] at HOP
   cases HOP
def lB (op len C:Int)(K:Nat)(xa xb xc:List Nat):List Nat:=
 if iA op len C xa.length xb.length xc.length then (List.range len.toNat).map (iF op C K xa xb xc) else[]
theorem rH {op len C:Int}{K:Nat}(h:iA op len C xa.length xb.length xc.length=true)(hl:zs.length=len.toNat)
  (hq:∀k,k<len.toNat->fb (zs.getD k 0)=fb (iF op C K xa xb xc k)):same zs (lB op len C K xa xb xc):=by
 unfold lB
 rw[if_pos h]
 refine vF (by simp[hl]) λk hk=>?_
 rw[hq k (by omega)]
 congr 1
 simp[List.getD_eq_getElem?_getD,(by omega:k<len.toNat)]
def OR (w:World)(lo:Nat)(a:Option Addr)(n cap:Nat)(zs:List Nat):Prop:=
 (a=none/\n=0/\cap=0/\zs=[])\/∃g,a=some ⟨g,0,none⟩/\lo<=g/\FR w g zs/\zs.length=n/\(∀z∈zs,z<18446744073709551616)
theorem OR.fs {lo:Nat}{cap:Nat}(h:OR w lo a n cap zs):FS w lo w.heap.size a n zs:=by
 rcases h with⟨rfl,rfl,rfl,rfl⟩|⟨g,rfl,h1,h2,rfl,h4⟩
 ·exact⟨rfl,by simp,.inl rfl⟩
 ·exact h2.fs h4 h1 h2.lt
theorem ug (w:World)(op len A B C:Int)(K:Nat)(hK:K<18446744073709551616)
  (fa:FS w l0 h0' a la xa) (fb':FS w l1 h1' b lb xb) (fc:FS w l2 h2' c lc xc) (hca:la<=ca):
  Calls Tryz.prog 68 #[jA op len A B C K,.slice a la ca,.slice b lb cb,.slice c lc cc] w λe w'=>
   ∃(a':Option Addr) (n cap:Nat) (zs:List Nat),e=.returned (.slice a' n cap)/\OR w' w.heap.size a' n cap zs/\same zs (lB op len C K xa xb xc)/\Kept 0 0 w w'/\n<=cap:=by
 have e1:=fa.len
 have e2:=fb'.len
 have e3:=fc.len
 cases hf:iA op len C la lb lc
 ·have hn:lB op len C K xa xb xc=[]:=by unfold lB;rw[e1,e2,e3,hf];rfl
  have key:∀(e:Ending) (w':World),(e=.returned (.slice none 0 0)/\Kept 0 0 w w')->∃(a':Option Addr) (n cap:Nat) (zs:List Nat),e=.returned (.slice a' n cap)/\OR w' w.heap.size a' n cap zs/\same zs (lB op len C K xa xb xc)/\Kept 0 0 w w'/\n<=cap:=
   λe w' h=>⟨none,0,0,[],h.1,.inl ⟨rfl,rfl,rfl,rfl⟩,by rw[hn];rfl,h.2,Nat.le_refl _⟩
  cases hl:iJ len
  ·exact(oY w op len A B C K a b c la lb lc ca cb cc hl).mono λe w' h=>key e w' h
  ·refine(pZ w op len A B C K a b c la lb lc ca cb cc hl ?_).mono λe w' h=>key e w' h
   simpa[iA,hl] using hf
 ·have hl:iJ len=true:=by have:=hf;simp only[iA,Bool.and_eq_true] at this;exact this.1
  have hs:im op len C (([(la:Int),(lb:Int),(lc:Int)]).take (cnt op))=true:=by have:=hf;simp only[iA,Bool.and_eq_true] at this;exact this.2
  have hb:1<=len/\len<=1000:=by simpa[iJ] using hl
  obtain⟨n,rfl⟩:=Int.eq_ofNat_of_zero_le (by omega:0<=len)
  refine(qV w op A B C n K (by omega) (by omega) hK fa fb' fc hca hs).mono λe w' h=>?_
  obtain⟨G,zs,h1,h2,h3,h4,h5,h6,h7⟩:=h
  exact⟨_,n,n,zs,h1,.inr ⟨G,rfl,h2,h3,h5,h4⟩,rH (by rw[e1,e2,e3];exact hf) (by simpa using h5) (by simpa using h6),h7,Nat.le_refl _⟩
theorem uh (w:World)(op len A B C:Int)(K:Nat)(hK:K<18446744073709551616)
  (fa:FS w l0 h0' a la xa) (fb':FS w l1 h1' b lb xb) (fc:FS w l2 h2' c lc xc) (hca:la<=ca):
  Calls Tryz.prog 47 #[jA op len A B C K,.slice a la ca,.slice b lb cb,.slice c lc cc] w λe w'=>
   ∃(a':Option Addr) (n cap:Nat) (zs:List Nat),e=.returned (.slice a' n cap)/\FS w' w.heap.size w'.heap.size a' n zs/\same zs (lB op len C K xa xb xc)/\Kept 0 0 w w'/\n<=cap:=by
 have e1:=fa.len
 have e2:=fb'.len
 have e3:=fc.len
 cases hf:iA op len C la lb lc
 ·have hn:lB op len C K xa xb xc=[]:=by unfold lB;rw[e1,e2,e3,hf];rfl
  exact(p7 w op len A B C K a b c la lb lc ca cb cc hf).mono λe w' h=>⟨none,0,0,[],h.1,⟨rfl,by simp,.inl rfl⟩,by rw[hn];rfl,h.2,Nat.le_refl _⟩
 ·have hr:1<=op/\op<=13/\1<=len/\len<=1000:=Decidable.byContradiction λc=>by rw[tO op len C la lb lc c] at hf;cases hf
  obtain⟨n,rfl⟩:=Int.eq_ofNat_of_zero_le (by omega:0<=len)
  have h1:1<=n:=by omega
  have hn:n<=1000:=by omega
  have key:∀(e:Ending) (w':World),KS n (iF op C K xa xb xc) w e w'->∃(a':Option Addr) (m cap:Nat) (zs:List Nat),e=.returned (.slice a' m cap)/\FS w' w.heap.size w'.heap.size a' m zs/\same zs (lB op (n:Int) C K xa xb xc)/\Kept 0 0 w w'/\m<=cap:=by
   rintro e w' ⟨a',cap,zs,k1,k2,k3,k4,k5⟩
   exact⟨a',n,cap,zs,k1,k2,rH (by rw[e1,e2,e3];exact hf) (by simpa using k2.len) (by simpa using k3),k4,k5⟩
  have:op=1\/op=2\/op=3\/op=4\/op=5\/op=6\/op=7\/op=8\/op=9\/op=10\/op=11\/op=12\/op=13:=by omega
  rcases this with rfl|rfl|rfl|rfl|rfl|rfl|rfl|rfl|rfl|rfl|rfl|rfl|rfl
  ·exact(so w A B C n K h1 hn hK fa fb' fc hca hf).mono key
  ·exact(sq w A B C n K h1 hn hK fa fb' fc hca hf).mono key
  ·exact(sr w A B C n K h1 hn hK fa fb' fc hca hf).mono key
  ·exact(su w A B C n K h1 hn hK fa fb' fc hca hf).mono key
  ·exact(sw w A B C n K h1 hn hK fa fb' fc hca hf).mono key
  ·exact(sx w A B C n K h1 hn hK fa fb' fc hca hf).mono key
  ·exact(sy w A B C n K h1 hn hK fa fb' fc hca hf).mono key
  ·exact(sA w A B C n K h1 hn hK fa fb' fc hca hf).mono key
  ·exact(sC w A B C n K h1 hn hK fa fb' fc hca hf).mono key
  ·exact(qO w A B C n K h1 hn hK fa fb' fc hca hf).mono key
  ·exact(qP w A B C n K h1 hn hK fa fb' fc hca hf).mono key
  ·exact(qQ w A B C n K h1 hn hK fa fb' fc hca hf).mono key
  ·exact(qR w A B C n K h1 hn hK fa fb' fc hca hf).mono key
structure FO (w:World)(g n:Nat)(xs:List Nat):Prop where
 len:xs.length=n
 bnd:∀x∈xs,x<18446744073709551616
 lt:g<w.heap.size
 at_:∀k,k<n->w.cell? ⟨g,k,none⟩=some (.float .f64 (xs.getD k 0))
 free:∀o,w.frozen? ⟨g,o,none⟩=false
theorem FO.keep {l h:Nat}(f:FO w g n xs)(k:Kept l h w w')(hd:g<l\/h<=g\/h<=l):FO w' g n xs:=
 ⟨f.len,f.bnd,Nat.lt_of_lt_of_le f.lt k.size,λj hj=>by rw[k.cell (p:=⟨g,j,none⟩) f.lt (by show ¬(l<=g/\g<h);omega)];exact f.at_ j hj,λo=>by rw[k.frozen (p:=⟨g,o,none⟩) f.lt (by show ¬(l<=g/\g<h);omega)];exact f.free o⟩
theorem FO.fs (f:FO w g n xs):FS w 0 w.heap.size (some ⟨g,0,none⟩) n xs:=
 ⟨f.len,f.bnd,.inr ⟨g,0,rfl,Nat.zero_le _,f.lt,f.lt,λk hk=>by rw[Nat.zero_add];exact f.at_ k hk⟩⟩
structure SS (w:World)(a:Option Addr)(n:Nat)(xss:List (List Nat)):Prop where
 len:xss.length=n
 at_:n=0\/∃g off,a=some ⟨g,off,none⟩/\g<w.heap.size/\∀k,k<n->∃b c,w.cell? ⟨g,off+k,none⟩=some (.slice b (xss.getD k []).length c)/\(xss.getD k []).length<=c/\FS w 0 w.heap.size b (xss.getD k []).length (xss.getD k [])
theorem FS.keep0 (f:FS w 0 w.heap.size a n xs)(k:Kept 0 0 w w'):FS w' 0 w'.heap.size a n xs:=
 (f.keep k (.inr (.inr (Nat.le_refl _)))).mono (Nat.le_refl _) k.size
theorem SS.keep (f:SS w a n xss)(k:Kept 0 0 w w'):SS w' a n xss:=
 ⟨f.len,by
  rcases f.at_ with h0|⟨g,off,e,h1,h2⟩
  ·exact .inl h0
  ·refine .inr ⟨g,off,e,Nat.lt_of_lt_of_le h1 k.size,λj hj=>?_⟩
   obtain⟨b,c,g1,g2,g3⟩:=h2 j hj
   exact⟨b,c,jq k h1 g1,g2,g3.keep0 k⟩⟩
structure SP (w:World)(g n k:Nat)(gf cf:Nat->Nat)(xss:List (List Nat)):Prop where
 lt:g<w.heap.size
 free:∀o,w.frozen? ⟨g,o,none⟩=false
 cell:∀j,j<k->w.cell? ⟨g,j,none⟩=some (.slice (some ⟨gf j,0,none⟩) (xss.getD j []).length (cf j))
 rest:∀j,j<n->∃u,w.cell? ⟨g,j,none⟩=some u
 cap:∀j,j<k->(xss.getD j []).length<=cf j
 own:∀j,j<k->FO w (gf j) (xss.getD j []).length (xss.getD j [])
 up:∀j,j<k->g<gf j
 inc:∀i j,i<j->j<k->gf i<gf j
theorem SP.keep (f:SP w g n k gf cf xss)(q:Kept 0 0 w w'):SP w' g n k gf cf xss:=
 ⟨Nat.lt_of_lt_of_le f.lt q.size,λo=>by rw[q.frozen (p:=⟨g,o,none⟩) f.lt (by omega)];exact f.free o,λj hj=>jq q f.lt (f.cell j hj),λj hj=>(f.rest j hj).imp λ_ h=>jq q f.lt h,f.cap,λj hj=>(f.own j hj).keep q (.inr (.inr (Nat.le_refl _))),f.up,f.inc⟩
def upd (f:Nat->Nat)(k x:Nat):Nat->Nat:=λj=>if j=k then x else f j
theorem mz (f:Nat->Nat)(k x:Nat):upd f k x k=x:=if_pos rfl
theorem kO {f:Nat->Nat}{x j:Nat}(h:j≠k):upd f k x j=f j:=if_neg h
theorem SP.step (f:SP w g n k gf cf xss)(hk:k<n)(q:Kept 0 0 w w'){G c:Nat}
  (ho:FO w' G (xss.getD k []).length (xss.getD k [])) (hG:w.heap.size<=G) (hc:(xss.getD k []).length<=c):
  SP (w'.setCell ⟨g,k,none⟩ (.slice (some ⟨G,0,none⟩) (xss.getD k []).length c)) g n (k+1) (upd gf k G) (upd cf k c) xss:=by
 have f':=f.keep q
 have hgl:=f.lt
 have pk:∀v,Kept g (g+1) w' (w'.setCell ⟨g,k,none⟩ v):=λv=>it w' ⟨g,k,none⟩ v (.inl ⟨Nat.le_refl _,Nat.lt_succ_self _⟩)
 obtain⟨u,hu⟩:=f'.rest k hk
 refine⟨by simpa using f'.lt,λo=>by simp[f'.free o],λj hj=>?_,λj hj=>?_,λj hj=>?_,λj hj=>?_,λj hj=>?_,λi j hij hj=>?_⟩
 ·by_cases e:j=k
  ·subst e
   rw[mz,mz]
   exact jI _ _ _ _ _ hu
  ·rw[kO e,kO e,iB _ _ _ _ _ _ (.inr (Ne.symm e))]
   exact f'.cell j (by omega)
 ·by_cases e:j=k
  ·subst e;exact⟨_,jI _ _ _ _ _ hu⟩
  ·rw[iB _ _ _ _ _ _ (.inr (Ne.symm e))]
   exact f'.rest j hj
 ·by_cases e:j=k
  ·subst e;rw[mz];exact hc
  ·rw[kO e];exact f.cap j (by omega)
 ·by_cases e:j=k
  ·subst e;rw[mz];exact ho.keep (pk _) (by omega)
  ·rw[kO e];exact(f'.own j (by omega)).keep (pk _) (by have:=f.up j (by omega);omega)
 ·by_cases e:j=k
  ·subst e;rw[mz];omega
  ·rw[kO e];exact f.up j (by omega)
 ·by_cases e:j=k
  ·subst e
   rw[mz,kO (by omega)]
   have:=(f.own i (by omega)).lt
   omega
  ·rw[kO e,kO (by omega)]
   exact f.inc i j hij (by omega)
theorem SP.ss (f:SP w g n n gf cf xss)(hl:xss.length=n):SS w (some ⟨g,0,none⟩) n xss:=
 ⟨hl,.inr ⟨g,0,rfl,f.lt,λk hk=>⟨_,_,by rw[Nat.zero_add];exact f.cell k hk,f.cap k hk,(f.own k hk).fs⟩⟩⟩
theorem ui:(Tryz.prog.info? 36).map (λi=>(i.zero,i.size,i.bytes))=some (some (.slice none 0 0),1,24):=by kernel_rfl
theorem yo (n:Nat)(w:World)(hn:n<=1099511627776):
  (Instr.makeSlice 32 (.int .i64 (n:Int)) (.int .i64 (n:Int))).run Tryz.prog w=.ok (.slice (some ⟨w.heap.size,0,none⟩) n n) (w.alloc (.cells (madeCells #[.slice none 0 0] n) 36)):=by
 obtain⟨i,hi,hz0,hz1,hz2⟩:=info_parts ui
 have:=run_make (P:=Tryz.prog) w 32 36 i (.slice none 0 0) Tryz.underlying32 hi hz0 .i64 .i64 n n (by omega) (by omega) (by rw[hz2];omega) (by omega)
 rw[hz1,Nat.mul_one,Int.toNat_natCast] at this
 exact this
theorem SP.made (w:World)(n:Nat)(gf cf:Nat->Nat)(xss:List (List Nat)):SP (w.alloc (.cells (madeCells #[.slice none 0 0] n) 36)) w.heap.size n 0 gf cf xss where
 lt:=by simp
 free:=λo=>by simp
 cell:=λj hj=>absurd hj (Nat.not_lt_zero _)
 rest:=λj hj=>by
  rw[World.cell?_alloc_new]
  refine⟨.slice none 0 0,?_⟩
  simp only[madeCells]
  rw[Array.getElem?_map,Array.getElem?_range,if_pos hj]
  have hm:j%1=0:=Nat.mod_one j
  simp[hm]
 cap:=λj hj=>absurd hj (Nat.not_lt_zero _)
 own:=λj hj=>absurd hj (Nat.not_lt_zero _)
 up:=λj hj=>absurd hj (Nat.not_lt_zero _)
 inc:=λi j _ hj=>absurd hj (Nat.not_lt_zero _)
def qq:List (List Nat)->Nat
 |[]=>0
 |xs::r=>xs.length+qq r
end Go.Proofs.YtnlffngpnoodkaaGreat
