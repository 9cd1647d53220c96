import Derived.Test.YtnlffngpnoodkaaGreatP07
namespace Go.Proofs.YtnlffngpnoodkaaGreat
set_option maxRecDepth 1000000
set_option maxHeartbeats 0
open Go.RowKit Flt
attribute [local go_sem] ic ib ia
def iL (i n:Int):Bool:=decide (0<=i/\i<n)
theorem jx (i n:Int)(w:World):Calls Tryz.prog 58 #[.int .i64 i,.int .i64 n] w λe w'=>e=.returned (.bool (iL i n))/\w'=w:=by
 by_cases h1:0<=i
 ·by_cases h2:i<n
  ·rw[show iL i n=true from decide_eq_true ⟨h1,h2⟩]
   go_enter Tryz.func58,Tryz.ntmps58
   go_wp2
   go_ret
   exact⟨rfl,rfl⟩
  ·rw[show iL i n=false from decide_eq_false (λc=>h2 c.2)]
   have t:decide (i<n)=false:=decide_eq_false h2
   go_enter Tryz.func58,Tryz.ntmps58
   go_wp2
   go_ret
   exact⟨rfl,rfl⟩
 ·rw[show iL i n=false from decide_eq_false (λc=>h1 c.1)]
  have t:decide (0<=i)=false:=decide_eq_false h1
  go_enter Tryz.func58,Tryz.ntmps58
  go_wp2
  go_ret
  exact⟨rfl,rfl⟩
abbrev jA (op len A B C:Int)(K:Nat):Value:=.agg #[.int .i64 op,.int .i64 len,.int .i64 A,.int .i64 B,.int .i64 C,.float .f64 K]
abbrev ij (op len A B C:Int)(K:Nat):Obj:=.cells #[.int .i64 op,.int .i64 len,.int .i64 A,.int .i64 B,.int .i64 C,.float .f64 K] 31
def im (op len C:Int)(xs:List Int):Bool:=
 if op=9 then len==1&&iJ (xs.getD 0 0)
 else if op=10 then xs.getD 0 0==1
 else if op=11 then (len==1&&iJ (xs.getD 0 0))&&iL C (xs.getD 0 0)
 else if op=12 then xs.getD 0 0==1&&iL C len
 else if 1<=op/\op<=13 then xs.all (· ==len)
 else false
theorem ws (w:World)(op len A B C:Int)(K:Nat)(lo hi:Nat)(a:Option Addr)(m cap:Nat)(xs:List Int)(f:IS w lo hi a m xs)(hm:m<=3)
  (hop:op=1\/op=2\/op=3\/op=4\/op=5\/op=6\/op=7\/op=8\/op=13):
  Calls Tryz.prog 79 #[jA op len A B C K,.slice a m cap] w λe w'=>e=.returned (.bool (im op len C xs))/\w'=w.alloc (ij op len A B C K):=by
 have f':=f.keep (hU 0 0 w (ij op len A B C K)) (.inr (.inr (Nat.le_refl _)))
 clear f
 rcases hop with rfl|rfl|rfl|rfl|rfl|rfl|rfl|rfl|rfl
 all_goals
  rw[show im _ len C xs=xs.all (· ==len) by simp[im]]
  go_enter Tryz.func79,Tryz.ntmps79
  go_wp2_with fail
  refine(Ck _ _ _ _ _ _ _ _ f' (by omega)).mono ?_
  rintro e w' ⟨rfl,rfl⟩
  go_wp2
  go_ret
  exact⟨rfl,rfl⟩
theorem uI (w:World)(op len A B C:Int)(K:Nat)(a:Option Addr)(m cap:Nat)(xs:List Int)
  (h:op≠1/\op≠2/\op≠3/\op≠4/\op≠5/\op≠6/\op≠7/\op≠8/\op≠9/\op≠10/\op≠11/\op≠12/\op≠13):
  Calls Tryz.prog 79 #[jA op len A B C K,.slice a m cap] w λe w'=>e=.returned (.bool (im op len C xs))/\w'=w.alloc (ij op len A B C K):=by
 obtain⟨h1,h2,h3,h4,h5,h6,h7,h8,h9,h10,h11,h12,h13⟩:=h
 have e:im op len C xs=false:=by unfold im;rw[if_neg h9,if_neg h10,if_neg h11,if_neg h12,if_neg (by omega)]
 rw[e]
 have t1:(op==1)=false:=beq_eq_false_iff_ne.2 h1
 have t2:(op==2)=false:=beq_eq_false_iff_ne.2 h2
 have t3:(op==3)=false:=beq_eq_false_iff_ne.2 h3
 have t4:(op==4)=false:=beq_eq_false_iff_ne.2 h4
 have t5:(op==5)=false:=beq_eq_false_iff_ne.2 h5
 have t6:(op==6)=false:=beq_eq_false_iff_ne.2 h6
 have t7:(op==7)=false:=beq_eq_false_iff_ne.2 h7
 have t8:(op==8)=false:=beq_eq_false_iff_ne.2 h8
 have t9:(op==9)=false:=beq_eq_false_iff_ne.2 h9
 have t10:(op==10)=false:=beq_eq_false_iff_ne.2 h10
 have t11:(op==11)=false:=beq_eq_false_iff_ne.2 h11
 have t12:(op==12)=false:=beq_eq_false_iff_ne.2 h12
 have t13:(op==13)=false:=beq_eq_false_iff_ne.2 h13
 clear e h1 h2 h3 h4 h5 h6 h7 h8 h9 h10 h11 h12 h13
 go_enter Tryz.func79,Tryz.ntmps79
 go_wp2
 go_ret
 exact⟨rfl,rfl⟩
theorem wt (w:World)(op len A B C x:Int)(K g off cap:Nat)(hg:g<w.heap.size)(hc:w.cell? ⟨g,off,none⟩=some (.int .i64 x))
  (hop:op=9\/op=10\/op=11\/op=12):
  Calls Tryz.prog 79 #[jA op len A B C K,.slice (some ⟨g,off,none⟩) 1 cap] w λe w'=>e=.returned (.bool (im op len C [x]))/\Kept 0 0 w w':=by
 have hc':(w.alloc (ij op len A B C K)).cell? ⟨g,off,none⟩=some (.int .i64 x):=by rw[World.cell?_alloc_past (hn:=hg)];exact hc
 rcases hop with rfl|rfl|rfl|rfl
 ·
  cases t:(len==1)
  ·rw[show im 9 len C [x]=false by simp[im,t]]
   go_enter Tryz.func79,Tryz.ntmps79
   go_wp2
   go_ret
   exact⟨rfl,hU _ _ _ _⟩
  ·rw[show im 9 len C [x]=iJ x by simp[im,t]]
   go_enter Tryz.func79,Tryz.ntmps79
   go_wp2_with fail
   refine(je _ _).mono ?_
   rintro e w' ⟨rfl,rfl⟩
   go_wp2
   go_ret
   exact⟨rfl,hU _ _ _ _⟩
 ·rw[show im 10 len C [x]=(x==1) by simp[im]]
  go_enter Tryz.func79,Tryz.ntmps79
  go_wp2
  go_ret
  exact⟨rfl,hU _ _ _ _⟩
 ·cases t:(len==1)
  ·rw[show im 11 len C [x]=false by simp[im,t]]
   go_enter Tryz.func79,Tryz.ntmps79
   go_wp2
   go_quiet (fail)
   go_wp2
   go_ret
   exact⟨rfl,(hU _ _ _ _).trans (iq _ _ _ _)⟩
  ·cases t2:iJ x
   ·rw[show im 11 len C [x]=false by simp[im,t2]]
    go_enter Tryz.func79,Tryz.ntmps79
    go_wp2
    go_quiet ((first|(go_at_call 56;exact Calls.quiet_of_same (je _ _))|(go_at_call 58;exact Calls.quiet_of_same (jx _ _ _))))
    go_wp2
    go_ret
    exact⟨rfl,(hU _ _ _ _).trans (iq _ _ _ _)⟩
   ·rw[show im 11 len C [x]=iL C x by simp[im,t,t2]]
    go_enter Tryz.func79,Tryz.ntmps79
    go_wp2
    go_quiet ((first|(go_at_call 56;exact Calls.quiet_of_same (je _ _))|(go_at_call 58;exact Calls.quiet_of_same (jx _ _ _))))
    go_wp2
    go_ret
    exact⟨rfl,(hU _ _ _ _).trans (iq _ _ _ _)⟩
 ·cases t:(x==1)
  ·rw[show im 12 len C [x]=false by simp[im,t]]
   go_enter Tryz.func79,Tryz.ntmps79
   go_wp2
   go_ret
   exact⟨rfl,hU _ _ _ _⟩
  ·rw[show im 12 len C [x]=iL C len by simp[im,t]]
   go_enter Tryz.func79,Tryz.ntmps79
   go_wp2_with fail
   refine(jx _ _ _).mono ?_
   rintro e w' ⟨rfl,rfl⟩
   go_wp2
   go_ret
   exact⟨rfl,hU _ _ _ _⟩
theorem jo (op:Int):cnt op<=3:=by
 unfold cnt
 split
 ·omega
 ·split
  ·omega
  ·split<;>omega
theorem oX (w:World)(op len A B C:Int)(K:Nat)(lo hi:Nat)(a:Option Addr)(m cap:Nat)(xs:List Int)(f:IS w lo hi a m xs)(hm:m=cnt op):
  Calls Tryz.prog 79 #[jA op len A B C K,.slice a m cap] w λe w'=>e=.returned (.bool (im op len C xs))/\Kept 0 0 w w':=by
 have key:(op=9\/op=10\/op=11\/op=12)->Calls Tryz.prog 79 #[jA op len A B C K,.slice a m cap] w λe w'=>e=.returned (.bool (im op len C xs))/\Kept 0 0 w w':=by
  intro hop
  have hm1:m=1:=by rw[hm];rcases hop with rfl|rfl|rfl|rfl<;>rfl
  subst hm1
  rcases f.at_ with h0|⟨g,off,rfl,a1,a2,a3,a4⟩
  ·omega
  ·obtain⟨x,rfl⟩:∃x,xs=[x]:=List.length_eq_one_iff.1 f.len
   exact wt w op len A B C x K g off cap a3 (a4 0 (by omega)) hop
 have hm3:m<=3:=by rw[hm];exact jo op
 rcases oD op with h|h|h|h|h|h|h|h|h|h|h|h|h|h
 all_goals first
  |exact key (by omega)
  |exact(ws w op len A B C K lo hi a m cap xs f hm3 (by omega)).mono λ_ _ h=>⟨h.1,by rw[h.2];exact hU _ _ _ _⟩
  |exact(uI w op len A B C K a m cap xs h).mono λ_ _ h=>⟨h.1,by rw[h.2];exact hU _ _ _ _⟩
end Go.Proofs.YtnlffngpnoodkaaGreat
