import Derived.Test.YtgamjhpebmmjcaaGreatDoorP04
import Derived.Deep.RegionWith
import Derived.Deep.DeepCutAuto
import Derived.Test.YtgamjhpebmmjcaaGreatDoorP03
import Derived.Deep.RegionHeld3
import Derived.Deep.QuietTactic
import Derived.BigQuiet
namespace Go.Proofs.YtgamjhpebmmjcaaGreatDoor
set_option maxRecDepth 100000
set_option maxHeartbeats 40000000
open Go.RowKit Flt
attribute [local go_sem] alloc_drewN setCell_drewN run_store_float
def fitB (op len C:Int)(la lb lc:Nat):Bool:=lenB len&&shapeB op len C (([(la:Int),(lb:Int),(lc:Int)]).take (cnt op))
def elem (op C:Int)(K:Nat)(xa xb xc:List Nat)(k:Nat):Nat:=
 if op=1 then K else if op=2 then cop .add (xa.getD k 0) (xb.getD k 0) else if op=3 then cop .sub (xa.getD k 0) (xb.getD k 0)
 else if op=4 then cop .mul (xa.getD k 0) (xb.getD k 0) else if op=5 then cop .quo (xa.getD k 0) (xb.getD k 0)
 else if op=6 then Op.negFloat .f64 (xa.getD k 0) else if op=7 then greaterN (xa.getD k 0) (xb.getD k 0)
 else if op=8 then chosenN (xa.getD k 0) (xb.getD k 0) (xc.getD k 0) else if op=9 then csum xa
 else if op=10 then xa.getD 0 0 else if op=11 then xa.getD C.toNat 0 else if op=12 then (if k=C.toNat then xa.getD 0 0 else 0)
 else cexp (xa.getD k 0)
def KRes (n:Nat)(q:Nat→Nat)(w:World)(e:Ending)(w':World):Prop:=
 ∃(G:Nat) (zs:List Nat),e=.returned (.slice (some ⟨G,0,none⟩) n n)∧w.heap.size≤G∧FR w' G zs∧(∀z∈zs,z<18446744073709551616)∧zs.length=n∧(∀k,k<n→fb (zs.getD k 0)=fb (q k))∧Kept 0 0 w w'
theorem lens_is (w:World)(x y z:Int):IS (w.alloc (.cells #[.int .i64 x,.int .i64 y,.int .i64 z] 3)) 0 (w.heap.size+1) (some ⟨w.heap.size,0,none⟩) 3 [x,y,z]:=
 ⟨rfl,.inr ⟨w.heap.size,0,rfl,Nat.zero_le _,Nat.lt_succ_self _,by simp,fun k hk=>by
  have:k=0∨k=1∨k=2:=by omega
  rcases this with rfl|rfl|rfl<;>simp⟩⟩
theorem implKernel_short (w:World)(op len A B C:Int)(K:Nat)(a b c:Option Addr)(la lb lc ca cb cc:Nat)(hl:lenB len=false):
  Calls Tryz.prog 141 #[vagg op len A B C K,.slice a la ca,.slice b lb cb,.slice c lc cc] w fun e w'=>e=.returned (.slice none 0 0)∧Kept 0 0 w w':=by
 have hL:Hid (∀w,Calls Tryz.prog 62 #[.int .i64 len] w fun e w'=>e=.returned (.bool false)∧w'=w):=fun w=>by
  have:=isLength_any len w
  rw[hl] at this
  exact this
 clear hl
 go_enter Tryz.func141,Tryz.ntmps141
 go_wp2_with fail
 go_quiet ((go_at_call 62;exact Calls.quiet_of_same (hL.out _)))
 go_wp2
 go_ret
 exact⟨rfl,(((kept_alloc 0 0 w _).trans (kept_alloc 0 0 _ _)).trans (kept_drewN _ _ _ _))⟩
theorem implKernel_bad (w:World)(op len A B C:Int)(K:Nat)(a b c:Option Addr)(la lb lc ca cb cc:Nat)(hl:lenB len=true)
  (hs:shapeB op len C (([(la:Int),(lb:Int),(lc:Int)]).take (cnt op))=false):
  Calls Tryz.prog 141 #[vagg op len A B C K,.slice a la ca,.slice b lb cb,.slice c lc cc] w fun e w'=>e=.returned (.slice none 0 0)∧Kept 0 0 w w':=by
 have hL:Hid (∀w,Calls Tryz.prog 62 #[.int .i64 len] w fun e w'=>e=.returned (.bool true)∧w'=w):=fun w=>by
  have:=isLength_any len w
  rw[hl] at this
  exact this
 have hI:=lens_is (w.alloc (vbox op len A B C K)) la lb lc
 have hI2:=hI.prefix (cnt op) (cnt_le op)
 have hcnt:=cnt_le op
 have hC:Hid (∀w,Calls Tryz.prog 75 #[.int .i64 op] w fun e w'=>e=.returned (.int .i64 (cnt op:Nat))∧w'=w):=opCount op
 have hS:Hid (∀m,Calls Tryz.prog 101 #[vagg op len A B C K,.slice (some ⟨w.heap.size+1,0,none⟩) (cnt op) 3] (((w.alloc (vbox op len A B C K)).alloc (.cells #[.int .i64 la,.int .i64 lb,.int .i64 lc] 3)).drewN m)
   fun e w'=>e=.returned (.bool false)∧Kept 0 0 (((w.alloc (vbox op len A B C K)).alloc (.cells #[.int .i64 la,.int .i64 lb,.int .i64 lc] 3)).drewN m) w'):=fun m=>by
  have h:=shapeFits _ op len A B C K _ _ _ _ 3 _ (hI2.keep (kept_drewN 0 0 _ m) (.inr (.inr (Nat.le_refl _)))) rfl
  rw[hs] at h
  have e:(w.alloc (vbox op len A B C K)).heap.size=w.heap.size+1:=by simp
  rw[e] at h
  exact h
 clear hI hI2 hs
 generalize cnt op=q at hC hS hcnt
 go_enter Tryz.func141,Tryz.ntmps141
 go_upto_region 2 with fail
 go_cut [30] (fun r wx=>r=.bool (!false)∧Kept 0 0 ((w.alloc (vbox op len A B C K)).alloc (.cells #[.int .i64 la,.int .i64 lb,.int .i64 lc] 3)) wx)
 case first=>
  go_region_with (first|(go_at_call 62;refine(hL.out _).mono ?_;rintro e w2 ⟨rfl,rfl⟩)|(go_at_call 75;refine(hC.out _).mono ?_;rintro e w2 ⟨rfl,rfl⟩)|(go_at_call 101;refine(hS.out 1).mono ?_;rintro e w2 ⟨rfl,hk⟩))
  all_goals
   go_wp2_with fail
   go_meet
   exact⟨rfl,(kept_drewN 0 0 _ 1).trans hk⟩
 case rest=>
  obtain⟨rfl,hcut2⟩:=hcut
  clear hL hC hS hcnt
  have hK:Hid _:=((kept_alloc 0 0 w _).trans (kept_alloc 0 0 _ _)).trans hcut2
  clear hcut2
  go_wp2
  go_ret
  exact⟨rfl,hK.out⟩
end Go.Proofs.YtgamjhpebmmjcaaGreatDoor
namespace Go.Proofs.YtgamjhpebmmjcaaGreatDoor
set_option maxRecDepth 100000
set_option maxHeartbeats 40000000
open Go.RowKit Flt
attribute [local go_sem] alloc_drewN setCell_drewN run_store_float
def placeB (op:Int):Bool:=decide (op=11∨op=12)
theorem hasPlace (op:Int)(w:World):Calls Tryz.prog 138 #[.int .i64 op] w fun e w'=>e=.returned (.bool (placeB op))∧w'=w:=by
 by_cases h1:op=11
 ·subst h1
  go_enter Tryz.func138,Tryz.ntmps138
  go_wp2
  go_ret
  exact⟨rfl,rfl⟩
 ·by_cases h2:op=12
  ·subst h2
   go_enter Tryz.func138,Tryz.ntmps138
   go_wp2
   go_ret
   exact⟨rfl,rfl⟩
  ·rw[show placeB op=false from decide_eq_false (by omega)]
   have t1:(op==11)=false:=beq_eq_false_iff_ne.2 h1
   have t2:(op==12)=false:=beq_eq_false_iff_ne.2 h2
   clear h1 h2
   go_enter Tryz.func138,Tryz.ntmps138
   go_wp2
   go_ret
   exact⟨rfl,rfl⟩
def spareB (v:Vl):Bool:=!(((decide (cnt v.op<1)&&v.op !=0)&&v.a !=0)||(decide (cnt v.op<2)&&v.b !=0)||((decide (cnt v.op<3)&&!placeB v.op)&&v.c !=0))
theorem spare_any (w:World)(op len A B C:Int)(K n:Nat)(hn:n≤3)(p:Bool)(HC:Hid (∀w,Calls Tryz.prog 75 #[.int .i64 op] w fun e w'=>e=.returned (.int .i64 (n:Nat))∧w'=w))
  (HP:Hid (∀w,Calls Tryz.prog 138 #[.int .i64 op] w fun e w'=>e=.returned (.bool p)∧w'=w)):
  Calls Tryz.prog 100 #[vagg op len A B C K] w fun e w'=>e=.returned (.bool (!(((decide (n<1)&&op !=0)&&A !=0)||(decide (n<2)&&B !=0)||((decide (n<3)&&!p)&&C !=0))))∧Kept 0 0 w w':=by
 rcases (by omega:n=0∨n=1∨n=2∨n=3) with rfl|rfl|rfl|rfl
 all_goals
  go_enter Tryz.func100,Tryz.ntmps100
  go_wp2_with (first|(go_at_call 75;refine(HC.out _).mono ?_;rintro e w2 ⟨rfl,rfl⟩)|(go_at_call 138;refine(HP.out _).mono ?_;rintro e w2 ⟨rfl,rfl⟩))
  all_goals
   go_ret
   exact⟨by simp_all,kept_alloc _ _ _ _⟩
theorem spareFields (w:World)(v:Vl):Calls Tryz.prog 100 #[v.agg] w fun e w'=>e=.returned (.bool (spareB v))∧Kept 0 0 w w':=
 spare_any w v.op v.len v.a v.b v.c v.k (cnt v.op) (cnt_le _) (placeB v.op) (fun w=>opCount _ w) (fun w=>hasPlace _ w)
def opsOf (v:Vl):List Int:=[v.a,v.b,v.c].take (cnt v.op)
theorem opsOf_len (v:Vl):(opsOf v).length=cnt v.op:=by
 have:=cnt_le v.op
 simp[opsOf];omega
theorem operandsOf (w:World)(v:Vl):Calls Tryz.prog 74 #[v.agg] w fun e w'=>∃g,e=.returned (.slice (some ⟨g,0,none⟩) (cnt v.op) 3)∧IS w' w.heap.size w'.heap.size (some ⟨g,0,none⟩) (cnt v.op) (opsOf v)∧g+1=w'.heap.size∧Kept 0 0 w w':=by
 have hcnt:=cnt_le v.op
 have hI:Hid _:=(lens_is (w.alloc (vbox v.op v.len v.a v.b v.c v.k)) v.a v.b v.c).prefix (cnt v.op) hcnt
 have HC:Hid (∀w,Calls Tryz.prog 75 #[.int .i64 v.op] w fun e w'=>e=.returned (.int .i64 (cnt v.op:Nat))∧w'=w):=opCount v.op
 generalize hq:cnt v.op=q at hI HC hcnt
 have b0:(0:Int)≤(q:Int):=by omega
 have b1:(q:Int)≤3:=by omega
 go_enter Tryz.func74,Tryz.ntmps74
 go_wp2_with fail
 go_region_held3 (fun w'=>w'.cell? ⟨w.heap.size,0,none⟩=some (.int .i64 v.op)∧w'.cell? ⟨w.heap.size,2,none⟩=some (.int .i64 v.a)∧w'.cell? ⟨w.heap.size,3,none⟩=some (.int .i64 v.b)∧w'.cell? ⟨w.heap.size,4,none⟩=some (.int .i64 v.c)) (go_keep)
  ((go_at_call 75;refine(HC.out _).mono ?_;rintro e w2 ⟨rfl,rfl⟩))
 all_goals
  go_wp2
  go_ret
  have h1:(w.alloc (vbox v.op v.len v.a v.b v.c v.k)).heap.size=w.heap.size+1:=by simp
  have hI':=hI.out
  rw[h1] at hI'
  refine⟨w.heap.size+1,rfl,⟨hI'.len.trans rfl |> fun e=>by rw[opsOf,hq];exact e,?_⟩,?_,?_⟩
  ·rcases hI'.at_ with h0|⟨g,off,e,a1,a2,a3,a4⟩
   ·exact .inl h0
   ·cases e
    refine .inr ⟨_,_,rfl,Nat.le_succ _,?_,?_,fun k hk=>?_⟩
    ·exact a3
    ·exact a3
    ·rw[opsOf,hq];exact a4 k hk
  ·show w.heap.size+1+1=((w.alloc _).alloc _).heap.size
   simp
  ·exact((kept_alloc 0 0 w _).trans (kept_alloc 0 0 _ _)).trans (kept_drewN 0 0 _ 1)
end Go.Proofs.YtgamjhpebmmjcaaGreatDoor
namespace Go.Proofs.YtgamjhpebmmjcaaGreatDoor
set_option maxRecDepth 100000
set_option maxHeartbeats 40000000
open Go.RowKit Flt
attribute [local go_sem] alloc_drewN setCell_drewN run_store_float
def okV (ins:List Int)(vs:List Vl)(i:Nat):Bool:=
 (lenB (vs.getD i Vl.zero).len&&spareB (vs.getD i Vl.zero))&&
  (if (vs.getD i Vl.zero).op=0 then idxB (vs.getD i Vl.zero).a ins.length&&(vs.getD i Vl.zero).len==ins.getD (vs.getD i Vl.zero).a.toNat 0
   else (opsOf (vs.getD i Vl.zero)).all (idxB · i)&&shapeB (vs.getD i Vl.zero).op (vs.getD i Vl.zero).len (vs.getD i Vl.zero).c ((opsOf (vs.getD i Vl.zero)).map fun o=>(vs.getD o.toNat Vl.zero).len))
abbrev gbox (a1:Option Addr)(n1 c1:Nat)(a2:Option Addr)(n2 c2:Nat)(a3:Option Addr)(n3 c3:Nat):Obj:=.cells #[.slice a1 n1 c1,.slice a2 n2 c2,.slice a3 n3 c3] 59
theorem validVal_short (w:World)(a1 a3:Option Addr)(n1 c1 n2 c2 n3 c3 g2 o2 i:Nat)(v:Vl)(hg:g2<w.heap.size)(hi:i<n2)(hat:At w g2 (o2+i*6) v)(hl:lenB v.len=false):
  Calls Tryz.prog 63 #[gagg a1 n1 c1 (some ⟨g2,o2,none⟩) n2 c2 a3 n3 c3,.int .i64 (i:Int)] w fun e w'=>e=.returned (.bool false)∧Kept 0 0 w w':=by
 have hL:Hid (∀w,Calls Tryz.prog 62 #[.int .i64 v.len] w fun e w'=>e=.returned (.bool false)∧w'=w):=fun w=>by
  have:=isLength_any v.len w
  rw[hl] at this
  exact this
 clear hl
 have hK:=kept_alloc 0 0 w (gbox a1 n1 c1 (some ⟨g2,o2,none⟩) n2 c2 a3 n3 c3)
 obtain⟨e0,e1,e2,e3,e4,e5⟩:=hat.keep hg hK (.inr (.inr (Nat.le_refl _)))
 clear hat hK
 go_enter Tryz.func63,Tryz.ntmps63
 go_wp2_with (go_at_call 62;refine(hL.out _).mono ?_;rintro e w2 ⟨rfl,rfl⟩)
 go_ret
 exact⟨rfl,(kept_alloc 0 0 w _).trans (kept_alloc 0 0 _ _)⟩
theorem validVal_spare (w:World)(a1 a3:Option Addr)(n1 c1 n2 c2 n3 c3 g2 o2 i:Nat)(v:Vl)(hg:g2<w.heap.size)(hi:i<n2)(hat:At w g2 (o2+i*6) v)(hl:lenB v.len=true)(hs:spareB v=false):
  Calls Tryz.prog 63 #[gagg a1 n1 c1 (some ⟨g2,o2,none⟩) n2 c2 a3 n3 c3,.int .i64 (i:Int)] w fun e w'=>e=.returned (.bool false)∧Kept 0 0 w w':=by
 have hL:Hid (∀w,Calls Tryz.prog 62 #[.int .i64 v.len] w fun e w'=>e=.returned (.bool true)∧w'=w):=fun w=>by
  have:=isLength_any v.len w
  rw[hl] at this
  exact this
 have hS:Hid (∀w,Calls Tryz.prog 100 #[v.agg] w fun e w'=>e=.returned (.bool false)∧Kept 0 0 w w'):=fun w=>by
  have:=spareFields w v
  rw[hs] at this
  exact this
 clear hl hs
 have hK:=kept_alloc 0 0 w (gbox a1 n1 c1 (some ⟨g2,o2,none⟩) n2 c2 a3 n3 c3)
 obtain⟨e0,e1,e2,e3,e4,e5⟩:=hat.keep hg hK (.inr (.inr (Nat.le_refl _)))
 clear hat hK
 go_enter Tryz.func63,Tryz.ntmps63
 go_wp2_with (first|(go_at_call 62;refine(hL.out _).mono ?_;rintro e w2 ⟨rfl,rfl⟩)|(go_at_call 100;refine(hS.out _).mono ?_;rintro e w2 ⟨rfl,hk2⟩))
 go_ret
 exact⟨rfl,((kept_alloc 0 0 w _).trans (kept_alloc 0 0 _ _)).trans hk2⟩
structure GB (W:World)(p:Nat)(b0 b1 b2:Value)(v:Vl):Prop where
 sz:p+1<W.heap.size
 q0:W.cell? ⟨p,0,none⟩=some b0
 q1:W.cell? ⟨p,1,none⟩=some b1
 q2:W.cell? ⟨p,2,none⟩=some b2
 vt:At W (p+1) 0 v
theorem GB.keep {W W':World}{p:Nat}{b0 b1 b2:Value}{v:Vl}(t:GB W p b0 b1 b2 v)(k:Kept 0 0 W W'):GB W' p b0 b1 b2 v:=by
 have e:∀g o,g≤p+1→W'.cell? ⟨g,o,none⟩=W.cell? ⟨g,o,none⟩:=fun g o h=>k.cell (p:=⟨g,o,none⟩) (Nat.lt_of_le_of_lt h t.sz) (by omega)
 exact⟨Nat.lt_of_lt_of_le t.sz k.size,by rw[e _ _ (by omega)];exact t.q0,by rw[e _ _ (by omega)];exact t.q1,by rw[e _ _ (by omega)];exact t.q2,t.vt.keep t.sz k (.inr (.inr (Nat.le_refl _)))⟩
theorem gb_start (w:World)(b0 b1 b2:Value)(v:Vl):GB ((w.alloc (.cells #[b0,b1,b2] 59)).alloc (vbox v.op v.len v.a v.b v.c v.k)) w.heap.size b0 b1 b2 v:=by
 have h1:(w.alloc (.cells #[b0,b1,b2] 59)).heap.size=w.heap.size+1:=by simp
 refine⟨?_,?_,?_,?_,?_,?_,?_,?_,?_,?_⟩
 all_goals first|(go_simp;done)|(simp;done)
theorem validVal_input (w:World)(a1 a3:Option Addr)(n1 c1 n2 c2 n3 c3 g2 o2 i:Nat)(len A B C:Int)(K:Nat)(ins:List Int)(f:IS w 0 w.heap.size a1 n1 ins)(hg:g2<w.heap.size)(hi:i<n2)(hat:At w g2 (o2+i*6) ⟨0,len,A,B,C,K⟩)(hl:lenB len=true)(hs:spareB ⟨0,len,A,B,C,K⟩=true):
  Calls Tryz.prog 63 #[gagg a1 n1 c1 (some ⟨g2,o2,none⟩) n2 c2 a3 n3 c3,.int .i64 (i:Int)] w fun e w'=>e=.returned (.bool (idxB A n1&&len==ins.getD A.toNat 0))∧Kept 0 0 w w':=by
 have hL:Hid (∀w,Calls Tryz.prog 62 #[.int .i64 len] w fun e w'=>e=.returned (.bool true)∧w'=w):=fun w=>by
  have:=isLength_any len w
  rw[hl] at this
  exact this
 have hS:Hid (∀w,Calls Tryz.prog 100 #[vagg 0 len A B C K] w fun e w'=>e=.returned (.bool true)∧Kept 0 0 w w'):=fun w=>by
  have:=spareFields w ⟨0,len,A,B,C,K⟩
  rw[hs] at this
  exact this
 clear hl hs
 have hK:=kept_alloc 0 0 w (gbox a1 n1 c1 (some ⟨g2,o2,none⟩) n2 c2 a3 n3 c3)
 obtain⟨e0,e1,e2,e3,e4,e5⟩:=hat.keep hg hK (.inr (.inr (Nat.le_refl _)))
 have hK2:Hid _:=hK.trans (kept_alloc 0 0 _ (vbox 0 len A B C K))
 have hB:Hid _:=gb_start w (.slice a1 n1 c1) (.slice (some ⟨g2,o2,none⟩) n2 c2) (.slice a3 n3 c3) ⟨0,len,A,B,C,K⟩
 clear hat hK
 simp only at e0 e1 e2 e3 e4 e5
 by_cases hA:0≤A∧A<n1
 ·obtain⟨j,rfl⟩:∃j:Nat,A=j:=⟨A.toNat,by omega⟩
  rw[show idxB (j:Int) n1=true from decide_eq_true hA,Bool.true_and,Int.toNat_natCast]
  have hj:j<n1:=by omega
  have hI:Hid (∀w,Calls Tryz.prog 22 #[.int .i64 (j:Int),.int .i64 (n1:Int)] w fun e w'=>e=.returned (.bool true)∧w'=w):=fun w=>by
   have:=isIndex_any (j:Int) n1 w
   rw[show idxB (j:Int) n1=true from decide_eq_true hA] at this
   exact this
  clear hA
  rcases f.at_ with h0|⟨g1,o1,rfl,b1,b2,b3,b4⟩
  ·omega
  have c0:=b4 j hj
  clear b4 f b1 b2
  generalize ins.getD j 0=y at c0 ⊢
  go_enter Tryz.func63,Tryz.ntmps63
  go_wp2_with (first|(go_at_call 62;refine(hL.out _).mono ?_;rintro e w2 ⟨rfl,rfl⟩)|fail)
  refine(hS.out _).mono ?_
  rintro e w3 ⟨rfl,hk3⟩
  have hK3:=hK2.out.trans hk3
  have hB3:=hB.out.keep hk3
  have q0:=hB3.q0
  have d0:=hB3.vt.c0
  have d1:=hB3.vt.c1
  have d2:=hB3.vt.c2
  have c1:=kcell hK3 b3 c0
  have HK3:Hid _:=hK3
  simp only at d0 d1 d2
  clear hK3 hB3 hk3 c0 e0 e1 e2 e3 e4 e5
  have j0:(0:Int)≤(j:Int):=by omega
  have j1:(j:Int)<(n1:Int):=by omega
  go_wp2_with fail
  go_quiet ((go_at_call 22;exact Calls.quiet_of_same (hI.out _)))
  go_wp2
  go_ret
  exact⟨rfl,HK3.out.trans (kept_drewN 0 0 _ _)⟩
 ·rw[show idxB A n1=false from decide_eq_false hA,Bool.false_and]
  have hI:Hid (∀w,Calls Tryz.prog 22 #[.int .i64 A,.int .i64 (n1:Int)] w fun e w'=>e=.returned (.bool false)∧w'=w):=fun w=>by
   have:=isIndex_any A n1 w
   rw[show idxB A n1=false from decide_eq_false hA] at this
   exact this
  clear hA
  go_enter Tryz.func63,Tryz.ntmps63
  go_wp2_with (first|(go_at_call 62;refine(hL.out _).mono ?_;rintro e w2 ⟨rfl,rfl⟩)|fail)
  refine(hS.out _).mono ?_
  rintro e w3 ⟨rfl,hk3⟩
  have hK3:=hK2.out.trans hk3
  have hB3:=hB.out.keep hk3
  have q0:=hB3.q0
  have d0:=hB3.vt.c0
  have d1:=hB3.vt.c1
  have d2:=hB3.vt.c2
  have HK3:Hid _:=hK3
  simp only at d0 d1 d2
  clear hK3 hB3 hk3 e0 e1 e2 e3 e4 e5
  go_wp2_with fail
  go_quiet ((go_at_call 22;exact Calls.quiet_of_same (hI.out _)))
  go_wp2
  go_ret
  exact⟨rfl,HK3.out.trans (kept_drewN 0 0 _ _)⟩
theorem allI_snoc {xs:List Int}{p:Int→Bool}{k:Nat}(hk:k<xs.length)(h:(xs.take k).all p=true)(t:p (xs.getD k 0)=true):(xs.take (k+1)).all p=true:=by
 rw[List.take_succ_eq_append_getElem hk,List.all_append,h]
 rw[List.getD_eq_getElem?_getD,List.getElem?_eq_getElem hk] at t
 simpa using t
theorem allI_bad {xs:List Int}{p:Int→Bool}{k:Nat}(hk:k<xs.length)(t:p (xs.getD k 0)=false):xs.all p=false:=by
 rw[List.getD_eq_getElem?_getD,List.getElem?_eq_getElem hk] at t
 rw[List.all_eq_false]
 exact⟨xs[k],List.getElem_mem _,by simpa using t⟩
theorem mapI_getD {xs:List Int}{f:Int→Int}{k:Nat}(hk:k<xs.length):(xs.map f).getD k 0=f (xs.getD k 0):=by
 simp[List.getD_eq_getElem?_getD,List.getElem?_eq_getElem hk]
theorem validVal_ops (w:World)(a1 a3:Option Addr)(n1 c1 n2 c2 n3 c3 g2 o2 i:Nat)(v:Vl)(vs:List Vl)(hg:g2<w.heap.size)(hi:i<n2)
  (hall:∀k,k<n2→At w g2 (o2+k*6) (vs.getD k Vl.zero)) (hv:vs.getD i Vl.zero=v) (hl:lenB v.len=true) (hs:spareB v=true) (h0:v.op≠0):
  Calls Tryz.prog 63 #[gagg a1 n1 c1 (some ⟨g2,o2,none⟩) n2 c2 a3 n3 c3,.int .i64 (i:Int)] w fun e w'=>e=.returned (.bool ((opsOf v).all (idxB · i)&&shapeB v.op v.len v.c ((opsOf v).map fun o=>(vs.getD o.toNat Vl.zero).len)))∧Kept 0 0 w w':=by
 have hL:Hid (∀w,Calls Tryz.prog 62 #[.int .i64 v.len] w fun e w'=>e=.returned (.bool true)∧w'=w):=fun w=>by
  have:=isLength_any v.len w
  rw[hl] at this
  exact this
 have hS:Hid (∀w,Calls Tryz.prog 100 #[v.agg] w fun e w'=>e=.returned (.bool true)∧Kept 0 0 w w'):=fun w=>by
  have:=spareFields w v
  rw[hs] at this
  exact this
 clear hl hs
 have hK:=kept_alloc 0 0 w (gbox a1 n1 c1 (some ⟨g2,o2,none⟩) n2 c2 a3 n3 c3)
 have hat:=hall i hi
 rw[hv] at hat
 have HA:Hid (∀k,k<n2→At w g2 (o2+k*6) (vs.getD k Vl.zero)):=hall
 clear hall hv
 obtain⟨e0,e1,e2,e3,e4,e5⟩:=hat.keep hg hK (.inr (.inr (Nat.le_refl _)))
 have hK2:Hid _:=hK.trans (kept_alloc 0 0 _ (vbox v.op v.len v.a v.b v.c v.k))
 have hB:Hid _:=gb_start w (.slice a1 n1 c1) (.slice (some ⟨g2,o2,none⟩) n2 c2) (.slice a3 n3 c3) v
 clear hat hK
 have t0:(v.op==0)=false:=beq_eq_false_iff_ne.2 h0
 clear h0
 go_enter Tryz.func63,Tryz.ntmps63
 go_wp2_with (first|(go_at_call 62;refine(hL.out _).mono ?_;rintro e w2 ⟨rfl,rfl⟩)|fail)
 refine(hS.out _).mono ?_
 rintro e w3 ⟨rfl,hk3⟩
 have hK3:=hK2.out.trans hk3
 have hB3:=hB.out.keep hk3
 obtain⟨d0,d1,d2,d3,d4,d5⟩:=hB3.vt
 have HK3:Hid _:=hK3
 have HB3:Hid _:=hB3
 clear hK3 hB3 hk3 hB hK2 e0 e1 e2 e3 e4 e5
 simp only[Nat.zero_add] at d1 d2 d3 d4 d5
 go_wp2_with fail
 refine(operandsOf _ v).mono ?_
 rintro e w4 ⟨G,rfl,fo,hG,hk4⟩
 have HK4:Hid _:=HK3.out.trans hk4
 have HB4:Hid _:=HB3.out.keep hk4
 have HG:Hid (G+1=w4.heap.size):=hG
 clear HK3 HB3 hk4 d0 d1 d2 d3 d4 d5 hG
 have hq:cnt v.op≤3:=cnt_le _
 have hm:=make_i (cnt v.op) w4 (by omega)
 have hIR:=IR.made w4 (cnt v.op)
 have hKm:=kept_alloc 0 0 w4 (.cells (madeCells #[.int .i64 0] (cnt v.op)) 3)
 have HOL:Hid ((opsOf v).length=cnt v.op):=opsOf_len v
 have HF:Hid (∀W a cap xs,IS W 0 W.heap.size a (cnt v.op) xs→Calls Tryz.prog 101 #[v.agg,.slice a (cnt v.op) cap] W fun e w'=>e=.returned (.bool (shapeB v.op v.len v.c xs))∧Kept 0 0 W w'):=fun W a cap xs f=>shapeFits W v.op v.len v.a v.b v.c v.k 0 W.heap.size a (cnt v.op) cap xs f rfl
 generalize cnt v.op=q at hq hm hIR hKm HOL HF fo
 generalize hos:opsOf v=os at HOL fo
 have HOS:Hid (opsOf v=os):=hos
 clear hos
 generalize hw5:w4.alloc (.cells (madeCells #[.int .i64 0] q) 3)=w5 at hm hIR hKm
 clear hw5
 go_wp2_with fail
 clear hm
 have hLq:Hid ((os.map fun o:Int=>(vs.getD o.toNat Vl.zero).len).length=q):=by show(os.map _).length=q;rw[List.length_map];exact HOL.out
 have HMP:Hid (∀k,k<q→(os.map fun o:Int=>(vs.getD o.toNat Vl.zero).len).getD k 0=(vs.getD (os.getD k 0).toNat Vl.zero).len):=fun k hk=>mapI_getD (by rw[HOL.out];exact hk)
 have fo':Hid _:=fo
 go_loopw [51] (fun ix W=>∃k:Nat,k≤q∧ix=.int .i64 k∧Hid ((os.take k).all (idxB · i)=true)∧IR W w4.heap.size ((os.map fun o:Int=>(vs.getD o.toNat Vl.zero).len).take k++(List.replicate q 0).drop k)∧Kept 0 0 w4 W) (fun ix _=>q-(intOf ix).toNat)
 case atStart=>exact⟨0,Nat.zero_le _,rfl,rfl,by simpa using hIR,hKm⟩
 case round=>
  obtain⟨k,hk,rfl,hA,hF,hKW⟩:=hrel
  clear hIR hKm
  by_cases hlt:k<q
  ·rcases fo.at_ with z0|⟨ga,oa,ea,z1,z2,z3,z4⟩
   ·omega
   cases ea
   have c1:=kcell hKW z3 (z4 k hlt)
   rw[Nat.zero_add] at c1
   clear z4 z1 z2 z3 fo
   by_cases hx:idxB (os.getD k 0) i=true
   ·have hx':=of_decide_eq_true hx
    obtain⟨j,hj⟩:∃j:Nat,os.getD k 0=j:=⟨(os.getD k 0).toNat,by omega⟩
    have hA':Hid _:=allI_snoc (p:=(idxB · i)) (by rw[HOL.out];exact hlt) hA.out hx
    have hML:=HMP.out k hlt
    rw[hj] at c1 hx hx' hML
    rw[Int.toNat_natCast] at hML
    have hji:j<i:=by omega
    have hI:Hid (∀w,Calls Tryz.prog 22 #[.int .i64 (j:Int),.int .i64 (i:Int)] w fun e w'=>e=.returned (.bool true)∧w'=w):=fun w=>by
     have:=isIndex_any (j:Int) i w
     rw[hx] at this
     exact this
    have u:=(kcell (HK4.out.trans hKW) hg (HA.out j (by omega)).c1)
    have q1:=(HB4.out.keep hKW).q1
    have s1:=hF.free k
    have hll:((os.map fun o:Int=>(vs.getD o.toNat Vl.zero).len).take k++(List.replicate q 0).drop k).length=q:=by rw[List.length_append,List.length_take,List.length_drop,hLq.out,List.length_replicate];omega
    have s2:=hF.cell k (by omega)
    rw[←hML] at u
    have R1:Hid _:=hF.set k ((os.map fun o:Int=>(vs.getD o.toNat Vl.zero).len).getD k 0)
    have R2:Hid _:=hKW.new (kept_setCell (lo:=w4.heap.size) (hi:=w4.heap.size+1) wr ⟨w4.heap.size,k,none⟩ (.int .i64 ((os.map fun o:Int=>(vs.getD o.toNat Vl.zero).len).getD k 0)) (.inl ⟨Nat.le_refl _,Nat.lt_succ_self _⟩)) (Nat.le_refl _)
    have R3:Hid _:=set_takeI (os.map fun o:Int=>(vs.getD o.toNat Vl.zero).len) (List.replicate q 0) k (by rw[hLq.out];exact hlt) (by rw[hLq.out];simp)
    generalize (os.map fun o:Int=>(vs.getD o.toNat Vl.zero).len).getD k 0=y at u R1 R2 R3
    clear hML hF hKW hll hx hx' hj hA
    go_wp2_with ((go_at_call 22;refine(hI.out _).mono ?_;rintro e w2 ⟨rfl,rfl⟩))
    go_roundw
    case rel=>
     refine⟨k+1,by omega,by go_num,hA',?_,R2.out⟩
     have:=R1.out
     rw[R3.out] at this
     exact this
    case measure=>simp[intOf];omega
   ·have hx':idxB (os.getD k 0) i=false:=by simpa using hx
    have R:Hid (os.all (idxB · i)=false):=allI_bad (by rw[HOL.out];exact hlt) hx'
    have hI:Hid (∀w,Calls Tryz.prog 22 #[.int .i64 (os.getD k 0),.int .i64 (i:Int)] w fun e w'=>e=.returned (.bool false)∧w'=w):=fun w=>by
     have:=isIndex_any (os.getD k 0) i w
     rw[hx'] at this
     exact this
    have R2:Hid _:=HK4.out.trans hKW
    clear hx hx' hKW hF hA
    go_wp2_with ((go_at_call 22;refine(hI.out _).mono ?_;rintro e w2 ⟨rfl,rfl⟩))
    go_ret
    exact⟨by rw[HOS.out,R.out];rfl,R2.out⟩
  ·obtain rfl:k=q:=by omega
   have R:Hid (os.all (idxB · i)=true):=by
    have:=hA.out
    rw[List.take_of_length_le (by rw[HOL.out];omega)] at this
    exact this
   have hF2:IR wr w4.heap.size (os.map fun o:Int=>(vs.getD o.toNat Vl.zero).len):=by
    rw[List.take_of_length_le (by rw[hLq.out];omega),List.drop_of_length_le (by simp),List.append_nil] at hF
    exact hF
   have hI:=hF2.is
   rw[hLq.out] at hI
   have hC:Hid _:=fun cap=>HF.out wr _ cap _ hI
   have R2:Hid _:=HK4.out.trans hKW
   obtain⟨d0,d1,d2,d3,d4,d5⟩:=(HB4.out.keep hKW).vt
   simp only[Nat.zero_add] at d1 d2 d3 d4 d5
   clear hI hF2 hF hA hKW fo
   go_wp2_with fail
   refine(hC.out _).mono ?_
   rintro e w9 ⟨rfl,hk9⟩
   have R3:Hid _:=R2.out.trans hk9
   clear hk9 d0 d1 d2 d3 d4 d5
   go_wp2
   go_ret
   exact⟨by rw[HOS.out,R.out];rfl,R3.out⟩
theorem validVal (w:World)(a1 a2 a3:Option Addr)(n1 c1 n2 c2 n3 c3 i:Nat)(ins:List Int)(vs:List Vl)(outs:List Int)(f:GS w a1 n1 a2 n2 a3 n3 ins vs outs)(hi:i<n2):
  Calls Tryz.prog 63 #[gagg a1 n1 c1 a2 n2 c2 a3 n3 c3,.int .i64 (i:Int)] w fun e w'=>e=.returned (.bool (okV ins vs i))∧Kept 0 0 w w':=by
 rcases f.v.at_ with h0|⟨g2,o2,rfl,b1,b2,b3,b4⟩
 ·omega
 have hat:=b4 i hi
 unfold okV
 generalize hv:vs.getD i Vl.zero=v at hat
 cases hl:lenB v.len
 ·exact validVal_short w a1 a3 n1 c1 n2 c2 n3 c3 g2 o2 i v b3 hi hat hl
 cases hs:spareB v
 ·exact validVal_spare w a1 a3 n1 c1 n2 c2 n3 c3 g2 o2 i v b3 hi hat hl hs
 by_cases h0:v.op=0
 ·rw[if_pos h0,f.i.len]
  obtain⟨op,len,A,B,C,K⟩:=v
  simp only at h0
  subst h0
  exact validVal_input w a1 a3 n1 c1 n2 c2 n3 c3 g2 o2 i len A B C K ins f.i b3 hi hat hl hs
 ·rw[if_neg h0]
  exact validVal_ops w a1 a3 n1 c1 n2 c2 n3 c3 g2 o2 i v vs b3 hi b4 hv hl hs h0
end Go.Proofs.YtgamjhpebmmjcaaGreatDoor
namespace Go.Proofs.YtgamjhpebmmjcaaGreatDoor
set_option maxRecDepth 100000
set_option maxHeartbeats 40000000
open Go.RowKit Flt
attribute [local go_sem] alloc_drewN setCell_drewN run_store_float
def cellsV:List Vl→Int
 |[]=>0
 |v::vs=>v.len+cellsV vs
def okG (ins:List Int)(vs:List Vl)(outs:List Int):Bool:=
 decide (ins.length≤20∧vs.length≤2000∧outs.length≤50)&&(ins.all lenB&&((List.range vs.length).all (okV ins vs)&&(outs.all (idxB · vs.length)&&decide (cellsV vs≤50000))))
theorem cellsV_append (xs:List Vl)(v:Vl):cellsV (xs++[v])=cellsV xs+v.len:=by
 induction xs with
 |nil=>simp[cellsV]
 |cons y ys ih=>simp[cellsV,ih];omega
theorem cellsV_take {vs:List Vl}{k:Nat}(hk:k<vs.length):cellsV (vs.take (k+1))=cellsV (vs.take k)+(vs.getD k Vl.zero).len:=by
 rw[List.take_succ_eq_append_getElem hk,cellsV_append,List.getD_eq_getElem?_getD,List.getElem?_eq_getElem hk];rfl
theorem range_snoc {p:Nat→Bool}{k:Nat}(h:(List.range k).all p=true)(t:p k=true):(List.range (k+1)).all p=true:=by
 rw[List.range_succ,List.all_append,h];simpa using t
theorem range_bad {p:Nat→Bool}{k n:Nat}(hk:k<n)(t:p k=false):(List.range n).all p=false:=by
 rw[List.all_eq_false]
 exact⟨k,List.mem_range.2 hk,by simpa using t⟩
theorem okV_len {ins:List Int}{vs:List Vl}{i:Nat}(h:okV ins vs i=true):1≤(vs.getD i Vl.zero).len∧(vs.getD i Vl.zero).len≤1000:=by
 unfold okV at h
 rw[Bool.and_eq_true,Bool.and_eq_true] at h
 exact of_decide_eq_true h.1.1
structure G0 (W:World)(p:Nat)(b0 b1 b2:Value):Prop where
 sz:p<W.heap.size
 q0:W.cell? ⟨p,0,none⟩=some b0
 q1:W.cell? ⟨p,1,none⟩=some b1
 q2:W.cell? ⟨p,2,none⟩=some b2
theorem G0.keep {W W':World}{p:Nat}{b0 b1 b2:Value}(t:G0 W p b0 b1 b2)(k:Kept 0 0 W W'):G0 W' p b0 b1 b2:=
 ⟨Nat.lt_of_lt_of_le t.sz k.size,kcell k t.sz t.q0,kcell k t.sz t.q1,kcell k t.sz t.q2⟩
theorem g0_start (w:World)(b0 b1 b2:Value):G0 (w.alloc (.cells #[b0,b1,b2] 59)) w.heap.size b0 b1 b2:=by
 refine⟨?_,?_,?_,?_⟩
 all_goals first|(go_simp;done)|(simp;done)
theorem implValid_in (w:World)(a1 a2 a3:Option Addr)(n1 c1 n2 c2 n3 c3:Nat)(ins:List Int)(vs:List Vl)(outs:List Int)(f:GS w a1 n1 a2 n2 a3 n3 ins vs outs)(h1:n1≤20)(h2:n2≤2000)(h3:n3≤50):
  Calls Tryz.prog 36 #[gagg a1 n1 c1 a2 n2 c2 a3 n3 c3] w fun e w'=>e=.returned (.bool (ins.all lenB&&((List.range n2).all (okV ins vs)&&(outs.all (idxB · n2)&&decide (cellsV vs≤50000)))))∧Kept 0 0 w w':=by
 have hK:Hid _:=kept_alloc 0 0 w (gbox a1 n1 c1 a2 n2 c2 a3 n3 c3)
 have hB:=g0_start w (.slice a1 n1 c1) (.slice a2 n2 c2) (.slice a3 n3 c3)
 have HF:Hid _:=f.keep hK.out
 have HL1:Hid (ins.length=n1):=f.i.len
 have HL2:Hid (vs.length=n2):=f.v.len
 have HL3:Hid (outs.length=n3):=f.o.len
 clear f
 go_enter Tryz.func36,Tryz.ntmps36
 go_wp2_with fail
 generalize hw1:w.alloc (.cells #[.slice a1 n1 c1,.slice a2 n2 c2,.slice a3 n3 c3] 59)=w1 at hK hB HF ⊢
 clear hw1
 go_loop [29] (fun i=>∃k:Nat,k≤n1∧i=.int .i64 k∧Hid ((ins.take k).all lenB=true)) (fun i=>n1-(intOf i).toNat)
 case atStart=>exact⟨0,Nat.zero_le _,rfl,rfl⟩
 case round=>
  obtain⟨k,hk,rfl,hA⟩:=hrel
  by_cases hlt:k<n1
  ·rcases HF.out.i.at_ with z0|⟨ga,oa,ea,z1,z2,z3,z4⟩
   ·omega
   have c:=z4 k hlt
   subst ea
   clear z1 z2 z3 z4
   cases hx:lenB (ins.getD k 0)
   ·have R:Hid (ins.all lenB=false):=allI_bad (by rw[HL1.out];exact hlt) hx
    have hI:Hid (∀w,Calls Tryz.prog 62 #[.int .i64 (ins.getD k 0)] w fun e w'=>e=.returned (.bool false)∧w'=w):=fun w=>by
     have:=isLength_any (ins.getD k 0) w
     rw[hx] at this
     exact this
    generalize ins.getD k 0=y at c hI
    clear hx hA
    go_wp2_with ((go_at_call 62;refine(hI.out _).mono ?_;rintro e w2 ⟨rfl,rfl⟩))
    go_ret
    exact⟨by rw[R.out];rfl,hK.out⟩
   ·have R:Hid _:=allI_snoc (p:=lenB) (by rw[HL1.out];exact hlt) hA.out hx
    have hI:Hid (∀w,Calls Tryz.prog 62 #[.int .i64 (ins.getD k 0)] w fun e w'=>e=.returned (.bool true)∧w'=w):=fun w=>by
     have:=isLength_any (ins.getD k 0) w
     rw[hx] at this
     exact this
    generalize ins.getD k 0=y at c hI
    clear hx hA
    go_wp2_with ((go_at_call 62;refine(hI.out _).mono ?_;rintro e w2 ⟨rfl,rfl⟩))
    go_round
    case rel=>exact⟨k+1,by omega,by go_num,R⟩
    case measure=>simp[intOf];omega
  ·have R1:Hid (ins.all lenB=true):=by
    have:=hA.out
    rw[List.take_of_length_le (by rw[HL1.out];omega)] at this
    exact this
   clear hA
   have q1:=hB.q1
   go_wp2_with fail
   clear q1
   go_loopw [5,40] (fun c i W=>∃k:Nat,k≤n2∧i=.int .i64 k∧c=.int .i64 (cellsV (vs.take k))∧Hid (0≤cellsV (vs.take k)∧cellsV (vs.take k)≤1000*k)∧Hid ((List.range k).all (okV ins vs)=true)∧Kept 0 0 w1 W) (fun _ i _=>n2-(intOf i).toNat)
   case atStart=>exact⟨0,Nat.zero_le _,rfl,rfl,by constructor<;>simp[cellsV],rfl,Kept.refl _ _ _⟩
   case round=>
    obtain⟨k2,hk2,rfl,rfl,hb,hA,hKW⟩:=hrel
    by_cases hlt2:k2<n2
    ·rcases HF.out.v.at_ with z0|⟨ga,oa,ea,z1,z2,z3,z4⟩
     ·omega
     have hat:=(z4 k2 hlt2).keep z3 hKW (.inr (.inr (Nat.le_refl _)))
     have HX:Hid _:=fun o=>validVal (wr.alloc o) a1 a2 a3 n1 c1 n2 c2 n3 c3 k2 ins vs outs (HF.out.keep (hKW.trans (kept_alloc 0 0 wr o))) hlt2
     have HKW:Hid _:=hKW
     have HST:Hid _:=cellsV_take (vs:=vs) (k:=k2) (by rw[HL2.out];exact hlt2)
     clear z1 z2 z3 z4 hKW
     cases hx:okV ins vs k2
     ·have R:Hid ((List.range n2).all (okV ins vs)=false):=range_bad hlt2 hx
      rw[hx] at HX
      generalize vs.getD k2 Vl.zero=v at hat HST
      obtain⟨e0,e1,e2,e3,e4,e5⟩:=hat
      obtain⟨_,q0,q1,q2⟩:=hB.keep (HKW.out.trans (kept_alloc 0 0 wr (vbox v.op v.len v.a v.b v.c v.k)))
      clear hx hA HST
      subst ea
      go_wp2_with ((go_at_call 63;refine(HX.out _).mono ?_;rintro e w2 ⟨rfl,hk9⟩))
      go_ret
      exact⟨by rw[R1.out,R.out];rfl,((hK.out.trans HKW.out).trans (kept_alloc 0 0 _ _)).trans hk9⟩
     ·have R:Hid _:=range_snoc hA.out hx
      have hlv:Hid _:=okV_len hx
      rw[hx] at HX
      generalize vs.getD k2 Vl.zero=v at hat HST hlv
      obtain⟨e0,e1,e2,e3,e4,e5⟩:=hat
      obtain⟨_,q0,q1,q2⟩:=hB.keep (HKW.out.trans (kept_alloc 0 0 wr (vbox v.op v.len v.a v.b v.c v.k)))
      clear hx hA
      subst ea
      go_wp2_with fail
      refine(HX.out _).mono ?_
      rintro e w2 ⟨rfl,hk9⟩
      have hbx:w2.cell? ⟨wr.heap.size,1,none⟩=some (.int .i64 v.len):=kcell hk9 (by simp) (by simp)
      have R2:Hid _:=(HKW.out.trans (kept_alloc 0 0 _ _)).trans hk9
      clear hk9 q0 q1 q2 e0 e1 e2 e3 e4 e5
      have hs1:-1000000000≤cellsV (vs.take k2)+v.len:=by have:=hb.out;have:=hlv.out;omega
      have hs2:cellsV (vs.take k2)+v.len≤1000000000:=by have:=hb.out;have:=hlv.out;omega
      have HH:Hid (0≤cellsV (vs.take (k2+1))∧cellsV (vs.take (k2+1))≤1000*((k2+1:Nat):Int)):=by
       have g1:=hb.out
       have g2:=hlv.out
       have g3:=HST.out
       constructor<;>omega
      generalize hcc:cellsV (vs.take k2)=cc at hs1 hs2 HST
      clear hb hcc
      go_wp2
      go_roundw
      case rel=>exact⟨k2+1,by omega,by go_num,by rw[HST.out],HH,R,R2.out⟩
      case measure=>simp[intOf];omega
    ·have R2:Hid ((List.range n2).all (okV ins vs)=true):=by
      have:=hA.out
      rw[show k2=n2 by omega] at this
      exact this
     have R3:Hid (cellsV (vs.take k2)=cellsV vs):=by
      show cellsV (vs.take k2)=cellsV vs
      rw[List.take_of_length_le (by rw[HL2.out];omega)]
     have hB2:=hB.keep hKW
     have HF2:Hid _:=HF.out.keep hKW
     have HKW:Hid _:=hK.out.trans hKW
     have q1:=hB2.q1
     have q2:=hB2.q2
     clear hA hKW
     go_wp2_with fail
     go_loop [57] (fun i=>∃k:Nat,k≤n3∧i=.int .i64 k∧Hid ((outs.take k).all (idxB · n2)=true)) (fun i=>n3-(intOf i).toNat)
     case atStart=>exact⟨0,Nat.zero_le _,rfl,rfl⟩
     case round=>
      obtain⟨k3,hk3,rfl,hA⟩:=hrel
      by_cases hlt3:k3<n3
      ·rcases HF2.out.o.at_ with z0|⟨ga,oa,ea,z1,z2,z3,z4⟩
       ·omega
       have c:=z4 k3 hlt3
       subst ea
       clear z1 z2 z3 z4
       cases hx:idxB (outs.getD k3 0) n2
       ·have R:Hid (outs.all (idxB · n2)=false):=allI_bad (by rw[HL3.out];exact hlt3) hx
        have hI:Hid (∀w,Calls Tryz.prog 22 #[.int .i64 (outs.getD k3 0),.int .i64 (n2:Int)] w fun e w'=>e=.returned (.bool false)∧w'=w):=fun w=>by
         have:=isIndex_any (outs.getD k3 0) n2 w
         rw[hx] at this
         exact this
        generalize outs.getD k3 0=y at c hI
        clear hx hA
        go_wp2_with ((go_at_call 22;refine(hI.out _).mono ?_;rintro e w2 ⟨rfl,rfl⟩))
        go_ret
        exact⟨by rw[R1.out,R2.out,R.out];rfl,HKW.out⟩
       ·have R:Hid _:=allI_snoc (p:=(idxB · n2)) (by rw[HL3.out];exact hlt3) hA.out hx
        have hI:Hid (∀w,Calls Tryz.prog 22 #[.int .i64 (outs.getD k3 0),.int .i64 (n2:Int)] w fun e w'=>e=.returned (.bool true)∧w'=w):=fun w=>by
         have:=isIndex_any (outs.getD k3 0) n2 w
         rw[hx] at this
         exact this
        generalize outs.getD k3 0=y at c hI
        clear hx hA
        go_wp2_with ((go_at_call 22;refine(hI.out _).mono ?_;rintro e w2 ⟨rfl,rfl⟩))
        go_round
        case rel=>exact⟨k3+1,by omega,by go_num,R⟩
        case measure=>simp[intOf];omega
      ·have R4:Hid (outs.all (idxB · n2)=true):=by
        have:=hA.out
        rw[List.take_of_length_le (by rw[HL3.out];omega)] at this
        exact this
       clear hA
       go_wp2
       go_ret
       exact⟨by rw[R1.out,R2.out,R4.out,←R3.out];rfl,HKW.out⟩
theorem implValid_great (w:World)(a1 a2 a3:Option Addr)(n1 c1 n2 c2 n3 c3:Nat)(h:¬(n1≤20∧n2≤2000∧n3≤50)):
  Calls Tryz.prog 36 #[gagg a1 n1 c1 a2 n2 c2 a3 n3 c3] w fun e w'=>e=.returned (.bool false)∧Kept 0 0 w w':=by
 by_cases h1:n1≤20
 ·by_cases h2:n2≤2000
  ·have h3:50<n3:=by omega
   clear h
   go_enter Tryz.func36,Tryz.ntmps36
   go_wp2
   go_ret
   exact⟨rfl,kept_alloc _ _ _ _⟩
  ·have h3:2000<n2:=by omega
   clear h h2
   go_enter Tryz.func36,Tryz.ntmps36
   go_wp2
   all_goals
    go_ret
    exact⟨rfl,kept_alloc _ _ _ _⟩
 ·have h3:20<n1:=by omega
  clear h h1
  go_enter Tryz.func36,Tryz.ntmps36
  go_wp2
  all_goals
   go_ret
   exact⟨rfl,kept_alloc _ _ _ _⟩
theorem implValid (w:World)(a1 a2 a3:Option Addr)(n1 c1 n2 c2 n3 c3:Nat)(ins:List Int)(vs:List Vl)(outs:List Int)(f:GS w a1 n1 a2 n2 a3 n3 ins vs outs):
  Calls Tryz.prog 36 #[gagg a1 n1 c1 a2 n2 c2 a3 n3 c3] w fun e w'=>e=.returned (.bool (okG ins vs outs))∧Kept 0 0 w w':=by
 unfold okG
 rw[f.i.len,f.v.len,f.o.len]
 by_cases h:n1≤20∧n2≤2000∧n3≤50
 ·rw[decide_eq_true h,Bool.true_and]
  exact implValid_in w a1 a2 a3 n1 c1 n2 c2 n3 c3 ins vs outs f h.1 h.2.1 h.2.2
 ·rw[decide_eq_false h,Bool.false_and]
  exact implValid_great w a1 a2 a3 n1 c1 n2 c2 n3 c3 h
end Go.Proofs.YtgamjhpebmmjcaaGreatDoor
namespace Go.Proofs.YtgamjhpebmmjcaaGreatDoor
set_option maxRecDepth 100000
set_option maxHeartbeats 40000000
open Go.RowKit Flt
attribute [local go_sem] alloc_drewN setCell_drewN run_store_float
def fld (v:Vl)(k:Nat):Int:=if k=0 then v.a else if k=1 then v.b else v.c
end Go.Proofs.YtgamjhpebmmjcaaGreatDoor
namespace Go.Proofs.YtgamjhpebmmjcaaGreatDoor
set_option maxRecDepth 100000
set_option maxHeartbeats 40000000
open Go.RowKit Flt
attribute [local go_sem] alloc_drewN setCell_drewN run_store_float
theorem shape_out {op len C:Int}{xs:List Int}(h:¬(0≤op∧op≤13)):shapeB op len C xs=false:=by
 unfold shapeB
 rw[if_neg (by omega),if_neg (by omega),if_neg (by omega),if_neg (by omega),if_neg (by omega)]
end Go.Proofs.YtgamjhpebmmjcaaGreatDoor
