import Derived.Test.YtgamjhpebmmjcaaGreatDoorP02
import Derived.Deep.QuietTactic
import Derived.BigQuiet
import Derived.Deep.RegionWith
namespace Go.Proofs.YtgamjhpebmmjcaaGreatDoor
set_option maxRecDepth 100000
set_option maxHeartbeats 40000000
open Go.RowKit Flt
attribute [local go_sem] alloc_drewN setCell_drewN run_store_float
def idxB (i n:Int):Bool:=decide (0≤i∧i<n)
theorem isIndex_any (i n:Int)(w:World):Calls Tryz.prog 22 #[.int .i64 i,.int .i64 n] w fun e w'=>e=.returned (.bool (idxB i n))∧w'=w:=by
 by_cases h1:0≤i
 ·by_cases h2:i<n
  ·rw[show idxB i n=true from decide_eq_true ⟨h1,h2⟩]
   go_enter Tryz.func22,Tryz.ntmps22
   go_wp2
   go_ret
   exact⟨rfl,rfl⟩
  ·rw[show idxB i n=false from decide_eq_false (fun c=>h2 c.2)]
   have t:decide (i<n)=false:=decide_eq_false h2
   go_enter Tryz.func22,Tryz.ntmps22
   go_wp2
   go_ret
   exact⟨rfl,rfl⟩
 ·rw[show idxB i n=false from decide_eq_false (fun c=>h1 c.1)]
  have t:decide (0≤i)=false:=decide_eq_false h1
  go_enter Tryz.func22,Tryz.ntmps22
  go_wp2
  go_ret
  exact⟨rfl,rfl⟩
abbrev vagg (op len A B C:Int)(K:Nat):Value:=.agg #[.int .i64 op,.int .i64 len,.int .i64 A,.int .i64 B,.int .i64 C,.float .f64 K]
abbrev vbox (op len A B C:Int)(K:Nat):Obj:=.cells #[.int .i64 op,.int .i64 len,.int .i64 A,.int .i64 B,.int .i64 C,.float .f64 K] 87
def shapeB (op len C:Int)(xs:List Int):Bool:=
 if op=9 then len==1&&lenB (xs.getD 0 0)
 else if op=10 then xs.getD 0 0==1
 else if op=11 then (len==1&&lenB (xs.getD 0 0))&&idxB C (xs.getD 0 0)
 else if op=12 then xs.getD 0 0==1&&idxB C len
 else if 1≤op∧op≤13 then xs.all (· ==len)
 else false
theorem shape_all (w:World)(op len A B C:Int)(K:Nat)(lo hi:Nat)(a:Option Addr)(m cap:Nat)(xs:List Int)(f:IS w lo hi a m xs)(hm:m≤3)
  (hop:op=1∨op=2∨op=3∨op=4∨op=5∨op=6∨op=7∨op=8∨op=13):
  Calls Tryz.prog 101 #[vagg op len A B C K,.slice a m cap] w fun e w'=>e=.returned (.bool (shapeB op len C xs))∧w'=w.alloc (vbox op len A B C K):=by
 have f':=f.keep (kept_alloc 0 0 w (vbox op len A B C K)) (.inr (.inr (Nat.le_refl _)))
 clear f
 rcases hop with rfl|rfl|rfl|rfl|rfl|rfl|rfl|rfl|rfl
 all_goals
  rw[show shapeB _ len C xs=xs.all (· ==len) by simp[shapeB]]
  go_enter Tryz.func101,Tryz.ntmps101
  go_wp2_with fail
  refine(allAre _ _ _ _ _ _ _ _ f' (by omega)).mono ?_
  rintro e w' ⟨rfl,rfl⟩
  go_wp2
  go_ret
  exact⟨rfl,rfl⟩
theorem shape_none (w:World)(op len A B C:Int)(K:Nat)(a:Option Addr)(m cap:Nat)(xs:List Int)
  (h:op≠1∧op≠2∧op≠3∧op≠4∧op≠5∧op≠6∧op≠7∧op≠8∧op≠9∧op≠10∧op≠11∧op≠12∧op≠13):
  Calls Tryz.prog 101 #[vagg op len A B C K,.slice a m cap] w fun e w'=>e=.returned (.bool (shapeB op len C xs))∧w'=w.alloc (vbox op len A B C K):=by
 obtain⟨h1,h2,h3,h4,h5,h6,h7,h8,h9,h10,h11,h12,h13⟩:=h
 have e:shapeB op len C xs=false:=by unfold shapeB;rw[if_neg h9,if_neg h10,if_neg h11,if_neg h12,if_neg (by omega)]
 rw[e]
 have t1:(op==1)=false:=beq_eq_false_iff_ne.2 h1
 have t2:(op==2)=false:=beq_eq_false_iff_ne.2 h2
 have t3:(op==3)=false:=beq_eq_false_iff_ne.2 h3
 have t4:(op==4)=false:=beq_eq_false_iff_ne.2 h4
 have t5:(op==5)=false:=beq_eq_false_iff_ne.2 h5
 have t6:(op==6)=false:=beq_eq_false_iff_ne.2 h6
 have t7:(op==7)=false:=beq_eq_false_iff_ne.2 h7
 have t8:(op==8)=false:=beq_eq_false_iff_ne.2 h8
 have t9:(op==9)=false:=beq_eq_false_iff_ne.2 h9
 have t10:(op==10)=false:=beq_eq_false_iff_ne.2 h10
 have t11:(op==11)=false:=beq_eq_false_iff_ne.2 h11
 have t12:(op==12)=false:=beq_eq_false_iff_ne.2 h12
 have t13:(op==13)=false:=beq_eq_false_iff_ne.2 h13
 clear e h1 h2 h3 h4 h5 h6 h7 h8 h9 h10 h11 h12 h13
 go_enter Tryz.func101,Tryz.ntmps101
 go_wp2
 go_ret
 exact⟨rfl,rfl⟩
theorem shape_one (w:World)(op len A B C x:Int)(K g off cap:Nat)(hg:g<w.heap.size)(hc:w.cell? ⟨g,off,none⟩=some (.int .i64 x))
  (hop:op=9∨op=10∨op=11∨op=12):
  Calls Tryz.prog 101 #[vagg op len A B C K,.slice (some ⟨g,off,none⟩) 1 cap] w fun e w'=>e=.returned (.bool (shapeB op len C [x]))∧Kept 0 0 w w':=by
 have hc':(w.alloc (vbox op len A B C K)).cell? ⟨g,off,none⟩=some (.int .i64 x):=by rw[World.cell?_alloc_past (hn:=hg)];exact hc
 rcases hop with rfl|rfl|rfl|rfl
 ·
  cases t:(len==1)
  ·rw[show shapeB 9 len C [x]=false by simp[shapeB,t]]
   go_enter Tryz.func101,Tryz.ntmps101
   go_wp2
   go_ret
   exact⟨rfl,kept_alloc _ _ _ _⟩
  ·rw[show shapeB 9 len C [x]=lenB x by simp[shapeB,t]]
   go_enter Tryz.func101,Tryz.ntmps101
   go_wp2_with fail
   refine(isLength_any _ _).mono ?_
   rintro e w' ⟨rfl,rfl⟩
   go_wp2
   go_ret
   exact⟨rfl,kept_alloc _ _ _ _⟩
 ·rw[show shapeB 10 len C [x]=(x==1) by simp[shapeB]]
  go_enter Tryz.func101,Tryz.ntmps101
  go_wp2
  go_ret
  exact⟨rfl,kept_alloc _ _ _ _⟩
 ·cases t:(len==1)
  ·rw[show shapeB 11 len C [x]=false by simp[shapeB,t]]
   go_enter Tryz.func101,Tryz.ntmps101
   go_wp2
   go_quiet (fail)
   go_wp2
   go_ret
   exact⟨rfl,(kept_alloc _ _ _ _).trans (kept_drewN _ _ _ _)⟩
  ·cases t2:lenB x
   ·rw[show shapeB 11 len C [x]=false by simp[shapeB,t2]]
    go_enter Tryz.func101,Tryz.ntmps101
    go_wp2
    go_quiet ((first|(go_at_call 62;exact Calls.quiet_of_same (isLength_any _ _))|(go_at_call 22;exact Calls.quiet_of_same (isIndex_any _ _ _))))
    go_wp2
    go_ret
    exact⟨rfl,(kept_alloc _ _ _ _).trans (kept_drewN _ _ _ _)⟩
   ·rw[show shapeB 11 len C [x]=idxB C x by simp[shapeB,t,t2]]
    go_enter Tryz.func101,Tryz.ntmps101
    go_wp2
    go_quiet ((first|(go_at_call 62;exact Calls.quiet_of_same (isLength_any _ _))|(go_at_call 22;exact Calls.quiet_of_same (isIndex_any _ _ _))))
    go_wp2
    go_ret
    exact⟨rfl,(kept_alloc _ _ _ _).trans (kept_drewN _ _ _ _)⟩
 ·cases t:(x==1)
  ·rw[show shapeB 12 len C [x]=false by simp[shapeB,t]]
   go_enter Tryz.func101,Tryz.ntmps101
   go_wp2
   go_ret
   exact⟨rfl,kept_alloc _ _ _ _⟩
  ·rw[show shapeB 12 len C [x]=idxB C len by simp[shapeB,t]]
   go_enter Tryz.func101,Tryz.ntmps101
   go_wp2_with fail
   refine(isIndex_any _ _ _).mono ?_
   rintro e w' ⟨rfl,rfl⟩
   go_wp2
   go_ret
   exact⟨rfl,kept_alloc _ _ _ _⟩
theorem cnt_le (op:Int):cnt op≤3:=by
 unfold cnt
 split
 ·omega
 ·split
  ·omega
  ·split<;>omega
theorem shapeFits (w:World)(op len A B C:Int)(K:Nat)(lo hi:Nat)(a:Option Addr)(m cap:Nat)(xs:List Int)(f:IS w lo hi a m xs)(hm:m=cnt op):
  Calls Tryz.prog 101 #[vagg op len A B C K,.slice a m cap] w fun e w'=>e=.returned (.bool (shapeB op len C xs))∧Kept 0 0 w w':=by
 have key:(op=9∨op=10∨op=11∨op=12)→Calls Tryz.prog 101 #[vagg op len A B C K,.slice a m cap] w fun e w'=>e=.returned (.bool (shapeB op len C xs))∧Kept 0 0 w w':=by
  intro hop
  have hm1:m=1:=by rw[hm];rcases hop with rfl|rfl|rfl|rfl<;>rfl
  subst hm1
  rcases f.at_ with h0|⟨g,off,rfl,a1,a2,a3,a4⟩
  ·omega
  ·obtain⟨x,rfl⟩:∃x,xs=[x]:=List.length_eq_one_iff.1 f.len
   exact shape_one w op len A B C x K g off cap a3 (a4 0 (by omega)) hop
 have hm3:m≤3:=by rw[hm];exact cnt_le op
 rcases op_cases op with h|h|h|h|h|h|h|h|h|h|h|h|h|h
 all_goals first
  |exact key (by omega)
  |exact(shape_all w op len A B C K lo hi a m cap xs f hm3 (by omega)).mono fun _ _ h=>⟨h.1,by rw[h.2];exact kept_alloc _ _ _ _⟩
  |exact(shape_none w op len A B C K a m cap xs h).mono fun _ _ h=>⟨h.1,by rw[h.2];exact kept_alloc _ _ _ _⟩
end Go.Proofs.YtgamjhpebmmjcaaGreatDoor
namespace Go.Proofs.YtgamjhpebmmjcaaGreatDoor
set_option maxRecDepth 100000
set_option maxHeartbeats 40000000
open Go.RowKit Flt
attribute [local go_sem] alloc_drewN setCell_drewN run_store_float
theorem kcell {w W:World}(h:Kept 0 0 w W){g o:Nat}(hg:g<w.heap.size){v:Value}(hc:w.cell? ⟨g,o,none⟩=some v):W.cell? ⟨g,o,none⟩=some v:=by
 rw[h.cell (p:=⟨g,o,none⟩) hg (by omega)];exact hc
structure Vl where
 op:Int
 len:Int
 a:Int
 b:Int
 c:Int
 k:Nat
def Vl.cells (v:Vl):List Value:=[.int .i64 v.op,.int .i64 v.len,.int .i64 v.a,.int .i64 v.b,.int .i64 v.c,.float .f64 v.k]
def Vl.zero:Vl:=⟨0,0,0,0,0,0⟩
abbrev Vl.agg (v:Vl):Value:=vagg v.op v.len v.a v.b v.c v.k
structure At (w:World)(g o:Nat)(v:Vl):Prop where
 c0:w.cell? ⟨g,o,none⟩=some (.int .i64 v.op)
 c1:w.cell? ⟨g,o+1,none⟩=some (.int .i64 v.len)
 c2:w.cell? ⟨g,o+2,none⟩=some (.int .i64 v.a)
 c3:w.cell? ⟨g,o+3,none⟩=some (.int .i64 v.b)
 c4:w.cell? ⟨g,o+4,none⟩=some (.int .i64 v.c)
 c5:w.cell? ⟨g,o+5,none⟩=some (.float .f64 v.k)
theorem infoV:(Tryz.prog.info? 87).map (fun i=>(i.zero,i.size,i.bytes))=some (some (vagg 0 0 0 0 0 0),6,48):=by kernel_rfl
structure VA (w:World)(g n:Nat)(vs:List Vl):Prop where
 len:vs.length=n
 lt:g<w.heap.size
 at_:∀k,k<n→At w g (k*6) (vs.getD k Vl.zero)
 free:∀o,w.frozen? ⟨g,o,none⟩=false
abbrev put6 (w:World)(g o:Nat)(v:Vl):World:=
 (((((w.setCell ⟨g,o,none⟩ (.int .i64 v.op)).setCell ⟨g,o+1,none⟩ (.int .i64 v.len)).setCell ⟨g,o+2,none⟩ (.int .i64 v.a)).setCell ⟨g,o+3,none⟩ (.int .i64 v.b)).setCell ⟨g,o+4,none⟩ (.int .i64 v.c)).setCell ⟨g,o+5,none⟩ (.float .f64 v.k)
theorem cell_ne (w:World)(g g' a b:Nat)(v:Value)(h:g≠g'∨a≠b):(w.setCell ⟨g,a,none⟩ v).cell? ⟨g',b,none⟩=w.cell? ⟨g',b,none⟩:=
 World.cell?_setCell_other w ⟨g,a,none⟩ ⟨g',b,none⟩ v (by intro c;injection c with c1 c2;omega)
theorem cell_eq (w:World)(g a:Nat)(v u:Value)(h:w.cell? ⟨g,a,none⟩=some u):(w.setCell ⟨g,a,none⟩ v).cell? ⟨g,a,none⟩=some v:=World.cell?_setCell_same w ⟨g,a,none⟩ v h
theorem put6_out (w:World)(g o g' b:Nat)(v:Vl)(h:g≠g'∨b<o∨o+6≤b):(put6 w g o v).cell? ⟨g',b,none⟩=w.cell? ⟨g',b,none⟩:=by
 unfold put6
 rw[cell_ne _ _ _ _ _ _ (by omega),cell_ne _ _ _ _ _ _ (by omega),cell_ne _ _ _ _ _ _ (by omega),cell_ne _ _ _ _ _ _ (by omega),cell_ne _ _ _ _ _ _ (by omega),cell_ne _ _ _ _ _ _ (by omega)]
theorem put6_at (w:World)(g o:Nat)(u v:Vl)(h:At w g o u):At (put6 w g o v) g o v:=by
 unfold put6
 refine⟨?_,?_,?_,?_,?_,?_⟩
 ·rw[cell_ne _ _ _ _ _ _ (by omega),cell_ne _ _ _ _ _ _ (by omega),cell_ne _ _ _ _ _ _ (by omega),cell_ne _ _ _ _ _ _ (by omega),cell_ne _ _ _ _ _ _ (by omega)]
  exact cell_eq _ _ _ _ _ h.c0
 ·rw[cell_ne _ _ _ _ _ _ (by omega),cell_ne _ _ _ _ _ _ (by omega),cell_ne _ _ _ _ _ _ (by omega),cell_ne _ _ _ _ _ _ (by omega)]
  exact cell_eq _ _ _ _ _ (by rw[cell_ne _ _ _ _ _ _ (by omega)];exact h.c1)
 ·rw[cell_ne _ _ _ _ _ _ (by omega),cell_ne _ _ _ _ _ _ (by omega),cell_ne _ _ _ _ _ _ (by omega)]
  exact cell_eq _ _ _ _ _ (by rw[cell_ne _ _ _ _ _ _ (by omega),cell_ne _ _ _ _ _ _ (by omega)];exact h.c2)
 ·rw[cell_ne _ _ _ _ _ _ (by omega),cell_ne _ _ _ _ _ _ (by omega)]
  exact cell_eq _ _ _ _ _ (by rw[cell_ne _ _ _ _ _ _ (by omega),cell_ne _ _ _ _ _ _ (by omega),cell_ne _ _ _ _ _ _ (by omega)];exact h.c3)
 ·rw[cell_ne _ _ _ _ _ _ (by omega)]
  exact cell_eq _ _ _ _ _ (by rw[cell_ne _ _ _ _ _ _ (by omega),cell_ne _ _ _ _ _ _ (by omega),cell_ne _ _ _ _ _ _ (by omega),cell_ne _ _ _ _ _ _ (by omega)];exact h.c4)
 ·exact cell_eq _ _ _ _ _ (by rw[cell_ne _ _ _ _ _ _ (by omega),cell_ne _ _ _ _ _ _ (by omega),cell_ne _ _ _ _ _ _ (by omega),cell_ne _ _ _ _ _ _ (by omega),cell_ne _ _ _ _ _ _ (by omega)];exact h.c5)
theorem put6_kept (w:World)(g o:Nat)(v:Vl):Kept g (g+1) w (put6 w g o v):=by
 unfold put6
 have k:∀(w:World) (a:Nat) (u:Value),Kept g (g+1) w (w.setCell ⟨g,a,none⟩ u):=fun w a u=>kept_setCell w ⟨g,a,none⟩ u (.inl ⟨Nat.le_refl _,Nat.lt_succ_self _⟩)
 exact((((k _ _ _).trans (k _ _ _)).trans (k _ _ _)).trans (k _ _ _)).trans (k _ _ _) |>.trans (k _ _ _)
theorem At.keep {w w':World}{g o l h:Nat}{v:Vl}(a:At w g o v)(hg:g<w.heap.size)(k:Kept l h w w')(hd:g<l∨h≤g∨h≤l):At w' g o v:=by
 have e:∀b,w'.cell? ⟨g,b,none⟩=w.cell? ⟨g,b,none⟩:=fun b=>k.cell (p:=⟨g,b,none⟩) hg (by show ¬(l≤g∧g<h);omega)
 exact⟨by rw[e];exact a.c0,by rw[e];exact a.c1,by rw[e];exact a.c2,by rw[e];exact a.c3,by rw[e];exact a.c4,by rw[e];exact a.c5⟩
theorem VA.keep {w w':World}{g n l h:Nat}{vs:List Vl}(f:VA w g n vs)(k:Kept l h w w')(hd:g<l∨h≤g∨h≤l):VA w' g n vs:=
 ⟨f.len,Nat.lt_of_lt_of_le f.lt k.size,fun i hi=>(f.at_ i hi).keep f.lt k hd,fun o=>by rw[k.frozen (p:=⟨g,o,none⟩) f.lt (by show ¬(l≤g∧g<h);omega)];exact f.free o⟩
theorem VA.step {w:World}{g n:Nat}{vs:List Vl}(f:VA w g n vs)(k:Nat)(hk:k<n)(v:Vl):VA (put6 w g (k*6) v) g n (vs.set k v) where
 len:=by rw[List.length_set];exact f.len
 lt:=Nat.lt_of_lt_of_le f.lt (put6_kept w g (k*6) v).size
 at_:=fun i hi=>by
  rw[List.getD_eq_getElem?_getD,List.getElem?_set]
  by_cases e:k=i
  ·subst e
   rw[if_pos rfl,if_pos (by rw[f.len];exact hk)]
   exact put6_at w g (k*6) _ v (f.at_ k hk)
  ·rw[if_neg e,←List.getD_eq_getElem?_getD]
   have a:=f.at_ i hi
   have o:∀b,i*6≤b→b<i*6+6→(put6 w g (k*6) v).cell? ⟨g,b,none⟩=w.cell? ⟨g,b,none⟩:=fun b h1 h2=>put6_out w g (k*6) g b v (by right;omega)
   exact⟨by rw[o _ (by omega) (by omega)];exact a.c0,by rw[o _ (by omega) (by omega)];exact a.c1,by rw[o _ (by omega) (by omega)];exact a.c2,by rw[o _ (by omega) (by omega)];exact a.c3,by rw[o _ (by omega) (by omega)];exact a.c4,by rw[o _ (by omega) (by omega)];exact a.c5⟩
 free:=fun o=>by simp[put6,f.free o]
structure VS (w:World)(lo hi:Nat)(a:Option Addr)(n:Nat)(vs:List Vl):Prop where
 len:vs.length=n
 lt:∀v∈vs,v.k<18446744073709551616
 at_:n=0∨∃g off,a=some ⟨g,off,none⟩∧lo≤g∧g<hi∧g<w.heap.size∧∀k,k<n→At w g (off+k*6) (vs.getD k Vl.zero)
theorem VS.keep {w w':World}{lo hi l h:Nat}{a:Option Addr}{n:Nat}{vs:List Vl}(f:VS w lo hi a n vs)(k:Kept l h w w')(hd:hi≤l∨h≤lo∨h≤l):VS w' lo hi a n vs:=
 ⟨f.len,f.lt,by
  rcases f.at_ with h0|⟨g,off,e,h1,h2,h3,h4⟩
  ·exact .inl h0
  ·exact .inr ⟨g,off,e,h1,h2,Nat.lt_of_lt_of_le h3 k.size,fun j hj=>(h4 j hj).keep h3 k (by omega)⟩⟩
end Go.Proofs.YtgamjhpebmmjcaaGreatDoor
namespace Go.Proofs.YtgamjhpebmmjcaaGreatDoor
set_option maxRecDepth 100000
set_option maxHeartbeats 40000000
open Go.RowKit Flt
attribute [local go_sem] alloc_drewN setCell_drewN run_store_float
def IR (w:World)(g:Nat)(xs:List Int):Prop:=w.heap[g]? =some (.cells (xs.map (Value.int .i64)).toArray 3 (0,0))
theorem IR.lt {w:World}{g:Nat}{xs:List Int}(h:IR w g xs):g<w.heap.size:=by
 unfold IR at h
 rcases Nat.lt_or_ge g w.heap.size with c|c
 ·exact c
 ·rw[Array.getElem?_eq_none c] at h;cases h
theorem IR.cell {w:World}{g:Nat}{xs:List Int}(h:IR w g xs)(k:Nat)(hk:k<xs.length):w.cell? ⟨g,k,none⟩=some (.int .i64 (xs.getD k 0)):=by
 rw[cell_of_row w g k _ _ _ h]
 simp[hk,List.getD_eq_getElem?_getD]
theorem IR.free {w:World}{g:Nat}{xs:List Int}(h:IR w g xs)(k:Nat):w.frozen? ⟨g,k,none⟩=false:=frozen_of_row w g k _ _ h
theorem IR.keep {w w':World}{g l h:Nat}{xs:List Int}(f:IR w g xs)(k:Kept l h w w')(hd:g<l∨h≤g∨h≤l):IR w' g xs:=by
 unfold IR
 rw[k.block g f.lt (by omega)]
 exact f
theorem IR.set {w:World}{g:Nat}{xs:List Int}(h:IR w g xs)(k:Nat)(x:Int):IR (w.setCell ⟨g,k,none⟩ (.int .i64 x)) g (xs.set k x):=by
 unfold IR at h ⊢
 rw[heap_setCell_same w g k _ _ _ h]
 simp[List.map_set]
theorem IR.is {w:World}{g:Nat}{xs:List Int}(h:IR w g xs):IS w 0 w.heap.size (some ⟨g,0,none⟩) xs.length xs:=
 ⟨rfl,.inr ⟨g,0,rfl,Nat.zero_le _,h.lt,h.lt,fun k hk=>by rw[Nat.zero_add];exact h.cell k hk⟩⟩
theorem IR.made (w:World)(n:Nat):IR (w.alloc (.cells (madeCells #[.int .i64 0] n) 3)) w.heap.size (List.replicate n 0):=by
 unfold IR
 rw[heap_alloc_new]
 have:(madeCells #[.int .i64 0] n)=(List.map (Value.int .i64) (List.replicate n 0)).toArray:=by
  apply Array.toList_inj.1
  rw[toList_madeCells_one]
  simp
 rw[this]
theorem infoI:(Tryz.prog.info? 3).map (fun i=>(i.zero,i.size,i.bytes))=some (some (.int .i64 0),1,8):=by kernel_rfl
theorem set_takeI (xs ys:List Int)(k:Nat)(hk:k<xs.length)(hl:ys.length=xs.length):
  (xs.take k++ys.drop k).set k (xs.getD k 0)=xs.take (k+1)++ys.drop (k+1):=by
 apply List.ext_getElem?
 intro i
 simp only[List.getElem?_set,List.length_append,List.length_take,List.length_drop,List.getElem?_append,List.getElem?_take,List.getElem?_drop,List.getD_eq_getElem?_getD]
 rcases Nat.lt_trichotomy i k with h|h|h
 ·rw[if_neg (by omega),if_pos (by omega),if_pos (by omega),if_pos (by omega),if_pos (by omega)]
 ·subst h
  rw[if_pos rfl,if_pos (by omega),if_pos (by omega),if_pos (by omega),List.getElem?_eq_getElem hk];rfl
 ·rw[if_neg (by omega),if_neg (by omega),if_neg (by omega)]
  congr 1;omega
theorem make_i (n:Nat)(w:World)(hn:n≤1099511627776):
  (Instr.makeSlice 32 (.int .i64 (n:Int)) (.int .i64 (n:Int))).run Tryz.prog w=.ok (.slice (some ⟨w.heap.size,0,none⟩) n n) (w.alloc (.cells (madeCells #[.int .i64 0] n) 3)):=by
 obtain⟨i,hi,hz0,hz1,hz2⟩:=info_parts infoI
 have:=run_make (P:=Tryz.prog) w 32 3 i (.int .i64 0) Tryz.underlying32 hi hz0 .i64 .i64 n n (by omega) (by omega) (by rw[hz2];omega) (by omega)
 rw[hz1,Nat.mul_one,Int.toNat_natCast] at this
 exact this
theorem getK_lt {vs:List Vl}(h:∀v∈vs,v.k<18446744073709551616)(k:Nat):(vs.getD k Vl.zero).k<18446744073709551616:=by
 rw[List.getD_eq_getElem?_getD]
 by_cases hk:k<vs.length
 ·rw[List.getElem?_eq_getElem hk];exact h _ (List.getElem_mem _)
 ·rw[List.getElem?_eq_none (by omega)];exact(by decide:Vl.zero.k<18446744073709551616)
end Go.Proofs.YtgamjhpebmmjcaaGreatDoor
namespace Go.Proofs.YtgamjhpebmmjcaaGreatDoor
set_option maxRecDepth 100000
set_option maxHeartbeats 40000000
open Go.RowKit Flt
attribute [local go_sem] alloc_drewN setCell_drewN run_store_float
abbrev gagg (a1:Option Addr)(n1 c1:Nat)(a2:Option Addr)(n2 c2:Nat)(a3:Option Addr)(n3 c3:Nat):Value:=.agg #[.slice a1 n1 c1,.slice a2 n2 c2,.slice a3 n3 c3]
structure GS (w:World)(a1:Option Addr)(n1:Nat)(a2:Option Addr)(n2:Nat)(a3:Option Addr)(n3:Nat)(ins:List Int)(vs:List Vl)(outs:List Int):Prop where
 i:IS w 0 w.heap.size a1 n1 ins
 v:VS w 0 w.heap.size a2 n2 vs
 o:IS w 0 w.heap.size a3 n3 outs
theorem IS.mono {w:World}{lo hi lo' hi':Nat}{a:Option Addr}{n:Nat}{xs:List Int}(f:IS w lo hi a n xs)(h1:lo'≤lo)(h2:hi≤hi'):IS w lo' hi' a n xs:=
 ⟨f.len,by
  rcases f.at_ with h0|⟨g,off,e,a1,a2,a3,a4⟩
  ·exact .inl h0
  ·exact .inr ⟨g,off,e,by omega,by omega,a3,a4⟩⟩
theorem VS.mono {w:World}{lo hi lo' hi':Nat}{a:Option Addr}{n:Nat}{vs:List Vl}(f:VS w lo hi a n vs)(h1:lo'≤lo)(h2:hi≤hi'):VS w lo' hi' a n vs:=
 ⟨f.len,f.lt,by
  rcases f.at_ with h0|⟨g,off,e,a1,a2,a3,a4⟩
  ·exact .inl h0
  ·exact .inr ⟨g,off,e,by omega,by omega,a3,a4⟩⟩
theorem GS.keep {w w':World}{a1 a2 a3:Option Addr}{n1 n2 n3:Nat}{ins:List Int}{vs:List Vl}{outs:List Int}(f:GS w a1 n1 a2 n2 a3 n3 ins vs outs)(k:Kept 0 0 w w'):GS w' a1 n1 a2 n2 a3 n3 ins vs outs:=
 ⟨(f.i.keep k (.inr (.inr (Nat.le_refl _)))).mono (Nat.le_refl _) k.size,(f.v.keep k (.inr (.inr (Nat.le_refl _)))).mono (Nat.le_refl _) k.size,(f.o.keep k (.inr (.inr (Nat.le_refl _)))).mono (Nat.le_refl _) k.size⟩
theorem put3_kept (w:World)(g:Nat)(x y z:Value):Kept g (g+1) w (((w.setCell ⟨g,0,none⟩ x).setCell ⟨g,1,none⟩ y).setCell ⟨g,2,none⟩ z):=by
 have k:∀(w:World) (a:Nat) (u:Value),Kept g (g+1) w (w.setCell ⟨g,a,none⟩ u):=fun w a u=>kept_setCell w ⟨g,a,none⟩ u (.inl ⟨Nat.le_refl _,Nat.lt_succ_self _⟩)
 exact((k _ _ _).trans (k _ _ _)).trans (k _ _ _)
theorem kept_put (w W:World)(k:Kept 0 0 w W)(g o:Nat)(v:Value)(h:w.heap.size≤g):Kept 0 0 w (W.setCell ⟨g,o,none⟩ v):=
 k.new (kept_setCell (lo:=g) (hi:=g+1) W ⟨g,o,none⟩ v (.inl ⟨Nat.le_refl _,Nat.lt_succ_self _⟩)) h
end Go.Proofs.YtgamjhpebmmjcaaGreatDoor
namespace Go.Proofs.YtgamjhpebmmjcaaGreatDoor
set_option maxRecDepth 100000
set_option maxHeartbeats 40000000
open Go.RowKit Flt
attribute [local go_sem] alloc_drewN setCell_drewN run_store_float
structure IBk (w:World)(g n:Nat)(xs:List Int):Prop where
 len:xs.length=n
 lt:g<w.heap.size
 at_:∀k,k<n→w.cell? ⟨g,k,none⟩=some (.int .i64 (xs.getD k 0))
 free:∀o,w.frozen? ⟨g,o,none⟩=false
theorem IBk.keep {w w':World}{g n l h:Nat}{xs:List Int}(f:IBk w g n xs)(k:Kept l h w w')(hd:g<l∨h≤g∨h≤l):IBk w' g n xs:=
 ⟨f.len,Nat.lt_of_lt_of_le f.lt k.size,fun j hj=>by rw[k.cell (p:=⟨g,j,none⟩) f.lt (by show ¬(l≤g∧g<h);omega)];exact f.at_ j hj,fun o=>by rw[k.frozen (p:=⟨g,o,none⟩) f.lt (by show ¬(l≤g∧g<h);omega)];exact f.free o⟩
theorem IBk.put {w:World}{g n:Nat}{xs:List Int}(f:IBk w g n xs)(j:Nat)(hj:j<n)(x:Int):IBk (w.setCell ⟨g,j,none⟩ (.int .i64 x)) g n (xs.set j x) where
 len:=by rw[List.length_set];exact f.len
 lt:=by simpa using f.lt
 at_:=fun k hk=>by
  rw[List.getD_eq_getElem?_getD,List.getElem?_set]
  by_cases e:j=k
  ·subst e
   rw[if_pos rfl,if_pos (by rw[f.len];exact hj)]
   exact cell_eq _ _ _ _ _ (f.at_ j hj)
  ·rw[if_neg e,cell_ne _ _ _ _ _ _ (.inr e),←List.getD_eq_getElem?_getD]
   exact f.at_ k hk
 free:=fun o=>by simp[f.free o]
theorem getD_set {α:Type}(xs:List α)(z x:α)(j i:Nat)(hj:j<xs.length):(xs.set j x).getD i z=if i=j then x else xs.getD i z:=by
 rw[List.getD_eq_getElem?_getD,List.getElem?_set]
 by_cases e:j=i
 ·subst e;rw[if_pos rfl,if_pos hj,if_pos rfl];rfl
 ·rw[if_neg e,if_neg (fun c=>e c.symm),←List.getD_eq_getElem?_getD]
end Go.Proofs.YtgamjhpebmmjcaaGreatDoor
namespace Go.Proofs.YtgamjhpebmmjcaaGreatDoor
set_option maxRecDepth 100000
set_option maxHeartbeats 40000000
open Go.RowKit Flt
attribute [local go_sem] alloc_drewN setCell_drewN run_store_float
structure Ste where
 op:Int
 len:Int
 n:Int
 dst:Int
 a:Int
 b:Int
 c:Int
 k:Nat
def Ste.cells (v:Ste):List Value:=[.int .i64 v.op,.int .i64 v.len,.int .i64 v.n,.int .i64 v.dst,.int .i64 v.a,.int .i64 v.b,.int .i64 v.c,.float .f64 v.k]
def Ste.zero:Ste:=⟨0,0,0,0,0,0,0,0⟩
abbrev Ste.agg (v:Ste):Value:=.agg #[.int .i64 v.op,.int .i64 v.len,.int .i64 v.n,.int .i64 v.dst,.int .i64 v.a,.int .i64 v.b,.int .i64 v.c,.float .f64 v.k]
abbrev Ste.box (v:Ste):Obj:=.cells #[.int .i64 v.op,.int .i64 v.len,.int .i64 v.n,.int .i64 v.dst,.int .i64 v.a,.int .i64 v.b,.int .i64 v.c,.float .f64 v.k] 89
structure AtT (w:World)(g o:Nat)(v:Ste):Prop where
 c0:w.cell? ⟨g,o,none⟩=some (.int .i64 v.op)
 c1:w.cell? ⟨g,o+1,none⟩=some (.int .i64 v.len)
 c2:w.cell? ⟨g,o+2,none⟩=some (.int .i64 v.n)
 c3:w.cell? ⟨g,o+3,none⟩=some (.int .i64 v.dst)
 c4:w.cell? ⟨g,o+4,none⟩=some (.int .i64 v.a)
 c5:w.cell? ⟨g,o+5,none⟩=some (.int .i64 v.b)
 c6:w.cell? ⟨g,o+6,none⟩=some (.int .i64 v.c)
 c7:w.cell? ⟨g,o+7,none⟩=some (.float .f64 v.k)
theorem infoSte:(Tryz.prog.info? 89).map (fun i=>(i.zero,i.size,i.bytes))=some (some (.agg #[.int .i64 0,.int .i64 0,.int .i64 0,.int .i64 0,.int .i64 0,.int .i64 0,.int .i64 0,.float .f64 0]),8,64):=by kernel_rfl
abbrev put8 (w:World)(g o:Nat)(v:Ste):World:=
 ((((((((w.setCell ⟨g,o,none⟩ (.int .i64 v.op)).setCell ⟨g,o+1,none⟩ (.int .i64 v.len)).setCell ⟨g,o+2,none⟩ (.int .i64 v.n)).setCell ⟨g,o+3,none⟩ (.int .i64 v.dst)).setCell ⟨g,o+4,none⟩ (.int .i64 v.a)).setCell ⟨g,o+5,none⟩ (.int .i64 v.b)).setCell ⟨g,o+6,none⟩ (.int .i64 v.c)).setCell ⟨g,o+7,none⟩ (.float .f64 v.k))
theorem put8_at (w:World)(g o:Nat)(u v:Ste)(h:AtT w g o u):AtT (put8 w g o v) g o v:=by
 unfold put8
 refine⟨?_,?_,?_,?_,?_,?_,?_,?_⟩
 ·rw[cell_ne _ _ _ _ _ _ (by omega),cell_ne _ _ _ _ _ _ (by omega),cell_ne _ _ _ _ _ _ (by omega),cell_ne _ _ _ _ _ _ (by omega),cell_ne _ _ _ _ _ _ (by omega),cell_ne _ _ _ _ _ _ (by omega),cell_ne _ _ _ _ _ _ (by omega)]
  exact cell_eq _ _ _ _ _ (h.c0)
 ·rw[cell_ne _ _ _ _ _ _ (by omega),cell_ne _ _ _ _ _ _ (by omega),cell_ne _ _ _ _ _ _ (by omega),cell_ne _ _ _ _ _ _ (by omega),cell_ne _ _ _ _ _ _ (by omega),cell_ne _ _ _ _ _ _ (by omega)]
  exact cell_eq _ _ _ _ _ (by rw[cell_ne _ _ _ _ _ _ (by omega)];exact h.c1)
 ·rw[cell_ne _ _ _ _ _ _ (by omega),cell_ne _ _ _ _ _ _ (by omega),cell_ne _ _ _ _ _ _ (by omega),cell_ne _ _ _ _ _ _ (by omega),cell_ne _ _ _ _ _ _ (by omega)]
  exact cell_eq _ _ _ _ _ (by rw[cell_ne _ _ _ _ _ _ (by omega),cell_ne _ _ _ _ _ _ (by omega)];exact h.c2)
 ·rw[cell_ne _ _ _ _ _ _ (by omega),cell_ne _ _ _ _ _ _ (by omega),cell_ne _ _ _ _ _ _ (by omega),cell_ne _ _ _ _ _ _ (by omega)]
  exact cell_eq _ _ _ _ _ (by rw[cell_ne _ _ _ _ _ _ (by omega),cell_ne _ _ _ _ _ _ (by omega),cell_ne _ _ _ _ _ _ (by omega)];exact h.c3)
 ·rw[cell_ne _ _ _ _ _ _ (by omega),cell_ne _ _ _ _ _ _ (by omega),cell_ne _ _ _ _ _ _ (by omega)]
  exact cell_eq _ _ _ _ _ (by rw[cell_ne _ _ _ _ _ _ (by omega),cell_ne _ _ _ _ _ _ (by omega),cell_ne _ _ _ _ _ _ (by omega),cell_ne _ _ _ _ _ _ (by omega)];exact h.c4)
 ·rw[cell_ne _ _ _ _ _ _ (by omega),cell_ne _ _ _ _ _ _ (by omega)]
  exact cell_eq _ _ _ _ _ (by rw[cell_ne _ _ _ _ _ _ (by omega),cell_ne _ _ _ _ _ _ (by omega),cell_ne _ _ _ _ _ _ (by omega),cell_ne _ _ _ _ _ _ (by omega),cell_ne _ _ _ _ _ _ (by omega)];exact h.c5)
 ·rw[cell_ne _ _ _ _ _ _ (by omega)]
  exact cell_eq _ _ _ _ _ (by rw[cell_ne _ _ _ _ _ _ (by omega),cell_ne _ _ _ _ _ _ (by omega),cell_ne _ _ _ _ _ _ (by omega),cell_ne _ _ _ _ _ _ (by omega),cell_ne _ _ _ _ _ _ (by omega),cell_ne _ _ _ _ _ _ (by omega)];exact h.c6)
 ·exact cell_eq _ _ _ _ _ (by rw[cell_ne _ _ _ _ _ _ (by omega),cell_ne _ _ _ _ _ _ (by omega),cell_ne _ _ _ _ _ _ (by omega),cell_ne _ _ _ _ _ _ (by omega),cell_ne _ _ _ _ _ _ (by omega),cell_ne _ _ _ _ _ _ (by omega),cell_ne _ _ _ _ _ _ (by omega)];exact h.c7)
theorem put8_kept (w:World)(g o:Nat)(v:Ste):Kept g (g+1) w (put8 w g o v):=by
 unfold put8
 have k:∀(w:World) (a:Nat) (u:Value),Kept g (g+1) w (w.setCell ⟨g,a,none⟩ u):=fun w a u=>kept_setCell w ⟨g,a,none⟩ u (.inl ⟨Nat.le_refl _,Nat.lt_succ_self _⟩)
 exact((((((((k _ _ _).trans (k _ _ _)).trans (k _ _ _)).trans (k _ _ _)).trans (k _ _ _)).trans (k _ _ _)).trans (k _ _ _)).trans (k _ _ _))
theorem AtT.keep {w w':World}{g o l h:Nat}{v:Ste}(a:AtT w g o v)(hg:g<w.heap.size)(k:Kept l h w w')(hd:g<l∨h≤g∨h≤l):AtT w' g o v:=by
 have e:∀b,w'.cell? ⟨g,b,none⟩=w.cell? ⟨g,b,none⟩:=fun b=>k.cell (p:=⟨g,b,none⟩) hg (by show ¬(l≤g∧g<h);omega)
 exact⟨by rw[e];exact a.c0,by rw[e];exact a.c1,by rw[e];exact a.c2,by rw[e];exact a.c3,by rw[e];exact a.c4,by rw[e];exact a.c5,by rw[e];exact a.c6,by rw[e];exact a.c7⟩
structure TS (w:World)(lo hi:Nat)(a:Option Addr)(n:Nat)(vs:List Ste):Prop where
 len:vs.length=n
 lt:∀v∈vs,v.k<18446744073709551616
 at_:n=0∨∃g off,a=some ⟨g,off,none⟩∧lo≤g∧g<hi∧g<w.heap.size∧∀k,k<n→AtT w g (off+k*8) (vs.getD k Ste.zero)
theorem TS.keep {w w':World}{lo hi l h:Nat}{a:Option Addr}{n:Nat}{vs:List Ste}(f:TS w lo hi a n vs)(k:Kept l h w w')(hd:hi≤l∨h≤lo∨h≤l):TS w' lo hi a n vs:=
 ⟨f.len,f.lt,by
  rcases f.at_ with h0|⟨g,off,e,h1,h2,h3,h4⟩
  ·exact .inl h0
  ·exact .inr ⟨g,off,e,h1,h2,Nat.lt_of_lt_of_le h3 k.size,fun j hj=>(h4 j hj).keep h3 k (by omega)⟩⟩
theorem TS.mono {w:World}{lo hi lo' hi':Nat}{a:Option Addr}{n:Nat}{vs:List Ste}(f:TS w lo hi a n vs)(h1:lo'≤lo)(h2:hi≤hi'):TS w lo' hi' a n vs:=
 ⟨f.len,f.lt,by
  rcases f.at_ with h0|⟨g,off,e,q1,q2,q3,q4⟩
  ·exact .inl h0
  ·exact .inr ⟨g,off,e,by omega,by omega,q3,q4⟩⟩
theorem getKSte {vs:List Ste}(h:∀v∈vs,v.k<18446744073709551616)(k:Nat):(vs.getD k Ste.zero).k<18446744073709551616:=by
 rw[List.getD_eq_getElem?_getD]
 by_cases hk:k<vs.length
 ·rw[List.getElem?_eq_getElem hk];exact h _ (List.getElem_mem _)
 ·rw[List.getElem?_eq_none (by omega)];exact(by decide:Ste.zero.k<18446744073709551616)
end Go.Proofs.YtgamjhpebmmjcaaGreatDoor
namespace Go.Proofs.YtgamjhpebmmjcaaGreatDoor
set_option maxRecDepth 100000
set_option maxHeartbeats 40000000
open Go.RowKit Flt
attribute [local go_sem] alloc_drewN setCell_drewN run_store_float
structure Spn where
 off:Int
 len:Int
def Spn.cells (v:Spn):List Value:=[.int .i64 v.off,.int .i64 v.len]
def Spn.zero:Spn:=⟨0,0⟩
abbrev Spn.agg (v:Spn):Value:=.agg #[.int .i64 v.off,.int .i64 v.len]
abbrev Spn.box (v:Spn):Obj:=.cells #[.int .i64 v.off,.int .i64 v.len] 92
structure AtP (w:World)(g o:Nat)(v:Spn):Prop where
 c0:w.cell? ⟨g,o,none⟩=some (.int .i64 v.off)
 c1:w.cell? ⟨g,o+1,none⟩=some (.int .i64 v.len)
theorem infoSpn:(Tryz.prog.info? 92).map (fun i=>(i.zero,i.size,i.bytes))=some (some (.agg #[.int .i64 0,.int .i64 0]),2,16):=by kernel_rfl
theorem make_Spn (n:Nat)(w:World)(hn:n≤1099511627776):
  (Instr.makeSlice 45 (.int .i64 (n:Int)) (.int .i64 (n:Int))).run Tryz.prog w=.ok (.slice (some ⟨w.heap.size,0,none⟩) n n) (w.alloc (.cells (madeCells #[.int .i64 0,.int .i64 0] (n*2)) 92)):=by
 obtain⟨i,hi,hz0,hz1,hz2⟩:=info_parts infoSpn
 have:=run_make (P:=Tryz.prog) w 45 92 i (.agg #[.int .i64 0,.int .i64 0]) Tryz.underlying45 hi hz0 .i64 .i64 n n (by omega) (by omega) (by rw[hz2];omega) (by omega)
 rw[hz1,Int.toNat_natCast] at this
 exact this
structure PA (w:World)(g n:Nat)(vs:List Spn):Prop where
 len:vs.length=n
 lt:g<w.heap.size
 at_:∀k,k<n→AtP w g (k*2) (vs.getD k Spn.zero)
 free:∀o,w.frozen? ⟨g,o,none⟩=false
theorem PA.made (w:World)(n:Nat):PA (w.alloc (.cells (madeCells #[.int .i64 0,.int .i64 0] (n*2)) 92)) w.heap.size n (List.replicate n Spn.zero) where
 len:=by simp
 lt:=by simp
 at_:=fun k hk=>by
  have e:(List.replicate n Spn.zero).getD k Spn.zero=Spn.zero:=by simp[List.getD_eq_getElem?_getD,hk]
  rw[e]
  have hc:∀j,j<2→(w.alloc (.cells (madeCells #[.int .i64 0,.int .i64 0] (n*2)) 92)).cell? ⟨w.heap.size,k*2+j,none⟩=some (Spn.zero.cells.getD j (.bool false)):=fun j hj=>by
   rw[World.cell?_alloc_new]
   have hlt:k*2+j<n*2:=by omega
   simp only[madeCells]
   rw[Array.getElem?_map,Array.getElem?_range,if_pos hlt]
   have hm:(k*2+j)%2=j:=by omega
   simp[hm]
   rcases (by omega:j=0∨j=1) with rfl|rfl<;>rfl
  exact⟨hc 0 (by omega),hc 1 (by omega)⟩
 free:=fun o=>by simp
abbrev put2p (w:World)(g o:Nat)(v:Spn):World:=
 ((w.setCell ⟨g,o,none⟩ (.int .i64 v.off)).setCell ⟨g,o+1,none⟩ (.int .i64 v.len))
theorem put2p_out (w:World)(g o g' b:Nat)(v:Spn)(h:g≠g'∨b<o∨o+2≤b):(put2p w g o v).cell? ⟨g',b,none⟩=w.cell? ⟨g',b,none⟩:=by
 unfold put2p
 rw[cell_ne _ _ _ _ _ _ (by omega),cell_ne _ _ _ _ _ _ (by omega)]
theorem put2p_at (w:World)(g o:Nat)(u v:Spn)(h:AtP w g o u):AtP (put2p w g o v) g o v:=by
 unfold put2p
 refine⟨?_,?_⟩
 ·rw[cell_ne _ _ _ _ _ _ (by omega)]
  exact cell_eq _ _ _ _ _ (h.c0)
 ·exact cell_eq _ _ _ _ _ (by rw[cell_ne _ _ _ _ _ _ (by omega)];exact h.c1)
theorem put2p_kept (w:World)(g o:Nat)(v:Spn):Kept g (g+1) w (put2p w g o v):=by
 unfold put2p
 have k:∀(w:World) (a:Nat) (u:Value),Kept g (g+1) w (w.setCell ⟨g,a,none⟩ u):=fun w a u=>kept_setCell w ⟨g,a,none⟩ u (.inl ⟨Nat.le_refl _,Nat.lt_succ_self _⟩)
 exact((k _ _ _).trans (k _ _ _))
theorem AtP.keep {w w':World}{g o l h:Nat}{v:Spn}(a:AtP w g o v)(hg:g<w.heap.size)(k:Kept l h w w')(hd:g<l∨h≤g∨h≤l):AtP w' g o v:=by
 have e:∀b,w'.cell? ⟨g,b,none⟩=w.cell? ⟨g,b,none⟩:=fun b=>k.cell (p:=⟨g,b,none⟩) hg (by show ¬(l≤g∧g<h);omega)
 exact⟨by rw[e];exact a.c0,by rw[e];exact a.c1⟩
theorem PA.keep {w w':World}{g n l h:Nat}{vs:List Spn}(f:PA w g n vs)(k:Kept l h w w')(hd:g<l∨h≤g∨h≤l):PA w' g n vs:=
 ⟨f.len,Nat.lt_of_lt_of_le f.lt k.size,fun i hi=>(f.at_ i hi).keep f.lt k hd,fun o=>by rw[k.frozen (p:=⟨g,o,none⟩) f.lt (by show ¬(l≤g∧g<h);omega)];exact f.free o⟩
theorem PA.step {w:World}{g n:Nat}{vs:List Spn}(f:PA w g n vs)(k:Nat)(hk:k<n)(v:Spn):PA (put2p w g (k*2) v) g n (vs.set k v) where
 len:=by rw[List.length_set];exact f.len
 lt:=Nat.lt_of_lt_of_le f.lt (put2p_kept w g (k*2) v).size
 at_:=fun i hi=>by
  rw[List.getD_eq_getElem?_getD,List.getElem?_set]
  by_cases e:k=i
  ·subst e
   rw[if_pos rfl,if_pos (by rw[f.len];exact hk)]
   exact put2p_at w g (k*2) _ v (f.at_ k hk)
  ·rw[if_neg e,←List.getD_eq_getElem?_getD]
   have a:=f.at_ i hi
   have o:∀b,i*2≤b→b<i*2+2→(put2p w g (k*2) v).cell? ⟨g,b,none⟩=w.cell? ⟨g,b,none⟩:=fun b h1 h2=>put2p_out w g (k*2) g b v (by right;omega)
   exact⟨by rw[o _ (by omega) (by omega)];exact a.c0,by rw[o _ (by omega) (by omega)];exact a.c1⟩
 free:=fun o=>by simp[put2p,f.free o]
structure PS (w:World)(lo hi:Nat)(a:Option Addr)(n:Nat)(vs:List Spn):Prop where
 len:vs.length=n
 at_:n=0∨∃g off,a=some ⟨g,off,none⟩∧lo≤g∧g<hi∧g<w.heap.size∧∀k,k<n→AtP w g (off+k*2) (vs.getD k Spn.zero)
theorem PS.keep {w w':World}{lo hi l h:Nat}{a:Option Addr}{n:Nat}{vs:List Spn}(f:PS w lo hi a n vs)(k:Kept l h w w')(hd:hi≤l∨h≤lo∨h≤l):PS w' lo hi a n vs:=
 ⟨f.len,by
  rcases f.at_ with h0|⟨g,off,e,h1,h2,h3,h4⟩
  ·exact .inl h0
  ·exact .inr ⟨g,off,e,h1,h2,Nat.lt_of_lt_of_le h3 k.size,fun j hj=>(h4 j hj).keep h3 k (by omega)⟩⟩
theorem PS.mono {w:World}{lo hi lo' hi':Nat}{a:Option Addr}{n:Nat}{vs:List Spn}(f:PS w lo hi a n vs)(h1:lo'≤lo)(h2:hi≤hi'):PS w lo' hi' a n vs:=
 ⟨f.len,by
  rcases f.at_ with h0|⟨g,off,e,q1,q2,q3,q4⟩
  ·exact .inl h0
  ·exact .inr ⟨g,off,e,by omega,by omega,q3,q4⟩⟩
theorem PA.ss {w:World}{g n:Nat}{vs:List Spn}(f:PA w g n vs):PS w 0 w.heap.size (some ⟨g,0,none⟩) n vs:=
 ⟨f.len,.inr ⟨g,0,rfl,Nat.zero_le _,f.lt,f.lt,fun k hk=>by rw[Nat.zero_add];exact f.at_ k hk⟩⟩
end Go.Proofs.YtgamjhpebmmjcaaGreatDoor
namespace Go.Proofs.YtgamjhpebmmjcaaGreatDoor
set_option maxRecDepth 100000
set_option maxHeartbeats 40000000
open Go.RowKit Flt
attribute [local go_sem] alloc_drewN setCell_drewN run_store_float
abbrev cagg (a1:Option Addr)(n1 c1:Nat)(a2:Option Addr)(n2 c2:Nat)(a3:Option Addr)(n3 c3:Nat)(pk:Int):Value:=.agg #[.slice a1 n1 c1,.slice a2 n2 c2,.slice a3 n3 c3,.int .i64 pk]
abbrev cbox (a1:Option Addr)(n1 c1:Nat)(a2:Option Addr)(n2 c2:Nat)(a3:Option Addr)(n3 c3:Nat)(pk:Int):Obj:=.cells #[.slice a1 n1 c1,.slice a2 n2 c2,.slice a3 n3 c3,.int .i64 pk] 47
abbrev cbox0:Obj:=.cells #[.slice none 0 0,.slice none 0 0,.slice none 0 0,.int .i64 0] 47
structure CS (w:World)(a1:Option Addr)(n1:Nat)(a2:Option Addr)(n2:Nat)(a3:Option Addr)(n3:Nat)(ins:List Int)(ss:List Ste)(os:List Spn):Prop where
 i:IS w 0 w.heap.size a1 n1 ins
 s:TS w 0 w.heap.size a2 n2 ss
 o:PS w 0 w.heap.size a3 n3 os
theorem CS.keep {w w':World}{a1 a2 a3:Option Addr}{n1 n2 n3:Nat}{ins:List Int}{ss:List Ste}{os:List Spn}(f:CS w a1 n1 a2 n2 a3 n3 ins ss os)(k:Kept 0 0 w w'):CS w' a1 n1 a2 n2 a3 n3 ins ss os:=
 ⟨(f.i.keep k (.inr (.inr (Nat.le_refl _)))).mono (Nat.le_refl _) k.size,(f.s.keep k (.inr (.inr (Nat.le_refl _)))).mono (Nat.le_refl _) k.size,(f.o.keep k (.inr (.inr (Nat.le_refl _)))).mono (Nat.le_refl _) k.size⟩
abbrev setC4 (w:World)(g:Nat)(x y z u:Value):World:=(((w.setCell ⟨g,0,none⟩ x).setCell ⟨g,1,none⟩ y).setCell ⟨g,2,none⟩ z).setCell ⟨g,3,none⟩ u
theorem put4_kept (w:World)(g:Nat)(x y z u:Value):Kept g (g+1) w (setC4 w g x y z u):=by
 have k:∀(w:World) (a:Nat) (u:Value),Kept g (g+1) w (w.setCell ⟨g,a,none⟩ u):=fun w a u=>kept_setCell w ⟨g,a,none⟩ u (.inl ⟨Nat.le_refl _,Nat.lt_succ_self _⟩)
 exact((k _ _ _).trans (k _ _ _)).trans (k _ _ _) |>.trans (k _ _ _)
structure C0 (W:World)(p:Nat)(b0 b1 b2 b3:Value):Prop where
 sz:p<W.heap.size
 q0:W.cell? ⟨p,0,none⟩=some b0
 q1:W.cell? ⟨p,1,none⟩=some b1
 q2:W.cell? ⟨p,2,none⟩=some b2
 q3:W.cell? ⟨p,3,none⟩=some b3
theorem C0.keepR {W W':World}{p l h:Nat}{b0 b1 b2 b3:Value}(t:C0 W p b0 b1 b2 b3)(k:Kept l h W W')(hd:p<l∨h≤p∨h≤l):C0 W' p b0 b1 b2 b3:=by
 have e:∀o,W'.cell? ⟨p,o,none⟩=W.cell? ⟨p,o,none⟩:=fun o=>k.cell (p:=⟨p,o,none⟩) t.sz (by show ¬(l≤p∧p<h);omega)
 exact⟨Nat.lt_of_lt_of_le t.sz k.size,by rw[e];exact t.q0,by rw[e];exact t.q1,by rw[e];exact t.q2,by rw[e];exact t.q3⟩
theorem C0.keep {W W':World}{p:Nat}{b0 b1 b2 b3:Value}(t:C0 W p b0 b1 b2 b3)(k:Kept 0 0 W W'):C0 W' p b0 b1 b2 b3:=t.keepR k (.inr (.inr (Nat.le_refl _)))
theorem c0_start (w:World)(b0 b1 b2 b3:Value):C0 (w.alloc (.cells #[b0,b1,b2,b3] 47)) w.heap.size b0 b1 b2 b3:=by
 refine⟨?_,?_,?_,?_,?_⟩
 all_goals first|(go_simp;done)|(simp;done)
end Go.Proofs.YtgamjhpebmmjcaaGreatDoor
