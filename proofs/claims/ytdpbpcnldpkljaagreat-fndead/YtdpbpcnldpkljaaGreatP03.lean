import Derived.Test.YtdpbpcnldpkljaaGreatP02
namespace Go.Proofs.Z
open Tryz
set_option maxRecDepth 1000000
set_option maxHeartbeats 0
open Go.RowKit Flt
attribute [local go_sem] eD eB eA
variable {w w':World} {lo g hi lo' l hi' h n:Nat} {xs:List Int}
def fC (i n:Int):Bool:=decide (0<=i/\i<n)
theorem gI (i n:Int)(w:World):Calls prog 61 #[.int .i64 i,.int .i64 n] w λe w'=>e=.returned (.bool (fC i n))/\w'=w:=by
 by_cases h1:0<=i
 ·by_cases h2:i<n
  ·rw[show fC i n=true from decide_eq_true ⟨h1,h2⟩]
   exact xgx
  ·rw[show fC i n=false from yax (λc=>h2 c.2)]
   have t:decide (i<n)=false:=yax h2
   exact xgx
 ·rw[show fC i n=false from yax (λc=>h1 c.1)]
  have t:decide (0<=i)=false:=yax h1
  exact xgx
abbrev ib (op len A B C:Int)(K:Nat):Value:=.agg #[.int .i64 op,.int .i64 len,.int .i64 A,.int .i64 B,.int .i64 C,.float .f64 K]
abbrev fX (op len A B C:Int)(K:Nat):Obj:=.cells #[.int .i64 op,.int .i64 len,.int .i64 A,.int .i64 B,.int .i64 C,.float .f64 K] 35
def eQ (op len C:Int)(xs:List Int):Bool:=
 if op=9 then len==1&&lenB (xs.getD 0 0)
 else if op=10 then xs.getD 0 0==1
 else if op=11 then (len==1&&lenB (xs.getD 0 0))&&fC C (xs.getD 0 0)
 else if op=12 then xs.getD 0 0==1&&fC C len
 else if 1<=op/\op<=13 then xs.all (· ==len)
 else false
theorem xh (w:World)(op len A B C:Int)(K:Nat)(lo hi:Nat)(a:Option Addr)(m cap:Nat)(xs:List Int)(f:IS w lo hi a m xs)(hm:m<=3)
  (hop:op=1\/op=2\/op=3\/op=4\/op=5\/op=6\/op=7\/op=8\/op=13):
  Calls prog 88 #[ib op len A B C K,.slice a m cap] w λe w'=>e=.returned (.bool (eQ op len C xs))/\w'=w.alloc (fX op len A B C K):=by
 have f':=f.keep (ez 0 0 w (fX op len A B C K)) yaa
 clear f
 rcases hop with rfl|rfl|rfl|rfl|rfl|rfl|rfl|rfl|rfl
 all_goals
  rw[show eQ _ len C xs=xs.all (· ==len) by simp[eQ]]
  go_enter func88,ntmps88
  go_wp2_with fail
  refine(Fd _ _ _ _ _ _ _ _ f' xaa).mono ?_
  rintro e w' ⟨rfl,rfl⟩
  go_wp2
  go_ret
  exact⟨rfl,rfl⟩
theorem uJ (w:World)(op len A B C:Int)(K:Nat)(a:Option Addr)(m cap:Nat)(xs:List Int)
  (h:op≠1/\op≠2/\op≠3/\op≠4/\op≠5/\op≠6/\op≠7/\op≠8/\op≠9/\op≠10/\op≠11/\op≠12/\op≠13):
  Calls prog 88 #[ib op len A B C K,.slice a m cap] w λe w'=>e=.returned (.bool (eQ op len C xs))/\w'=w.alloc (fX op len A B C K):=by
 obtain⟨h1,h2,h3,h4,h5,h6,h7,h8,h9,h10,h11,h12,h13⟩:=h
 have e:eQ op len C xs=false:=by unfold eQ;rw[if_neg h9,if_neg h10,if_neg h11,if_neg h12,if_neg xaa]
 rw[e]
 have t1:(op==1)=false:=yam h1
 have t2:(op==2)=false:=yam h2
 have t3:(op==3)=false:=yam h3
 have t4:(op==4)=false:=yam h4
 have t5:(op==5)=false:=yam h5
 have t6:(op==6)=false:=yam h6
 have t7:(op==7)=false:=yam h7
 have t8:(op==8)=false:=yam h8
 have t9:(op==9)=false:=yam h9
 have t10:(op==10)=false:=yam h10
 have t11:(op==11)=false:=yam h11
 have t12:(op==12)=false:=yam h12
 have t13:(op==13)=false:=yam h13
 clear e h1 h2 h3 h4 h5 h6 h7 h8 h9 h10 h11 h12 h13
 go_enter func88,ntmps88
 go_wp2
 go_ret
 exact⟨rfl,rfl⟩
theorem xi (w:World)(op len A B C x:Int)(K g off cap:Nat)(hg:g<w.heap.size)(hc:w.cell? ⟨g,off,none⟩=some (.int .i64 x))
  (hop:op=9\/op=10\/op=11\/op=12):
  Calls prog 88 #[ib op len A B C K,.slice (some ⟨g,off,none⟩) 1 cap] w λe w'=>e=.returned (.bool (eQ op len C [x]))/\Kept 0 0 w w':=by
 have hc':(w.alloc (fX op len A B C K)).cell? ⟨g,off,none⟩=some (.int .i64 x):=by rw[World.cell?_alloc_past (hn:=hg)];exact hc
 rcases hop with rfl|rfl|rfl|rfl
 ·
  cases t:(len==1)
  ·rw[show eQ 9 len C [x]=false by simp[eQ,t]]
   exact xgj
  ·rw[show eQ 9 len C [x]=lenB x by simp[eQ,t]]
   go_enter func88,ntmps88
   go_wp2_with fail
   refine(gO _ _).mono ?_
   exact xjq
 ·rw[show eQ 10 len C [x]=(x==1) by simp[eQ]]
  exact xgj
 ·cases t:(len==1)
  ·rw[show eQ 11 len C [x]=false by simp[eQ,t]]
   go_enter func88,ntmps88
   go_wp2
   go_quiet (fail)
   go_wp2
   go_ret
   exact⟨rfl,(ez _ _ _ _).trans (eK _ _ _ _)⟩
  ·cases t2:lenB x
   ·rw[show eQ 11 len C [x]=false by simp[eQ,t2]]
    exact xfi
   ·rw[show eQ 11 len C [x]=fC C x by simp[eQ,t,t2]]
    exact xfi
 ·cases t:(x==1)
  ·rw[show eQ 12 len C [x]=false by simp[eQ,t]]
   exact xgj
  ·rw[show eQ 12 len C [x]=fC C len by simp[eQ,t]]
   go_enter func88,ntmps88
   go_wp2_with fail
   refine(gI _ _ _).mono ?_
   exact xjq
theorem gX (op:Int):cnt op<=3:=by
 unfold cnt
 split
 ·omega
 ·split
  ·omega
  ·split<;>omega
theorem xl (w:World)(op len A B C:Int)(K:Nat)(lo hi:Nat)(a:Option Addr)(m cap:Nat)(xs:List Int)(f:IS w lo hi a m xs)(hm:m=cnt op):
  Calls prog 88 #[ib op len A B C K,.slice a m cap] w λe w'=>e=.returned (.bool (eQ op len C xs))/\Kept 0 0 w w':=by
 have key:(op=9\/op=10\/op=11\/op=12)->Calls prog 88 #[ib op len A B C K,.slice a m cap] w λe w'=>e=.returned (.bool (eQ op len C xs))/\Kept 0 0 w w':=by
  intro hop
  have hm1:m=1:=by rw[hm];rcases hop with rfl|rfl|rfl|rfl<;>rfl
  subst hm1
  rcases f.at_ with h0|⟨g,off,rfl,a1,a2,a3,a4⟩
  ·omega
  ·obtain⟨x,rfl⟩:∃x,xs=[x]:=List.length_eq_one_iff.1 f.len
   exact xi w op len A B C x K g off cap a3 (a4 0 xaa) hop
 have hm3:m<=3:=by rw[hm];exact gX op
 rcases oZ op with h|h|h|h|h|h|h|h|h|h|h|h|h|h
 all_goals first
  |exact key xaa
  |exact(xh w op len A B C K lo hi a m cap xs f hm3 xaa).mono λ_ _ h=>⟨h.1,by rw[h.2];exact ez _ _ _ _⟩
  |exact(uJ w op len A B C K a m cap xs h).mono λ_ _ h=>⟨h.1,by rw[h.2];exact ez _ _ _ _⟩
theorem jN {W:World}(h:Kept 0 0 w W){o:Nat}(hg:g<w.heap.size){v:Value}(hc:w.cell? ⟨g,o,none⟩=some v):W.cell? ⟨g,o,none⟩=some v:=by
 rw[h.cell (p:=⟨g,o,none⟩) hg xaa];exact hc
structure Vl where
 op:Int
 len:Int
 a:Int
 b:Int
 c:Int
 k:Nat
def Vl.cells (v:Vl):List Value:=[.int .i64 v.op,.int .i64 v.len,.int .i64 v.a,.int .i64 v.b,.int .i64 v.c,.float .f64 v.k]
def Vl.zero:Vl:=⟨0,0,0,0,0,0⟩
abbrev Vl.agg (v:Vl):Value:=ib v.op v.len v.a v.b v.c v.k
structure At (w:World)(g o:Nat)(v:Vl):Prop where
 c0:w.cell? ⟨g,o,none⟩=some (.int .i64 v.op)
 c1:w.cell? ⟨g,o+1,none⟩=some (.int .i64 v.len)
 c2:w.cell? ⟨g,o+2,none⟩=some (.int .i64 v.a)
 c3:w.cell? ⟨g,o+3,none⟩=some (.int .i64 v.b)
 c4:w.cell? ⟨g,o+4,none⟩=some (.int .i64 v.c)
 c5:w.cell? ⟨g,o+5,none⟩=some (.float .f64 v.k)
theorem oh:(prog.info? 35).map (λi=>(i.zero,i.size,i.bytes))=some (some (ib 0 0 0 0 0 0),6,48):=by kernel_rfl
structure VA (w:World)(g n:Nat)(vs:List Vl):Prop where
 len:vs.length=n
 lt:g<w.heap.size
 at_:∀k,k<n->At w g (k*6) (vs.getD k Vl.zero)
 free:∀o,w.frozen? ⟨g,o,none⟩=false
theorem eW (w:World)(g g' a b:Nat)(v:Value)(h:g≠g'\/a≠b):(w.setCell ⟨g,a,none⟩ v).cell? ⟨g',b,none⟩=w.cell? ⟨g',b,none⟩:=
 World.cell?_setCell_other w ⟨g,a,none⟩ ⟨g',b,none⟩ v (by intro c;injection c with c1 c2;omega)
theorem fR (w:World)(g a:Nat)(v u:Value)(h:w.cell? ⟨g,a,none⟩=some u):(w.setCell ⟨g,a,none⟩ v).cell? ⟨g,a,none⟩=some v:=World.cell?_setCell_same w ⟨g,a,none⟩ v h
theorem At.keep {o:Nat}{v:Vl}(a:At w g o v)(hg:g<w.heap.size)(k:Kept l h w w')(hd:g<l\/h<=g\/h<=l):At w' g o v:=by
 have e:∀b,w'.cell? ⟨g,b,none⟩=w.cell? ⟨g,b,none⟩:=λb=>k.cell (p:=⟨g,b,none⟩) hg (by show ¬(l<=g/\g<h);omega)
 exact⟨by rw[e];exact a.c0,by rw[e];exact a.c1,by rw[e];exact a.c2,by rw[e];exact a.c3,by rw[e];exact a.c4,by rw[e];exact a.c5⟩
theorem VA.keep {vs:List Vl}(f:VA w g n vs)(k:Kept l h w w')(hd:g<l\/h<=g\/h<=l):VA w' g n vs:=
 ⟨f.len,yaj f.lt k.size,λi hi=>(f.at_ i hi).keep f.lt k hd,λo=>by rw[k.frozen (p:=⟨g,o,none⟩) f.lt (by show ¬(l<=g/\g<h);omega)];exact f.free o⟩
structure VS (w:World)(lo hi:Nat)(a:Option Addr)(n:Nat)(vs:List Vl):Prop where
 len:vs.length=n
 lt:∀v∈vs,v.k<18446744073709551616
 at_:n=0\/∃g off,a=some ⟨g,off,none⟩/\lo<=g/\g<hi/\g<w.heap.size/\∀k,k<n->At w g (off+k*6) (vs.getD k Vl.zero)
theorem VS.keep {a:Option Addr}{vs:List Vl}(f:VS w lo hi a n vs)(k:Kept l h w w')(hd:hi<=l\/h<=lo\/h<=l):VS w' lo hi a n vs:=
 ⟨f.len,f.lt,by
  rcases f.at_ with h0|⟨g,off,e,h1,h2,h3,h4⟩
  ·exact .inl h0
  ·exact .inr ⟨g,off,e,h1,h2,yaj h3 k.size,λj hj=>(h4 j hj).keep h3 k xaa⟩⟩
theorem VA.vs {vs:List Vl}(f:VA w g n vs)(hl:∀v∈vs,v.k<18446744073709551616):VS w 0 w.heap.size (some ⟨g,0,none⟩) n vs:=
 ⟨f.len,hl,.inr ⟨g,0,rfl,Nat.zero_le _,f.lt,f.lt,λk hk=>by rw[Nat.zero_add];exact f.at_ k hk⟩⟩
def IR (w:World)(g:Nat)(xs:List Int):Prop:=w.heap[g]? =some (.cells (xs.map (Value.int .i64)).toArray 3 (0,0))
theorem IR.lt (h:IR w g xs):g<w.heap.size:=by
 unfold IR at h
 exact xhy
theorem IR.cell (h:IR w g xs)(k:Nat)(hk:k<xs.length):w.cell? ⟨g,k,none⟩=some (.int .i64 (xs.getD k 0)):=by
 exact xjr
theorem IR.free (h:IR w g xs)(k:Nat):w.frozen? ⟨g,k,none⟩=false:=frozen_of_row w g k _ _ h
theorem IR.keep (f:IR w g xs)(k:Kept l h w w')(hd:g<l\/h<=g\/h<=l):IR w' g xs:=by
 unfold IR
 rw[k.block g f.lt xaa]
 exact f
theorem IR.set (h:IR w g xs)(k:Nat)(x:Int):IR (w.setCell ⟨g,k,none⟩ (.int .i64 x)) g (xs.set k x):=by
 unfold IR at h ⊢
 rw[heap_setCell_same w g k _ _ _ h]
 simp[List.map_set]
theorem IR.is (h:IR w g xs):IS w 0 w.heap.size (some ⟨g,0,none⟩) xs.length xs:=
 ⟨rfl,.inr ⟨g,0,rfl,Nat.zero_le _,h.lt,h.lt,λk hk=>by rw[Nat.zero_add];exact h.cell k hk⟩⟩
theorem IR.made (w:World)(n:Nat):IR (w.alloc (.cells (madeCells #[.int .i64 0] n) 3)) w.heap.size (List.replicate n 0):=by
 unfold IR
 rw[heap_alloc_new]
 have:(madeCells #[.int .i64 0] n)=(List.map (Value.int .i64) (List.replicate n 0)).toArray:=by
  apply Array.toList_inj.1
  rw[toList_madeCells_one]
  simp
 rw[this]
theorem oi:(prog.info? 3).map (λi=>(i.zero,i.size,i.bytes))=some (some (.int .i64 0),1,8):=by kernel_rfl
theorem qm (xs ys:List Int)(k:Nat)(hk:k<xs.length)(hl:ys.length=xs.length):
  (xs.take k++ys.drop k).set k (xs.getD k 0)=xs.take (k+1)++ys.drop (k+1):=by
 apply List.ext_getElem?
 intro i
 simp only[List.getElem?_set,yak,List.length_take,List.length_drop,List.getElem?_append,List.getElem?_take,List.getElem?_drop,yah]
 rcases Nat.lt_trichotomy i k with h|h|h
 ·rw[if_neg xaa,if_pos xaa,if_pos xaa,if_pos xaa,if_pos xaa]
 ·subst h
  rw[if_pos rfl,if_pos xaa,if_pos xaa,if_pos xaa,yal hk];rfl
 ·rw[if_neg xaa,if_neg xaa,if_neg xaa]
  congr 1;omega
theorem o6 (n:Nat)(w:World)(hn:n<=1099511627776):
  (Instr.makeSlice 23 (.int .i64 (n:Int)) (.int .i64 (n:Int))).run prog w=.ok (.slice (some ⟨w.heap.size,0,none⟩) n n) (w.alloc (.cells (madeCells #[.int .i64 0] n) 3)):=by
 obtain⟨i,hi,hz0,hz1,hz2⟩:=info_parts oi
 have:=run_make (P:=prog) w 23 3 i (.int .i64 0) underlying23 hi hz0 .i64 .i64 n n xaa xaa (by rw[hz2];omega) xaa
 rw[hz1,Nat.mul_one,Int.toNat_natCast] at this
 exact this
abbrev eR (a1:Option Addr)(n1 c1:Nat)(a2:Option Addr)(n2 c2:Nat)(a3:Option Addr)(n3 c3:Nat):Value:=.agg #[.slice a1 n1 c1,.slice a2 n2 c2,.slice a3 n3 c3]
structure GS (w:World)(a1:Option Addr)(n1:Nat)(a2:Option Addr)(n2:Nat)(a3:Option Addr)(n3:Nat)(ins:List Int)(vs:List Vl)(outs:List Int):Prop where
 i:IS w 0 w.heap.size a1 n1 ins
 v:VS w 0 w.heap.size a2 n2 vs
 o:IS w 0 w.heap.size a3 n3 outs
theorem IS.mono {a:Option Addr}(f:IS w lo hi a n xs)(h1:lo'<=lo)(h2:hi<=hi'):IS w lo' hi' a n xs:=
 ⟨f.len,by
  rcases f.at_ with h0|⟨g,off,e,a1,a2,a3,a4⟩
  ·exact .inl h0
  ·exact .inr ⟨g,off,e,by omega,by omega,a3,a4⟩⟩
theorem VS.mono {a:Option Addr}{vs:List Vl}(f:VS w lo hi a n vs)(h1:lo'<=lo)(h2:hi<=hi'):VS w lo' hi' a n vs:=
 ⟨f.len,f.lt,by
  rcases f.at_ with h0|⟨g,off,e,a1,a2,a3,a4⟩
  ·exact .inl h0
  ·exact .inr ⟨g,off,e,by omega,by omega,a3,a4⟩⟩
theorem GS.keep {a1 a2 a3:Option Addr}{n1 n2 n3:Nat}{ins:List Int}{vs:List Vl}{outs:List Int}(f:GS w a1 n1 a2 n2 a3 n3 ins vs outs)(k:Kept 0 0 w w'):GS w' a1 n1 a2 n2 a3 n3 ins vs outs:=
 ⟨(f.i.keep k yaa).mono yad k.size,(f.v.keep k yaa).mono yad k.size,(f.o.keep k yaa).mono yad k.size⟩
structure IE (w:World)(g:Nat)(xs:List Int):Prop where
 lt:g<w.heap.size
 cell:∀k,k<xs.length->w.cell? ⟨g,k,none⟩=some (.int .i64 (xs.getD k 0))
theorem IE.keep (f:IE w g xs)(k:Kept l h w w')(hd:g<l\/h<=g\/h<=l):IE w' g xs:=
 ⟨yaj f.lt k.size,λj hj=>by rw[k.cell (p:=⟨g,j,none⟩) f.lt (by show ¬(l<=g/\g<h);omega)];exact f.cell j hj⟩
theorem IE.is (h:IE w g xs):IS w 0 w.heap.size (some ⟨g,0,none⟩) xs.length xs:=
 ⟨rfl,.inr ⟨g,0,rfl,Nat.zero_le _,h.lt,h.lt,λk hk=>by rw[Nat.zero_add];exact h.cell k hk⟩⟩
theorem fc (w:World)(g:Nat)(x y z:Value):Kept g (g+1) w (((w.setCell ⟨g,0,none⟩ x).setCell ⟨g,1,none⟩ y).setCell ⟨g,2,none⟩ z):=by
 have k:∀(w:World) (a:Nat) (u:Value),Kept g (g+1) w (w.setCell ⟨g,a,none⟩ u):=λw a u=>eL w ⟨g,a,none⟩ u yac
 exact((k _ _ _).trans (k _ _ _)).trans (k _ _ _)
theorem o9 (w W:World)(k:Kept 0 0 w W)(g o:Nat)(v:Value)(h:w.heap.size<=g):Kept 0 0 w (W.setCell ⟨g,o,none⟩ v):=
 k.new (eL (lo:=g) (hi:=g+1) W ⟨g,o,none⟩ v yac) h
