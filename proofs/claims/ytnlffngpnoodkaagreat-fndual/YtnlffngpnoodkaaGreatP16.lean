import Derived.Test.YtnlffngpnoodkaaGreatP08
import Derived.Deep.RegionWith
namespace Go.Proofs.YtnlffngpnoodkaaGreat
set_option maxRecDepth 1000000
set_option maxHeartbeats 0
open Go.RowKit Flt
attribute [local go_sem] ic ib ia
variable {w w':World} {lo g hi lo' l hi' h n n2:Nat} {xs ins outs:List Int}
theorem jq {W:World}(h:Kept 0 0 w W){o:Nat}(hg:g<w.heap.size){v:Value}(hc:w.cell? ⟨g,o,none⟩=some v):W.cell? ⟨g,o,none⟩=some v:=by
 rw[h.cell (p:=⟨g,o,none⟩) hg (by omega)];exact hc
structure Vl where
 op:Int
 len:Int
 a:Int
 b:Int
 c:Int
 k:Nat
def Vl.cells (v:Vl):List Value:=[.int .i64 v.op,.int .i64 v.len,.int .i64 v.a,.int .i64 v.b,.int .i64 v.c,.float .f64 v.k]
def Vl.zero:Vl:=⟨0,0,0,0,0,0⟩
abbrev Vl.agg (v:Vl):Value:=jA v.op v.len v.a v.b v.c v.k
structure At (w:World)(g o:Nat)(v:Vl):Prop where
 c0:w.cell? ⟨g,o,none⟩=some (.int .i64 v.op)
 c1:w.cell? ⟨g,o+1,none⟩=some (.int .i64 v.len)
 c2:w.cell? ⟨g,o+2,none⟩=some (.int .i64 v.a)
 c3:w.cell? ⟨g,o+3,none⟩=some (.int .i64 v.b)
 c4:w.cell? ⟨g,o+4,none⟩=some (.int .i64 v.c)
 c5:w.cell? ⟨g,o+5,none⟩=some (.float .f64 v.k)
theorem tP:(Tryz.prog.info? 31).map (λi=>(i.zero,i.size,i.bytes))=some (some (jA 0 0 0 0 0 0),6,48):=by kernel_rfl
structure VA (w:World)(g n:Nat)(vs:List Vl):Prop where
 len:vs.length=n
 lt:g<w.heap.size
 at_:∀k,k<n->At w g (k*6) (vs.getD k Vl.zero)
 free:∀o,w.frozen? ⟨g,o,none⟩=false
theorem iB (w:World)(g g' a b:Nat)(v:Value)(h:g≠g'\/a≠b):(w.setCell ⟨g,a,none⟩ v).cell? ⟨g',b,none⟩=w.cell? ⟨g',b,none⟩:=
 World.cell?_setCell_other w ⟨g,a,none⟩ ⟨g',b,none⟩ v (by intro c;injection c with c1 c2;omega)
theorem jI (w:World)(g a:Nat)(v u:Value)(h:w.cell? ⟨g,a,none⟩=some u):(w.setCell ⟨g,a,none⟩ v).cell? ⟨g,a,none⟩=some v:=World.cell?_setCell_same w ⟨g,a,none⟩ v h
theorem At.keep {o:Nat}{v:Vl}(a:At w g o v)(hg:g<w.heap.size)(k:Kept l h w w')(hd:g<l\/h<=g\/h<=l):At w' g o v:=by
 have e:∀b,w'.cell? ⟨g,b,none⟩=w.cell? ⟨g,b,none⟩:=λb=>k.cell (p:=⟨g,b,none⟩) hg (by show ¬(l<=g/\g<h);omega)
 exact⟨by rw[e];exact a.c0,by rw[e];exact a.c1,by rw[e];exact a.c2,by rw[e];exact a.c3,by rw[e];exact a.c4,by rw[e];exact a.c5⟩
theorem VA.keep {vs:List Vl}(f:VA w g n vs)(k:Kept l h w w')(hd:g<l\/h<=g\/h<=l):VA w' g n vs:=
 ⟨f.len,Nat.lt_of_lt_of_le f.lt k.size,λi hi=>(f.at_ i hi).keep f.lt k hd,λo=>by rw[k.frozen (p:=⟨g,o,none⟩) f.lt (by show ¬(l<=g/\g<h);omega)];exact f.free o⟩
structure VS (w:World)(lo hi:Nat)(a:Option Addr)(n:Nat)(vs:List Vl):Prop where
 len:vs.length=n
 lt:∀v∈vs,v.k<18446744073709551616
 at_:n=0\/∃g off,a=some ⟨g,off,none⟩/\lo<=g/\g<hi/\g<w.heap.size/\∀k,k<n->At w g (off+k*6) (vs.getD k Vl.zero)
theorem VS.keep {a:Option Addr}{vs:List Vl}(f:VS w lo hi a n vs)(k:Kept l h w w')(hd:hi<=l\/h<=lo\/h<=l):VS w' lo hi a n vs:=
 ⟨f.len,f.lt,by
  rcases f.at_ with h0|⟨g,off,e,h1,h2,h3,h4⟩
  ·exact .inl h0
  ·exact .inr ⟨g,off,e,h1,h2,Nat.lt_of_lt_of_le h3 k.size,λj hj=>(h4 j hj).keep h3 k (by omega)⟩⟩
theorem VA.vs {vs:List Vl}(f:VA w g n vs)(hl:∀v∈vs,v.k<18446744073709551616):VS w 0 w.heap.size (some ⟨g,0,none⟩) n vs:=
 ⟨f.len,hl,.inr ⟨g,0,rfl,Nat.zero_le _,f.lt,f.lt,λk hk=>by rw[Nat.zero_add];exact f.at_ k hk⟩⟩
def IR (w:World)(g:Nat)(xs:List Int):Prop:=w.heap[g]? =some (.cells (xs.map (Value.int .i64)).toArray 3 (0,0))
theorem IR.lt (h:IR w g xs):g<w.heap.size:=by
 unfold IR at h
 rcases Nat.lt_or_ge g w.heap.size with c|c
 ·exact c
 ·rw[Array.getElem?_eq_none c] at h;cases h
theorem IR.cell (h:IR w g xs)(k:Nat)(hk:k<xs.length):w.cell? ⟨g,k,none⟩=some (.int .i64 (xs.getD k 0)):=by
 rw[cell_of_row w g k _ _ _ h]
 simp[hk,List.getD_eq_getElem?_getD]
theorem IR.free (h:IR w g xs)(k:Nat):w.frozen? ⟨g,k,none⟩=false:=frozen_of_row w g k _ _ h
theorem IR.keep (f:IR w g xs)(k:Kept l h w w')(hd:g<l\/h<=g\/h<=l):IR w' g xs:=by
 unfold IR
 rw[k.block g f.lt (by omega)]
 exact f
theorem IR.set (h:IR w g xs)(k:Nat)(x:Int):IR (w.setCell ⟨g,k,none⟩ (.int .i64 x)) g (xs.set k x):=by
 unfold IR at h ⊢
 rw[heap_setCell_same w g k _ _ _ h]
 simp[List.map_set]
theorem IR.is (h:IR w g xs):IS w 0 w.heap.size (some ⟨g,0,none⟩) xs.length xs:=
 ⟨rfl,.inr ⟨g,0,rfl,Nat.zero_le _,h.lt,h.lt,λk hk=>by rw[Nat.zero_add];exact h.cell k hk⟩⟩
theorem IR.made (w:World)(n:Nat):IR (w.alloc (.cells (madeCells #[.int .i64 0] n) 3)) w.heap.size (List.replicate n 0):=by
 unfold IR
 rw[heap_alloc_new]
 have:(madeCells #[.int .i64 0] n)=(List.map (Value.int .i64) (List.replicate n 0)).toArray:=by
  apply Array.toList_inj.1
  rw[toList_madeCells_one]
  simp
 rw[this]
theorem ry:(Tryz.prog.info? 3).map (λi=>(i.zero,i.size,i.bytes))=some (some (.int .i64 0),1,8):=by kernel_rfl
theorem wC (xs ys:List Int)(k:Nat)(hk:k<xs.length)(hl:ys.length=xs.length):
  (xs.take k++ys.drop k).set k (xs.getD k 0)=xs.take (k+1)++ys.drop (k+1):=by
 apply List.ext_getElem?
 intro i
 simp only[List.getElem?_set,List.length_append,List.length_take,List.length_drop,List.getElem?_append,List.getElem?_take,List.getElem?_drop,List.getD_eq_getElem?_getD]
 rcases Nat.lt_trichotomy i k with h|h|h
 ·rw[if_neg (by omega),if_pos (by omega),if_pos (by omega),if_pos (by omega),if_pos (by omega)]
 ·subst h
  rw[if_pos rfl,if_pos (by omega),if_pos (by omega),if_pos (by omega),List.getElem?_eq_getElem hk];rfl
 ·rw[if_neg (by omega),if_neg (by omega),if_neg (by omega)]
  congr 1;omega
theorem sD (n:Nat)(w:World)(hn:n<=1099511627776):
  (Instr.makeSlice 23 (.int .i64 (n:Int)) (.int .i64 (n:Int))).run Tryz.prog w=.ok (.slice (some ⟨w.heap.size,0,none⟩) n n) (w.alloc (.cells (madeCells #[.int .i64 0] n) 3)):=by
 obtain⟨i,hi,hz0,hz1,hz2⟩:=info_parts ry
 have:=run_make (P:=Tryz.prog) w 23 3 i (.int .i64 0) Tryz.underlying23 hi hz0 .i64 .i64 n n (by omega) (by omega) (by rw[hz2];omega) (by omega)
 rw[hz1,Nat.mul_one,Int.toNat_natCast] at this
 exact this
abbrev ip (a1:Option Addr)(n1 c1:Nat)(a2:Option Addr)(n2 c2:Nat)(a3:Option Addr)(n3 c3:Nat):Value:=.agg #[.slice a1 n1 c1,.slice a2 n2 c2,.slice a3 n3 c3]
structure GS (w:World)(a1:Option Addr)(n1:Nat)(a2:Option Addr)(n2:Nat)(a3:Option Addr)(n3:Nat)(ins:List Int)(vs:List Vl)(outs:List Int):Prop where
 i:IS w 0 w.heap.size a1 n1 ins
 v:VS w 0 w.heap.size a2 n2 vs
 o:IS w 0 w.heap.size a3 n3 outs
theorem IS.mono {a:Option Addr}(f:IS w lo hi a n xs)(h1:lo'<=lo)(h2:hi<=hi'):IS w lo' hi' a n xs:=
 ⟨f.len,by
  rcases f.at_ with h0|⟨g,off,e,a1,a2,a3,a4⟩
  ·exact .inl h0
  ·exact .inr ⟨g,off,e,by omega,by omega,a3,a4⟩⟩
theorem VS.mono {a:Option Addr}{vs:List Vl}(f:VS w lo hi a n vs)(h1:lo'<=lo)(h2:hi<=hi'):VS w lo' hi' a n vs:=
 ⟨f.len,f.lt,by
  rcases f.at_ with h0|⟨g,off,e,a1,a2,a3,a4⟩
  ·exact .inl h0
  ·exact .inr ⟨g,off,e,by omega,by omega,a3,a4⟩⟩
theorem GS.keep {a1 a2 a3:Option Addr}{n1 n3:Nat}{vs:List Vl}(f:GS w a1 n1 a2 n2 a3 n3 ins vs outs)(k:Kept 0 0 w w'):GS w' a1 n1 a2 n2 a3 n3 ins vs outs:=
 ⟨(f.i.keep k (.inr (.inr (Nat.le_refl _)))).mono (Nat.le_refl _) k.size,(f.v.keep k (.inr (.inr (Nat.le_refl _)))).mono (Nat.le_refl _) k.size,(f.o.keep k (.inr (.inr (Nat.le_refl _)))).mono (Nat.le_refl _) k.size⟩
structure IE (w:World)(g:Nat)(xs:List Int):Prop where
 lt:g<w.heap.size
 cell:∀k,k<xs.length->w.cell? ⟨g,k,none⟩=some (.int .i64 (xs.getD k 0))
theorem IE.keep (f:IE w g xs)(k:Kept l h w w')(hd:g<l\/h<=g\/h<=l):IE w' g xs:=
 ⟨Nat.lt_of_lt_of_le f.lt k.size,λj hj=>by rw[k.cell (p:=⟨g,j,none⟩) f.lt (by show ¬(l<=g/\g<h);omega)];exact f.cell j hj⟩
theorem IE.drewN (h:IE w g xs)(m:Nat):IE (w.drewN m) g xs:=h.keep (iq 0 0 w m) (.inr (.inr (Nat.le_refl _)))
theorem IE.is (h:IE w g xs):IS w 0 w.heap.size (some ⟨g,0,none⟩) xs.length xs:=
 ⟨rfl,.inr ⟨g,0,rfl,Nat.zero_le _,h.lt,h.lt,λk hk=>by rw[Nat.zero_add];exact h.cell k hk⟩⟩
structure GN (w:World)(g1 g2 g3:Nat)(n2:Nat)(ins:List Int)(vs:List Vl)(outs:List Int):Prop where
 i:IE w g1 ins
 v:VA w g2 n2 vs
 o:IE w g3 outs
theorem GN.gs {g1 g2 g3:Nat}{vs:List Vl}(f:GN w g1 g2 g3 n2 ins vs outs)(hl:∀v∈vs,v.k<18446744073709551616):
  GS w (some ⟨g1,0,none⟩) ins.length (some ⟨g2,0,none⟩) n2 (some ⟨g3,0,none⟩) outs.length ins vs outs:=⟨f.i.is,f.v.vs hl,f.o.is⟩
theorem iD (w:World)(g:Nat)(x y z:Value):Kept g (g+1) w (((w.setCell ⟨g,0,none⟩ x).setCell ⟨g,1,none⟩ y).setCell ⟨g,2,none⟩ z):=by
 have k:∀(w:World) (a:Nat) (u:Value),Kept g (g+1) w (w.setCell ⟨g,a,none⟩ u):=λw a u=>it w ⟨g,a,none⟩ u (.inl ⟨Nat.le_refl _,Nat.lt_succ_self _⟩)
 exact((k _ _ _).trans (k _ _ _)).trans (k _ _ _)
theorem kT (w W:World)(k:Kept 0 0 w W)(g o:Nat)(v:Value)(h:w.heap.size<=g):Kept 0 0 w (W.setCell ⟨g,o,none⟩ v):=
 k.new (it (lo:=g) (hi:=g+1) W ⟨g,o,none⟩ v (.inl ⟨Nat.le_refl _,Nat.lt_succ_self _⟩)) h
structure IBk (w:World)(g n:Nat)(xs:List Int):Prop where
 len:xs.length=n
 lt:g<w.heap.size
 at_:∀k,k<n->w.cell? ⟨g,k,none⟩=some (.int .i64 (xs.getD k 0))
 free:∀o,w.frozen? ⟨g,o,none⟩=false
end Go.Proofs.YtnlffngpnoodkaaGreat
