import Derived.Test.YtgamjhpebmmjcaaGreatDoorP07
import Derived.Test.YtgamjhpebmmjcaaGreatDoorP06
import Derived.Test.YtgamjhpebmmjcaaGreatDoorP08
import Derived.Deep.AppendLies
import Derived.Maps.OwnSet
import Derived.Maps.OwnOps
import Derived.DeepKeys4
import Derived.Deep.DrawnRows
namespace Go.Proofs.YtgamjhpebmmjcaaGreatDoor
set_option maxRecDepth 100000
set_option maxHeartbeats 40000000
open Go.RowKit Flt
attribute [local go_sem] alloc_drewN setCell_drewN run_store_float
def BR (w:World)(g:Nat)(xs:List Bool):Prop:=w.heap[g]? =some (.cells (xs.map Value.bool).toArray 4 (0,0))
theorem BR.lt {w:World}{g:Nat}{xs:List Bool}(h:BR w g xs):g<w.heap.size:=by
 unfold BR at h
 rcases Nat.lt_or_ge g w.heap.size with c|c
 ·exact c
 ·rw[Array.getElem?_eq_none c] at h;cases h
theorem BR.cell {w:World}{g:Nat}{xs:List Bool}(h:BR w g xs)(k:Nat)(hk:k<xs.length):w.cell? ⟨g,k,none⟩=some (.bool (xs.getD k false)):=by
 rw[cell_of_row w g k _ _ _ h]
 simp[hk,List.getD_eq_getElem?_getD]
theorem BR.free {w:World}{g:Nat}{xs:List Bool}(h:BR w g xs)(k:Nat):w.frozen? ⟨g,k,none⟩=false:=frozen_of_row w g k _ _ h
theorem BR.keep {w w':World}{g l h:Nat}{xs:List Bool}(f:BR w g xs)(k:Kept l h w w')(hd:g<l∨h≤g∨h≤l):BR w' g xs:=by
 unfold BR
 rw[k.block g f.lt (by omega)]
 exact f
theorem BR.keepC {w w':World}{S:Nat→Prop}{g:Nat}{xs:List Bool}(f:BR w g xs)(k:Chg S w w')(hd:¬S g):BR w' g xs:=by
 unfold BR
 rw[k.block g f.lt hd]
 exact f
theorem BR.set {w:World}{g:Nat}{xs:List Bool}(h:BR w g xs)(k:Nat)(x:Bool):BR (w.setCell ⟨g,k,none⟩ (.bool x)) g (xs.set k x):=by
 unfold BR at h ⊢
 rw[heap_setCell_same w g k _ _ _ h]
 simp[List.map_set]
theorem BR.made (w:World)(n:Nat):BR (w.alloc (.cells (madeCells #[.bool false] n) 4)) w.heap.size (List.replicate n false):=by
 unfold BR
 rw[heap_alloc_new]
 have:(madeCells #[.bool false] n)=(List.map Value.bool (List.replicate n false)).toArray:=by
  apply Array.toList_inj.1
  rw[toList_madeCells_one]
  simp
 rw[this]
theorem infoB:(Tryz.prog.info? 4).map (fun i=>(i.zero,i.size,i.bytes))=some (some (.bool false),1,1):=by kernel_rfl
theorem make_b (n:Nat)(w:World)(hn:n≤1099511627776):
  (Instr.makeSlice 141 (.int .i64 (n:Int)) (.int .i64 (n:Int))).run Tryz.prog w=.ok (.slice (some ⟨w.heap.size,0,none⟩) n n) (w.alloc (.cells (madeCells #[.bool false] n) 4)):=by
 obtain⟨i,hi,hz0,hz1,hz2⟩:=info_parts infoB
 have:=run_make (P:=Tryz.prog) w 141 4 i (.bool false) Tryz.underlying141 hi hz0 .i64 .i64 n n (by omega) (by omega) (by rw[hz2];omega) (by omega)
 rw[hz1,Nat.mul_one,Int.toNat_natCast] at this
 exact this
theorem IR.keepC {w w':World}{S:Nat→Prop}{g:Nat}{xs:List Int}(f:IR w g xs)(k:Chg S w w')(hd:¬S g):IR w' g xs:=by
 unfold IR
 rw[k.block g f.lt hd]
 exact f
theorem VA.keepC {w w':World}{S:Nat→Prop}{g n:Nat}{vs:List Vl}(q:VA w g n vs)(k:Chg S w w')(hd:¬S g):VA w' g n vs:=
 ⟨q.len,Nat.lt_of_lt_of_le q.lt k.size,fun j hj=>by
  have e:∀o,w'.cell? ⟨g,o,none⟩=w.cell? ⟨g,o,none⟩:=fun o=>k.cell (p:=⟨g,o,none⟩) q.lt hd
  obtain⟨c0,c1,c2,c3,c4,c5⟩:=q.at_ j hj
  exact⟨by rw[e];exact c0,by rw[e];exact c1,by rw[e];exact c2,by rw[e];exact c3,by rw[e];exact c4,by rw[e];exact c5⟩,fun o=>by rw[k.frozen (p:=⟨g,o,none⟩) q.lt hd];exact q.free o⟩
theorem IBk.keepC {w w':World}{S:Nat→Prop}{g n:Nat}{xs:List Int}(q:IBk w g n xs)(k:Chg S w w')(hd:¬S g):IBk w' g n xs:=
 ⟨q.len,Nat.lt_of_lt_of_le q.lt k.size,fun j hj=>by rw[k.cell (p:=⟨g,j,none⟩) q.lt hd];exact q.at_ j hj,fun o=>by rw[k.frozen (p:=⟨g,o,none⟩) q.lt hd];exact q.free o⟩
theorem Chg.mono {S T:Nat→Prop}{w w':World}(h:Chg S w w')(hs:∀b,b<w.heap.size→S b→T b):Chg T w w':=
 ⟨h.os,h.tape,h.output,h.size,fun k hk hn=>h.block k hk fun c=>hn (hs k hk c)⟩
theorem Chg.trans {S:Nat→Prop}{a b c:World}(h:Chg S a b)(k:Chg S b c):Chg S a c:=Chg.andThen h k
theorem Chg.new {S T:Nat→Prop}{a b c:World}(h:Chg S a b)(k:Chg T b c)(hT:∀i,i<a.heap.size→T i→S i):Chg S a c:=
 ⟨k.os.trans h.os,k.tape.trans h.tape,k.output.trans h.output,Nat.le_trans h.size k.size,fun i hi hn=>(k.block i (Nat.lt_of_lt_of_le hi h.size) (fun c=>hn (hT i hi c))).trans (h.block i hi hn)⟩
theorem chg_setCell {S:Nat→Prop}(w:World)(g o:Nat)(v:Value)(h:S g):Chg S w (w.setCell ⟨g,o,none⟩ v):=
 (kept_setCell (lo:=g) (hi:=g+1) w ⟨g,o,none⟩ v (.inl ⟨Nat.le_refl _,Nat.lt_succ_self _⟩)).chg1 h
structure PG (w:World)(g1 g2 g3 n1 n2 n3:Nat)(ins:List Int)(vs:List Vl)(outs:List Int):Prop where
 i:IBk w g1 n1 ins
 v:VA w g2 n2 vs
 o:IBk w g3 n3 outs
 d12:g1≠g2
 d13:g1≠g3
 d23:g2≠g3
theorem PG.keep {w w':World}{g1 g2 g3 n1 n2 n3:Nat}{ins:List Int}{vs:List Vl}{outs:List Int}(f:PG w g1 g2 g3 n1 n2 n3 ins vs outs)(k:Kept 0 0 w w'):PG w' g1 g2 g3 n1 n2 n3 ins vs outs:=
 ⟨f.i.keep k (.inr (.inr (Nat.le_refl _))),f.v.keep k (.inr (.inr (Nat.le_refl _))),f.o.keep k (.inr (.inr (Nat.le_refl _))),f.d12,f.d13,f.d23⟩
theorem IBk.is {w:World}{g n:Nat}{xs:List Int}(f:IBk w g n xs):IS w 0 w.heap.size (some ⟨g,0,none⟩) n xs:=
 ⟨f.len,.inr ⟨g,0,rfl,Nat.zero_le _,f.lt,f.lt,fun k hk=>by rw[Nat.zero_add];exact f.at_ k hk⟩⟩
theorem set_mid {α:Type}(xs ys:List α)(y z:α):(xs++y::ys).set xs.length z=xs++z::ys:=by
 rw[List.set_append_right _ _ (Nat.le_refl _),Nat.sub_self];rfl
theorem drop_cons {vs:List Vl}{i:Nat}(h:i<vs.length):vs.drop i=vs.getD i Vl.zero::vs.drop (i+1):=by
 rw[List.drop_eq_getElem_cons h,List.getD_eq_getElem?_getD,List.getElem?_eq_getElem h];rfl
end Go.Proofs.YtgamjhpebmmjcaaGreatDoor
namespace Go.Proofs.YtgamjhpebmmjcaaGreatDoor
set_option maxRecDepth 100000
set_option maxHeartbeats 40000000
open Go.RowKit Flt
attribute [local go_sem] alloc_drewN setCell_drewN run_store_float
def flatT:List Ste→List Value
 |[]=>[]
 |v::r=>v.cells++flatT r
theorem flatT_append (a b:List Ste):flatT (a++b)=flatT a++flatT b:=by
 induction a with
 |nil=>rfl
 |cons x r ih=>simp[flatT,ih]
theorem flatT_one (v:Ste):flatT [v]=v.cells:=by simp[flatT]
theorem flatT_at:∀(a:List Ste) (k j:Nat),k<a.length→j<8→(flatT a)[k*8+j]? =(a.getD k Ste.zero).cells[j]?
 |[],k,j,hk,_=>by simp at hk
 |x::r,0,j,_,hj=>by
  have:(x::r).getD 0 Ste.zero=x:=rfl
  rw[this,flatT,List.getElem?_append_left (by simp only[Ste.cells,List.length_cons,List.length_nil];omega),Nat.zero_mul,Nat.zero_add]
 |x::r,k+1,j,hk,hj=>by
  have:(x::r).getD (k+1) Ste.zero=r.getD k Ste.zero:=rfl
  rw[this,flatT,List.getElem?_append_right (by simp only[Ste.cells,List.length_cons,List.length_nil];omega)]
  have e:(k+1)*8+j-x.cells.length=k*8+j:=by simp only[Ste.cells,List.length_cons,List.length_nil];omega
  rw[e]
  exact flatT_at r k j (by simpa using hk) hj
def flatP:List Spn→List Value
 |[]=>[]
 |v::r=>v.cells++flatP r
theorem flatP_append (a b:List Spn):flatP (a++b)=flatP a++flatP b:=by
 induction a with
 |nil=>rfl
 |cons x r ih=>simp[flatP,ih]
theorem flatP_one (v:Spn):flatP [v]=v.cells:=by simp[flatP]
theorem flatP_len (a:List Spn):(flatP a).length=a.length*2:=by
 induction a with
 |nil=>rfl
 |cons x r ih=>simp only[flatP,List.length_append,ih,List.length_cons];simp only[Spn.cells,List.length_cons,List.length_nil];omega
theorem flatP_at:∀(a:List Spn) (k j:Nat),k<a.length→j<2→(flatP a)[k*2+j]? =(a.getD k Spn.zero).cells[j]?
 |[],k,j,hk,_=>by simp at hk
 |x::r,0,j,_,hj=>by
  have:(x::r).getD 0 Spn.zero=x:=rfl
  rw[this,flatP,List.getElem?_append_left (by simp only[Spn.cells,List.length_cons,List.length_nil];omega),Nat.zero_mul,Nat.zero_add]
 |x::r,k+1,j,hk,hj=>by
  have:(x::r).getD (k+1) Spn.zero=r.getD k Spn.zero:=rfl
  rw[this,flatP,List.getElem?_append_right (by simp only[Spn.cells,List.length_cons,List.length_nil];omega)]
  have e:(k+1)*2+j-x.cells.length=k*2+j:=by simp only[Spn.cells,List.length_cons,List.length_nil];omega
  rw[e]
  exact flatP_at r k j (by simpa using hk) hj
def steM (vs:List Vl)(ps:List Int)(i:Nat):Ste:=
 ⟨(vs.getD i Vl.zero).op,(vs.getD i Vl.zero).len,
  if 0<cnt (vs.getD i Vl.zero).op then (vs.getD (vs.getD i Vl.zero).a.toNat Vl.zero).len else 0,
  ps.getD i 0,
  if 0<cnt (vs.getD i Vl.zero).op then ps.getD (vs.getD i Vl.zero).a.toNat 0 else (vs.getD i Vl.zero).a,
  if 1<cnt (vs.getD i Vl.zero).op then ps.getD (vs.getD i Vl.zero).b.toNat 0 else (vs.getD i Vl.zero).b,
  if 2<cnt (vs.getD i Vl.zero).op then ps.getD (vs.getD i Vl.zero).c.toNat 0 else (vs.getD i Vl.zero).c,
  if (vs.getD i Vl.zero).op=1 then (vs.getD i Vl.zero).k else 0⟩
def stesTo (vs:List Vl)(ps:List Int)(k:Nat):List Ste:=(List.range k).map (steM vs ps)
theorem stesTo_succ (vs:List Vl)(ps:List Int)(k:Nat):stesTo vs ps (k+1)=stesTo vs ps k++[steM vs ps k]:=by
 unfold stesTo
 rw[List.range_succ,List.map_append];rfl
theorem stesTo_len (vs:List Vl)(ps:List Int)(k:Nat):(stesTo vs ps k).length=k:=by simp[stesTo]
def peakTo (vs:List Vl)(ps:List Int):Nat→Int
 |0=>0
 |k+1=>if peakTo vs ps k<ps.getD k 0+(vs.getD k Vl.zero).len then ps.getD k 0+(vs.getD k Vl.zero).len else peakTo vs ps k
def spnM (vs:List Vl)(ps:List Int)(o:Int):Spn:=⟨ps.getD o.toNat 0,(vs.getD o.toNat Vl.zero).len⟩
structure KB (W:World)(p:Nat)(b0 b1 b2 b3:Value):Prop where
 sz:p<W.heap.size
 q0:W.cell? ⟨p,0,none⟩=some b0
 q1:W.cell? ⟨p,1,none⟩=some b1
 q2:W.cell? ⟨p,2,none⟩=some b2
 q3:W.cell? ⟨p,3,none⟩=some b3
 f0:W.frozen? ⟨p,0,none⟩=false
 f1:W.frozen? ⟨p,1,none⟩=false
 f2:W.frozen? ⟨p,2,none⟩=false
 f3:W.frozen? ⟨p,3,none⟩=false
theorem KB.keepC {W W':World}{S:Nat→Prop}{p:Nat}{b0 b1 b2 b3:Value}(t:KB W p b0 b1 b2 b3)(k:Chg S W W')(hd:¬S p):KB W' p b0 b1 b2 b3:=by
 have e:∀o,W'.cell? ⟨p,o,none⟩=W.cell? ⟨p,o,none⟩:=fun o=>World.cell?_of_block (k.block p t.sz hd)
 have f:∀o,W'.frozen? ⟨p,o,none⟩=W.frozen? ⟨p,o,none⟩:=fun o=>World.frozen?_of_block (k.block p t.sz hd)
 exact⟨Nat.lt_of_lt_of_le t.sz k.size,by rw[e];exact t.q0,by rw[e];exact t.q1,by rw[e];exact t.q2,by rw[e];exact t.q3,by rw[f];exact t.f0,by rw[f];exact t.f1,by rw[f];exact t.f2,by rw[f];exact t.f3⟩
theorem KB.keep {W W':World}{p:Nat}{b0 b1 b2 b3:Value}(t:KB W p b0 b1 b2 b3)(k:Kept 0 0 W W'):KB W' p b0 b1 b2 b3:=t.keepC (S:=fun _=>False) k.chg (fun h=>h)
theorem KB.put1 {W:World}{p:Nat}{b0 b1 b2 b3:Value}(t:KB W p b0 b1 b2 b3)(v:Value):KB (W.setCell ⟨p,1,none⟩ v) p b0 v b2 b3:=
 ⟨by simpa using t.sz,by rw[cell_ne _ _ _ _ _ _ (.inr (by omega))];exact t.q0,cell_eq _ _ _ _ _ t.q1,by rw[cell_ne _ _ _ _ _ _ (.inr (by omega))];exact t.q2,by rw[cell_ne _ _ _ _ _ _ (.inr (by omega))];exact t.q3,by simp[t.f0],by simp[t.f1],by simp[t.f2],by simp[t.f3]⟩
theorem KB.put2 {W:World}{p:Nat}{b0 b1 b2 b3:Value}(t:KB W p b0 b1 b2 b3)(v:Value):KB (W.setCell ⟨p,2,none⟩ v) p b0 b1 v b3:=
 ⟨by simpa using t.sz,by rw[cell_ne _ _ _ _ _ _ (.inr (by omega))];exact t.q0,by rw[cell_ne _ _ _ _ _ _ (.inr (by omega))];exact t.q1,cell_eq _ _ _ _ _ t.q2,by rw[cell_ne _ _ _ _ _ _ (.inr (by omega))];exact t.q3,by simp[t.f0],by simp[t.f1],by simp[t.f2],by simp[t.f3]⟩
theorem KB.put3 {W:World}{p:Nat}{b0 b1 b2 b3:Value}(t:KB W p b0 b1 b2 b3)(v:Value):KB (W.setCell ⟨p,3,none⟩ v) p b0 b1 b2 v:=
 ⟨by simpa using t.sz,by rw[cell_ne _ _ _ _ _ _ (.inr (by omega))];exact t.q0,by rw[cell_ne _ _ _ _ _ _ (.inr (by omega))];exact t.q1,by rw[cell_ne _ _ _ _ _ _ (.inr (by omega))];exact t.q2,cell_eq _ _ _ _ _ t.q3,by simp[t.f0],by simp[t.f1],by simp[t.f2],by simp[t.f3]⟩
structure LP (W w1:World)(C B:Nat)(x0 u v:Value)(k m:Nat)(pk:Int)(ss:List Ste)(os:List Spn):Prop where
 bx:KB W C x0 u v (.int .i64 pk)
 pu:W.ownsRow B 89 8 u k (flatT ss)
 pv:W.ownsRow B 92 2 v m (flatP os)
 ne:∀g,u.ownBlock=some g→v.ownBlock≠some g
 ch:Chg (fun b=>b=C∨B≤b) w1 W
 bz:B≤W.heap.size
theorem LP.keep {W W' w1:World}{C B:Nat}{x0 u v:Value}{k m:Nat}{pk:Int}{ss:List Ste}{os:List Spn}(f:LP W w1 C B x0 u v k m pk ss os)(q:Kept 0 0 W W'):LP W' w1 C B x0 u v k m pk ss os:=
 ⟨f.bx.keep q,own_keepJ f.pu q,own_keepJ f.pv q,f.ne,Chg.trans f.ch q.chg,Nat.le_trans f.bz q.size⟩
theorem LP.mid {W w9 w1:World}{C B:Nat}{x0 u v:Value}{k m:Nat}{pk:Int}{ss:List Ste}{os:List Spn}{o:Obj}{z:Nat}(f:LP W w1 C B x0 u v k m pk ss os)(hC:C<B)(hg:((W.alloc o).drewN z).grownBy w9 u.ownBlock):KB w9 C x0 u v (.int .i64 pk):=by
 have ka:Kept 0 0 W ((W.alloc o).drewN z):=(kept_alloc 0 0 W o).trans (kept_drewN 0 0 _ z)
 exact(f.bx.keep ka).keepC (chg_grow hg) (fun c=>by have:=(own_blkV f.pu c).1;omega)
theorem LP.putU {W w9 w1:World}{C B:Nat}{x0 u v:Value}{k m:Nat}{pk:Int}{ss:List Ste}{os:List Spn}{o:Obj}{z g cap:Nat}{s:Ste}(f:LP W w1 C B x0 u v k m pk ss os)(hC:C<B)(ho:w9.ownsRow B 89 8 (.slice (some ⟨g,0,none⟩) (k+1) cap) (k+1) (flatT ss++s.cells))(hg:((W.alloc o).drewN z).grownBy w9 u.ownBlock)(ha:u.ownBlock=some g∨g=W.heap.size+1):
  LP (w9.setCell ⟨C,1,none⟩ (.slice (some ⟨g,0,none⟩) (k+1) cap)) w1 C B x0 (.slice (some ⟨g,0,none⟩) (k+1) cap) v (k+1) m pk (ss++[s]) os:=by
 have ka:Kept 0 0 W ((W.alloc o).drewN z):=(kept_alloc 0 0 W o).trans (kept_drewN 0 0 _ z)
 have cg:=chg_grow hg
 have hR:∀b,u.ownBlock=some b→B≤b:=fun b hb=>(own_blkV f.pu hb).1
 have ko:=kept_setCell (lo:=C) (hi:=C+1) w9 ⟨C,1,none⟩ (.slice (some ⟨g,0,none⟩) (k+1) cap) (.inl ⟨Nat.le_refl _,Nat.lt_succ_self _⟩)
 have hgB:=(own_blkV ho (k:=g) rfl).1
 refine⟨(LP.mid f hC hg).put1 _,?_,?_,?_,?_,?_⟩
 ·rw[flatT_append,flatT_one]
  exact own_setCell ho (fun c=>by simp[Value.ownBlock] at c;omega)
 ·refine own_setCell (own_keepC (own_keepJ f.pv ka) cg ?_) (fun c=>by have:=(own_blkV f.pv c).1;omega)
  intro b hb c
  exact f.ne b c hb
 ·intro b hb hv
  simp[Value.ownBlock] at hb
  subst hb
  rcases ha with c|c
  ·exact f.ne g c hv
  ·have:=(own_blkV f.pv hv).2
   omega
 ·exact Chg.trans f.ch (Chg.trans ka.chg (Chg.trans (cg.mono fun b _ c=>.inr (hR b c)) (ko.chg1 (.inl rfl))))
 ·have h1:=f.bz
  have h5:=ka.size
  have h6:=cg.size
  have h7:=ko.size
  omega
theorem LP.midV {W w9 w1:World}{C B:Nat}{x0 u v:Value}{k m:Nat}{pk:Int}{ss:List Ste}{os:List Spn}{o:Obj}{z:Nat}(f:LP W w1 C B x0 u v k m pk ss os)(hC:C<B)(hg:((W.alloc o).drewN z).grownBy w9 v.ownBlock):KB w9 C x0 u v (.int .i64 pk):=by
 have ka:Kept 0 0 W ((W.alloc o).drewN z):=(kept_alloc 0 0 W o).trans (kept_drewN 0 0 _ z)
 exact(f.bx.keep ka).keepC (chg_grow hg) (fun c=>by have:=(own_blkV f.pv c).1;omega)
theorem LP.putV {W w9 w1:World}{C B:Nat}{x0 u v:Value}{k m:Nat}{pk:Int}{ss:List Ste}{os:List Spn}{o:Obj}{z g cap:Nat}{s:Spn}(f:LP W w1 C B x0 u v k m pk ss os)(hC:C<B)(ho:w9.ownsRow B 92 2 (.slice (some ⟨g,0,none⟩) (m+1) cap) (m+1) (flatP os++s.cells))(hg:((W.alloc o).drewN z).grownBy w9 v.ownBlock)(ha:v.ownBlock=some g∨g=W.heap.size+1):
  LP (w9.setCell ⟨C,2,none⟩ (.slice (some ⟨g,0,none⟩) (m+1) cap)) w1 C B x0 u (.slice (some ⟨g,0,none⟩) (m+1) cap) k (m+1) pk ss (os++[s]):=by
 have ka:Kept 0 0 W ((W.alloc o).drewN z):=(kept_alloc 0 0 W o).trans (kept_drewN 0 0 _ z)
 have cg:=chg_grow hg
 have hR:∀b,v.ownBlock=some b→B≤b:=fun b hb=>(own_blkV f.pv hb).1
 have ko:=kept_setCell (lo:=C) (hi:=C+1) w9 ⟨C,2,none⟩ (.slice (some ⟨g,0,none⟩) (m+1) cap) (.inl ⟨Nat.le_refl _,Nat.lt_succ_self _⟩)
 have hgB:=(own_blkV ho (k:=g) rfl).1
 refine⟨(LP.midV f hC hg).put2 _,?_,?_,?_,?_,?_⟩
 ·refine own_setCell (own_keepC (own_keepJ f.pu ka) cg ?_) (fun c=>by have:=(own_blkV f.pu c).1;omega)
  intro b hb c
  exact f.ne b hb c
 ·rw[flatP_append,flatP_one]
  exact own_setCell ho (fun c=>by simp[Value.ownBlock] at c;omega)
 ·intro b hb hv
  simp[Value.ownBlock] at hv
  subst hv
  rcases ha with c|c
  ·exact f.ne _ hb c
  ·have:=(own_blkV f.pu hb).2
   omega
 ·exact Chg.trans f.ch (Chg.trans ka.chg (Chg.trans (cg.mono fun b _ c=>.inr (hR b c)) (ko.chg1 (.inl rfl))))
 ·have h1:=f.bz
  have h5:=ka.size
  have h6:=cg.size
  have h7:=ko.size
  omega
theorem LP.putP {W w1:World}{C B:Nat}{x0 u v:Value}{k m:Nat}{pk:Int}{ss:List Ste}{os:List Spn}(f:LP W w1 C B x0 u v k m pk ss os)(hC:C<B)(x:Int):LP (W.setCell ⟨C,3,none⟩ (.int .i64 x)) w1 C B x0 u v k m x ss os:=by
 have ko:=kept_setCell (lo:=C) (hi:=C+1) W ⟨C,3,none⟩ (.int .i64 x) (.inl ⟨Nat.le_refl _,Nat.lt_succ_self _⟩)
 exact⟨f.bx.put3 _,own_setCell f.pu (fun c=>by have:=(own_blkV f.pu c).1;omega),own_setCell f.pv (fun c=>by have:=(own_blkV f.pv c).1;omega),f.ne,Chg.trans f.ch (ko.chg1 (.inl rfl)),Nat.le_trans f.bz ko.size⟩
theorem news8 (w:World)(v:Ste)(m:Nat):∀j u,v.cells[j]? =some u→((w.alloc v.box).drewN m).cell? ((⟨w.heap.size,0,none⟩:Addr).add j)=some u:=
 World.news_of_block (w:=w.alloc v.box) (t:=89) (fr:=(0,0)) (cs:=#[.int .i64 v.op,.int .i64 v.len,.int .i64 v.n,.int .i64 v.dst,.int .i64 v.a,.int .i64 v.b,.int .i64 v.c,.float .f64 v.k]) (heap_new w _)
theorem one8 (v:Ste):∀u∈v.cells,u.oneCell'=true:=by
 intro u hu
 simp[Ste.cells] at hu
 rcases hu with rfl|rfl|rfl|rfl|rfl|rfl|rfl|rfl<;>rfl
theorem news2 (w:World)(v:Spn)(m:Nat):∀j u,v.cells[j]? =some u→((w.alloc v.box).drewN m).cell? ((⟨w.heap.size,0,none⟩:Addr).add j)=some u:=
 World.news_of_block (w:=w.alloc v.box) (t:=92) (fr:=(0,0)) (cs:=#[.int .i64 v.off,.int .i64 v.len]) (heap_new w _)
theorem one2 (v:Spn):∀u∈v.cells,u.oneCell'=true:=by
 intro u hu
 simp[Spn.cells] at hu
 rcases hu with rfl|rfl<;>rfl
theorem atV_new (w:World)(v:Vl):At (w.alloc (vbox v.op v.len v.a v.b v.c v.k)) w.heap.size 0 v:=by
 constructor
 all_goals first|(go_simp;done)|(simp;done)
theorem put4_0 (w:World)(g:Nat)(b0 b1 b2 b3:Value)(c0:w.cell? ⟨g,0,none⟩=some b0)(c1:w.cell? ⟨g,1,none⟩=some b1)(c2:w.cell? ⟨g,2,none⟩=some b2)(c3:w.cell? ⟨g,3,none⟩=some b3)(x y z u:Value):
  (setC4 w g x y z u).cell? ⟨g,0,none⟩=some x∧(setC4 w g x y z u).cell? ⟨g,1,none⟩=some y∧(setC4 w g x y z u).cell? ⟨g,2,none⟩=some z∧(setC4 w g x y z u).cell? ⟨g,3,none⟩=some u:=by
 unfold setC4
 refine⟨?_,?_,?_,?_⟩
 ·rw[cell_ne _ _ _ _ _ _ (.inr (by omega)),cell_ne _ _ _ _ _ _ (.inr (by omega)),cell_ne _ _ _ _ _ _ (.inr (by omega))]
  exact cell_eq _ _ _ _ _ c0
 ·rw[cell_ne _ _ _ _ _ _ (.inr (by omega)),cell_ne _ _ _ _ _ _ (.inr (by omega))]
  exact cell_eq _ _ _ _ _ (by rw[cell_ne _ _ _ _ _ _ (.inr (by omega))];exact c1)
 ·rw[cell_ne _ _ _ _ _ _ (.inr (by omega))]
  exact cell_eq _ _ _ _ _ (by rw[cell_ne _ _ _ _ _ _ (.inr (by omega)),cell_ne _ _ _ _ _ _ (.inr (by omega))];exact c2)
 ·exact cell_eq _ _ _ _ _ (by rw[cell_ne _ _ _ _ _ _ (.inr (by omega)),cell_ne _ _ _ _ _ _ (.inr (by omega)),cell_ne _ _ _ _ _ _ (.inr (by omega))];exact c3)
theorem kb_start (w:World):KB (w.alloc cbox0) w.heap.size (.slice none 0 0) (.slice none 0 0) (.slice none 0 0) (.int .i64 0):=by
 constructor
 all_goals first|(go_simp;done)|(simp;done)
theorem kb_one (w:World)(x:Value):KB (w.alloc (.cells #[x,.slice none 0 0,.slice none 0 0,.int .i64 0] 47)) w.heap.size x (.slice none 0 0) (.slice none 0 0) (.int .i64 0):=by
 constructor
 all_goals first|(go_simp;done)|(simp;done)
theorem lp_start (w:World)(x:Value):LP (w.alloc (.cells #[x,.slice none 0 0,.slice none 0 0,.int .i64 0] 47)) w w.heap.size (w.heap.size+1) x (.slice none 0 0) (.slice none 0 0) 0 0 0 [] []:=
 ⟨kb_one w x,World.ownsRow_nil _ _ _ _,World.ownsRow_nil _ _ _ _,fun g h=>by simp[Value.ownBlock] at h,(kept_alloc 0 0 w _).chg,by simp⟩
end Go.Proofs.YtgamjhpebmmjcaaGreatDoor
namespace Go.Proofs.YtgamjhpebmmjcaaGreatDoor
set_option maxRecDepth 100000
set_option maxHeartbeats 40000000
open Go.RowKit Flt
attribute [local go_sem] alloc_drewN setCell_drewN run_store_float
theorem own_tsL {W:World}{base n d:Nat}{b:Option Addr}{xs:List Ste}(h:W.ownsRow base 89 8 (.slice b n d) n (flatT xs))(hl:xs.length=n)(hk:∀v∈xs,v.k<18446744073709551616):TS W base W.heap.size b n xs:=by
 refine⟨hl,hk,?_⟩
 rcases h.2 with⟨_,c⟩|⟨g,cap,cur,e,b1,b2,b3,_,b5,b6⟩
 ·exact .inl c
 ·injection e with q1 q2 q3
  have hg:g<W.heap.size:=by
   rcases Nat.lt_or_ge g W.heap.size with c|c
   ·exact c
   ·rw[Array.getElem?_eq_none c] at b2;cases b2
  refine .inr ⟨g,0,q1,b1,hg,hg,fun k hk=>?_⟩
  have hc:∀j,j<8→W.cell? ⟨g,0+k*8+j,none⟩=(xs.getD k Ste.zero).cells[j]?:=fun j hj=>by
   rw[cell_of_row W g _ cur _ _ b2,←Array.getElem?_toList]
   have:(cur.toList.take (n*8))[k*8+j]? =(flatT xs)[k*8+j]?:=by rw[b6]
   rw[List.getElem?_take_of_lt (by omega),flatT_at _ _ _ (by omega) hj] at this
   rw[Nat.zero_add]
   exact this
  exact⟨hc 0 (by omega),hc 1 (by omega),hc 2 (by omega),hc 3 (by omega),hc 4 (by omega),hc 5 (by omega),hc 6 (by omega),hc 7 (by omega)⟩
theorem own_psL {W:World}{base n d:Nat}{b:Option Addr}{xs:List Spn}(h:W.ownsRow base 92 2 (.slice b n d) n (flatP xs))(hl:xs.length=n):PS W base W.heap.size b n xs:=by
 refine⟨hl,?_⟩
 rcases h.2 with⟨_,c⟩|⟨g,cap,cur,e,b1,b2,b3,_,b5,b6⟩
 ·exact .inl c
 ·injection e with q1 q2 q3
  have hg:g<W.heap.size:=by
   rcases Nat.lt_or_ge g W.heap.size with c|c
   ·exact c
   ·rw[Array.getElem?_eq_none c] at b2;cases b2
  refine .inr ⟨g,0,q1,b1,hg,hg,fun k hk=>?_⟩
  have hc:∀j,j<2→W.cell? ⟨g,0+k*2+j,none⟩=(xs.getD k Spn.zero).cells[j]?:=fun j hj=>by
   rw[cell_of_row W g _ cur _ _ b2,←Array.getElem?_toList]
   have:(cur.toList.take (n*2))[k*2+j]? =(flatP xs)[k*2+j]?:=by rw[b6]
   rw[List.getElem?_take_of_lt (by omega),flatP_at _ _ _ (by omega) hj] at this
   rw[Nat.zero_add]
   exact this
  exact⟨hc 0 (by omega),hc 1 (by omega)⟩
theorem own_isL {W:World}{base n d:Nat}{b:Option Addr}{xs:List Int}(h:W.ownsRow base 3 1 (.slice b n d) n (xs.map (Value.int .i64)))(hl:xs.length=n):IS W base W.heap.size b n xs:=by
 rcases own_io h hl with h0|⟨g,e,hb,q⟩
 ·exact⟨hl,.inl h0⟩
 ·exact⟨hl,.inr ⟨g,0,e,hb,q.lt,q.lt,fun k hk=>by rw[Nat.zero_add];exact q.at_ k hk⟩⟩
end Go.Proofs.YtgamjhpebmmjcaaGreatDoor
namespace Go.Proofs.YtgamjhpebmmjcaaGreatDoor
set_option maxRecDepth 100000
set_option maxHeartbeats 40000000
open Go.RowKit Flt
attribute [local go_sem] alloc_drewN setCell_drewN run_store_float
theorem mapO_len (tq outs:List Int):(mapO tq outs).length=outs.length:=by simp[mapO]
theorem mapO_set {tq outs:List Int}{k:Nat}(hk:k<outs.length):((mapO tq outs).take k++outs.drop k).set k (tq.getD (outs.getD k 0).toNat 0)=(mapO tq outs).take (k+1)++outs.drop (k+1):=by
 have e:=set_takeI (mapO tq outs) outs k (by rw[mapO_len];exact hk) (by rw[mapO_len])
 have:(mapO tq outs).getD k 0=tq.getD (outs.getD k 0).toNat 0:=by
  unfold mapO
  rw[List.getD_eq_getElem?_getD,List.getElem?_map,List.getElem?_eq_getElem hk,List.getD_eq_getElem?_getD (l:=outs),List.getElem?_eq_getElem hk]
  rfl
 rw[this] at e
 exact e
theorem drop_at {outs ys:List Int}{k:Nat}(hk:k<outs.length)(hy:ys.length=outs.length):(ys.take k++outs.drop k).getD k 0=outs.getD k 0:=by
 rw[List.getD_eq_getElem?_getD,List.getElem?_append_right (by simp;omega),List.getD_eq_getElem?_getD,List.getElem?_drop]
 congr 2
 simp
 omega
theorem renumberOuts (w:World)(a1 a2:Option Addr)(n1 c1 n2 c2 g3 n3 c3 lo hi:Nat)(a:Option Addr)(n cap:Nat)(tq outs:List Int)(f:IBk w g3 n3 outs)(t:IS w lo hi a n tq)(hd:hi≤g3∨g3<lo)(h:∀o∈outs,0≤o∧o<n)(hn:n3≤1000000):
  Calls Tryz.prog 104 #[gagg a1 n1 c1 a2 n2 c2 (some ⟨g3,0,none⟩) n3 c3,.slice a n cap] w fun e w'=>e=.returned (.tuple #[])∧IBk w' g3 n3 (mapO tq outs)∧Kept g3 (g3+1) w w':=by
 have k0:=kept_alloc 0 0 w (gbox a1 n1 c1 a2 n2 c2 (some ⟨g3,0,none⟩) n3 c3)
 have HB:Hid _:=g0_start w (.slice a1 n1 c1) (.slice a2 n2 c2) (.slice (some ⟨g3,0,none⟩) n3 c3)
 have HF:Hid _:=f.keep k0 (.inr (.inr (Nat.le_refl _)))
 have HT:Hid _:=t.keep k0 (.inr (.inr (Nat.le_refl _)))
 have HL:Hid (outs.length=n3):=f.len
 have HG:Hid (g3<w.heap.size):=f.lt
 have HO:Hid _:=h
 have HK0:Hid (Kept g3 (g3+1) w (w.alloc (gbox a1 n1 c1 a2 n2 c2 (some ⟨g3,0,none⟩) n3 c3))):=kept_alloc _ _ _ _
 clear f t h k0
 obtain⟨_,q0,q1,q2⟩:=HB.out
 go_enter Tryz.func104,Tryz.ntmps104
 go_wp2_with fail
 clear q0 q1 q2
 generalize w.alloc (gbox a1 n1 c1 a2 n2 c2 (some ⟨g3,0,none⟩) n3 c3)=w1 at HB HF HT HK0 ⊢
 go_loopw [9] (fun i W=>∃k:Nat,k≤n3∧i=.int .i64 k∧Hid (IBk W g3 n3 ((mapO tq outs).take k++outs.drop k))∧Hid (Kept g3 (g3+1) w1 W)) (fun i _=>n3-(intOf i).toNat)
 case atStart=>exact⟨0,Nat.zero_le _,rfl,by simpa using HF,Kept.refl _ _ _⟩
 case round=>
  obtain⟨k,hk,rfl,hF,hK⟩:=hrel
  clear HF
  by_cases hlt:k<n3
  ·have ho:=HO.out (outs.getD k 0) (getD_memJ (by rw[HL.out];exact hlt))
   obtain⟨g,off,m,rfl,em,hm,hg,ct⟩:=(IS.keep HT.out hK.out (by omega)).at_idx ho.1 ho.2
   have c1':=hF.out.at_ k hlt
   rw[drop_at (by rw[HL.out];exact hlt) (mapO_len _ _),em] at c1'
   have fz:=hF.out.free k
   obtain⟨_,q0,q1,q2⟩:=G0.keepT HB.out hK.out (by have:=HG.out;omega)
   have R1:Hid _:=IBk.put hF.out k hlt (tq.getD (outs.getD k 0).toNat 0)
   rw[mapO_set (by rw[HL.out];exact hlt)] at R1
   have R2:Hid _:=Kept.trans hK.out (kept_setCell (lo:=g3) (hi:=g3+1) wr ⟨g3,k,none⟩ (.int .i64 (tq.getD (outs.getD k 0).toNat 0)) (.inl ⟨Nat.le_refl _,Nat.lt_succ_self _⟩))
   generalize tq.getD (outs.getD k 0).toNat 0=x at ct R1 R2
   clear hF hK ho em
   go_wp2_with fail
   go_region
   all_goals
    go_wp2
    go_roundw
    case rel=>exact⟨k+1,by omega,by go_num,IBk.keep R1.out (kept_drew _) (.inr (.inr (Nat.le_refl _))),Kept.drew R2.out⟩
    case measure=>simp[intOf];omega
  ·obtain rfl:k=n3:=by omega
   have R1:Hid (IBk wr g3 k (mapO tq outs)):=by
    have:=hF.out
    rw[List.take_of_length_le (by rw[mapO_len,HL.out];omega),List.drop_of_length_le (by rw[HL.out];omega),List.append_nil] at this
    exact this
   have R2:Hid _:=Kept.trans HK0.out hK.out
   clear hF hK
   go_wp2
   go_end0
   exact⟨rfl,R1.out,R2.out⟩
end Go.Proofs.YtgamjhpebmmjcaaGreatDoor
namespace Go.Proofs.YtgamjhpebmmjcaaGreatDoor
set_option maxRecDepth 100000
set_option maxHeartbeats 40000000
open Go.RowKit Flt
attribute [local go_sem] alloc_drewN setCell_drewN run_store_float
theorem setAll_take (F:List Bool)(os:List Int){k:Nat}(hk:k<os.length):setAll F (os.take (k+1))=(setAll F (os.take k)).set (os.getD k 0).toNat true:=by
 unfold setAll
 rw[List.take_succ_eq_append_getElem hk,List.foldl_append,List.getD_eq_getElem?_getD,List.getElem?_eq_getElem hk]
 rfl
theorem ndI_step {vs:List Vl}{outs:List Int}{k:Nat}{b:Bool}(hb:(ndI vs outs k).getD (vs.length-1-k) false=b):ndI vs outs (k+1)=if b=true then setAll (ndI vs outs k) (opsOf (vs.getD (vs.length-1-k) Vl.zero)) else ndI vs outs k:=by
 rw[ndI,hb]
theorem neededVals (w:World)(a1:Option Addr)(n1 c1 g2 n2 c2 g3 n3 c3:Nat)(vs:List Vl)(outs:List Int)(hv:VA w g2 n2 vs)(ho:IBk w g3 n3 outs)(hops:∀i,i<n2→∀o∈opsOf (vs.getD i Vl.zero),0≤o∧o<i)(houts:∀o∈outs,0≤o∧o<n2)(hn:n2≤2000)(hn3:n3≤1000000):
  Calls Tryz.prog 102 #[gagg a1 n1 c1 (some ⟨g2,0,none⟩) n2 c2 (some ⟨g3,0,none⟩) n3 c3] w fun e w'=>∃G,e=.returned (.slice (some ⟨G,0,none⟩) n2 n2)∧w.heap.size≤G∧BR w' G (ndI vs outs n2)∧Kept 0 0 w w':=by
 have k0:=kept_alloc 0 0 w (gbox a1 n1 c1 (some ⟨g2,0,none⟩) n2 c2 (some ⟨g3,0,none⟩) n3 c3)
 have hB:=g0_start w (.slice a1 n1 c1) (.slice (some ⟨g2,0,none⟩) n2 c2) (.slice (some ⟨g3,0,none⟩) n3 c3)
 have hz:(w.alloc (gbox a1 n1 c1 (some ⟨g2,0,none⟩) n2 c2 (some ⟨g3,0,none⟩) n3 c3)).heap.size=w.heap.size+1:=by simp
 have hm:=make_b n2 (w.alloc (gbox a1 n1 c1 (some ⟨g2,0,none⟩) n2 c2 (some ⟨g3,0,none⟩) n3 c3)) (by omega)
 have hBR:=BR.made (w.alloc (gbox a1 n1 c1 (some ⟨g2,0,none⟩) n2 c2 (some ⟨g3,0,none⟩) n3 c3)) n2
 have k1:=kept_alloc 0 0 (w.alloc (gbox a1 n1 c1 (some ⟨g2,0,none⟩) n2 c2 (some ⟨g3,0,none⟩) n3 c3)) (.cells (madeCells #[.bool false] n2) 4)
 rw[hz] at hm hBR
 have HB:Hid _:=hB.keep k1
 have HV:Hid _:=hv.keep (k0.trans k1) (.inr (.inr (Nat.le_refl _)))
 have HO:Hid _:=ho.keep (k0.trans k1) (.inr (.inr (Nat.le_refl _)))
 have HK:Hid _:=k0.trans k1
 have HBR:Hid _:=hBR
 have HL:Hid (vs.length=n2∧outs.length=n3):=⟨hv.len,ho.len⟩
 have HG:Hid (g2<w.heap.size∧g3<w.heap.size):=⟨hv.lt,ho.lt⟩
 have HP:Hid ((∀i,i<n2→∀o∈opsOf (vs.getD i Vl.zero),0≤o∧o<i)∧(∀o∈outs,0≤o∧o<n2)):=⟨hops,houts⟩
 clear hv ho hops houts k0 k1 hBR hz
 obtain⟨_,q0,q1,q2⟩:=hB
 obtain⟨_,p0,p1,p2⟩:=HB.out
 go_enter Tryz.func102,Tryz.ntmps102
 go_wp2_with fail
 clear q0 q1 q2 p0 p1 p2 hm
 generalize (w.alloc (gbox a1 n1 c1 (some ⟨g2,0,none⟩) n2 c2 (some ⟨g3,0,none⟩) n3 c3)).alloc (.cells (madeCells #[.bool false] n2) 4)=w1 at HB HV HO HK HBR ⊢
 go_loopw [16] (fun i W=>∃k:Nat,k≤n3∧i=.int .i64 k∧Hid (BR W (w.heap.size+1) (setAll (List.replicate n2 false) (outs.take k)))∧Hid (Kept (w.heap.size+1) (w.heap.size+2) w1 W)) (fun i _=>n3-(intOf i).toNat)
 case atStart=>exact⟨0,Nat.zero_le _,rfl,HBR,Kept.refl _ _ _⟩
 case round=>
  obtain⟨k,hk,rfl,hF,hK⟩:=hrel
  clear HBR
  by_cases hlt:k<n3
  ·have hob:=HP.out.2 (outs.getD k 0) (getD_memJ (by rw[HL.out.2];exact hlt))
   obtain⟨m,em,hm⟩:∃m:Nat,outs.getD k 0=m∧m<n2:=⟨(outs.getD k 0).toNat,by omega,by omega⟩
   have c1':=(IBk.keep HO.out hK.out (by have:=HG.out;omega)).at_ k hlt
   rw[em] at c1'
   have hl:(setAll (List.replicate n2 false) (outs.take k)).length=n2:=by rw[setAll_len];simp
   have c2':=hF.out.cell m (by omega)
   have fz:=hF.out.free m
   have R1:Hid _:=BR.set hF.out m true
   rw[show m=(outs.getD k 0).toNat by omega,←setAll_take _ _ (by rw[HL.out.2];exact hlt),←show m=(outs.getD k 0).toNat by omega] at R1
   have R2:Hid _:=Kept.trans hK.out (kept_setCell (lo:=w.heap.size+1) (hi:=w.heap.size+2) wr ⟨w.heap.size+1,m,none⟩ (.bool true) (.inl ⟨Nat.le_refl _,Nat.lt_succ_self _⟩))
   generalize (setAll (List.replicate n2 false) (outs.take k)).getD m false=z at c2'
   clear hF hK hob em hl
   go_wp2
   go_roundw
   case rel=>exact⟨k+1,by omega,by go_num,R1,R2⟩
   case measure=>simp[intOf];omega
  ·obtain rfl:k=n3:=by omega
   have HF0:Hid (BR wr (w.heap.size+1) (ndI vs outs 0)):=by
    have:=hF.out
    rw[List.take_of_length_le (by rw[HL.out.2];omega)] at this
    show BR _ _ _
    rw[ndI,HL.out.1]
    exact this
   have HK0:Hid _:=hK.out
   clear hF hK
   obtain⟨_,p0,p1,p2⟩:=G0.keepT HB.out HK0.out (by omega)
   go_wp2_with fail
   clear p0 p1 p2
   go_loopw [6] (fun x W=>∃j:Nat,j≤n2∧x=.int .i64 ((n2:Int)-1-j)∧Hid (BR W (w.heap.size+1) (ndI vs outs j))∧Hid (Kept (w.heap.size+1) (w.heap.size+2) w1 W)) (fun x _=>(intOf x+1).toNat)
   case atStart=>exact⟨0,Nat.zero_le _,by go_num,HF0,HK0⟩
   case round=>
    obtain⟨j,hj,rfl,hF,hK⟩:=hrel
    clear HF0 HK0
    by_cases hlt:j<n2
    ·have hjl:n2-1-j<n2:=by omega
     obtain⟨i,hi⟩:∃i:Nat,i=n2-1-j:=⟨_,rfl⟩
     have hi2:(n2:Int)-1-j=i:=by omega
     have hi3:i<n2:=by omega
     rw[hi2]
     have HI0:Hid (i=n2-1-j):=hi
     have HI1:Hid ((n2:Int)-1-j=i):=hi2
     clear hi hi2 hjl
     have hln:=ndI_len vs outs j
     have cb:=hF.out.cell i (by rw[hln,HL.out.1];exact hi3)
     cases hb:(ndI vs outs j).getD i false
     ·have R1:Hid (BR wr (w.heap.size+1) (ndI vs outs (j+1))):=by
       show BR _ _ _
       rw[ndI_step (b:=false) (by rw[HL.out.1,←HI0.out];exact hb),if_neg (by simp)]
       exact hF.out
      have R2:Hid _:=hK.out
      rw[hb] at cb
      clear hF hK hln hb
      go_wp2
      go_roundw
      case rel=>exact⟨j+1,by omega,by have:=HI1.out;congr 1<;>omega,R1,R2⟩
      case measure=>have:=HI1.out;simp[intOf]<;>omega
     ·rw[hb] at cb
      have hat:=(VA.keep HV.out hK.out (by have:=HG.out;omega)).at_ i hi3
      have HOP:Hid _:=HP.out.1 i hi3
      have HN:Hid (ndI vs outs (j+1)=setAll (ndI vs outs j) (opsOf (vs.getD i Vl.zero))):=by
       show _=_
       rw[ndI_step (b:=true) (by rw[HL.out.1,←HI0.out];exact hb),if_pos rfl,HL.out.1,←HI0.out]
      have HLN:Hid ((ndI vs outs j).length=n2):=by show _=_;rw[hln,HL.out.1]
      generalize vs.getD i Vl.zero=v at hat HOP HN
      obtain⟨y0,y1,y2,y3,y4,y5⟩:=hat
      obtain⟨_,p0,p1,p2⟩:=G0.keepT HB.out hK.out (by omega)
      clear hb hln
      go_wp2_with fail
      clear y0 y1 y2 y3 y4 y5 p0 p1 p2 cb
      refine Calls.mono (operandsOf wr v) ?_
      rintro e w2 ⟨gq,rfl,hI,hgq,k2⟩
      have HI:Hid _:=hI
      have HK2:Hid _:=Kept.trans hK.out (k2.mono (lo':=w.heap.size+1) (hi':=w.heap.size+2) fun b _ c=>by omega)
      have HF2:Hid _:=BR.keep hF.out k2 (.inr (.inr (Nat.le_refl _)))
      have HS2:Hid (w.heap.size+2≤wr.heap.size):=hF.out.lt
      clear hI hgq k2 hF hK
      generalize ndI vs outs j=F at HF2 HN HLN
      have hc3:=cnt_le v.op
      go_wp2_with fail
      go_loopw [44] (fun x W=>∃q:Nat,q≤cnt v.op∧x=.int .i64 q∧Hid (BR W (w.heap.size+1) (setAll F ((opsOf v).take q)))∧Hid (Kept (w.heap.size+1) (w.heap.size+2) w1 W)∧Hid (IS W wr.heap.size w2.heap.size (some ⟨gq,0,none⟩) (cnt v.op) (opsOf v))) (fun x _=>cnt v.op-(intOf x).toNat)
      case atStart=>exact⟨0,Nat.zero_le _,rfl,HF2,HK2,HI⟩
      case round=>
       obtain⟨q,hq,rfl,hF,hK,hI⟩:=hrel
       clear HF2 HK2 HI
       by_cases hql:q<cnt v.op
       ·have hmem:(opsOf v).getD q 0∈opsOf v:=getD_memJ (by rw[opsOf_len];exact hql)
        have hob:=HOP.out _ hmem
        obtain⟨m,em,hm⟩:∃m:Nat,(opsOf v).getD q 0=m∧m<n2:=⟨((opsOf v).getD q 0).toNat,by omega,by omega⟩
        obtain⟨ga,oa,ka,ea,eq1,_,_,c1'⟩:=hI.out.at_idx (o:=q) (by omega) (by omega)
        cases ea
        rw[Int.toNat_natCast,em,Nat.zero_add] at c1'
        obtain rfl:q=ka:=by omega
        have hl:(setAll F ((opsOf v).take q)).length=n2:=by rw[setAll_len];exact HLN.out
        have c2':=hF.out.cell m (by omega)
        have fz:=hF.out.free m
        have R1:Hid _:=BR.set hF.out m true
        rw[show m=((opsOf v).getD q 0).toNat by omega,←setAll_take _ _ (by rw[opsOf_len];exact hql),←show m=((opsOf v).getD q 0).toNat by omega] at R1
        have kp:=kept_setCell (lo:=w.heap.size+1) (hi:=w.heap.size+2) wr ⟨w.heap.size+1,m,none⟩ (.bool true) (.inl ⟨Nat.le_refl _,Nat.lt_succ_self _⟩)
        have R2:Hid _:=Kept.trans hK.out kp
        have R3:Hid _:=IS.keep hI.out kp (by have:=HS2.out;omega)
        generalize (setAll F ((opsOf v).take q)).getD m false=z at c2'
        clear hF hK hI hob em hl kp hmem
        go_wp2
        go_roundw
        case rel=>exact⟨q+1,by omega,by go_num,R1,R2,R3⟩
        case measure=>simp[intOf];omega
       ·obtain rfl:q=cnt v.op:=by omega
        have R1:Hid (BR wr (w.heap.size+1) (ndI vs outs (j+1))):=by
         have:=hF.out
         rw[List.take_of_length_le (by rw[opsOf_len];omega)] at this
         show BR _ _ _
         rw[HN.out]
         exact this
        have R2:Hid _:=hK.out
        clear hF hK hI
        go_wp2
        go_roundw
        case rel=>exact⟨j+1,by omega,by have:=HI1.out;congr 1<;>omega,R1,R2⟩
        case measure=>have:=HI1.out;simp[intOf]<;>omega
    ·obtain rfl:j=n2:=by omega
     have hx:(j:Int)-1-j=-1:=by omega
     rw[hx]
     have R1:Hid _:=hF.out
     have R2:Hid (Kept 0 0 w wr):=HK.out.new hK.out (by omega)
     clear hF hK
     go_wp2
     go_ret
     exact⟨_,rfl,by omega,R1.out,R2.out⟩
end Go.Proofs.YtgamjhpebmmjcaaGreatDoor
namespace Go.Proofs.YtgamjhpebmmjcaaGreatDoor
set_option maxRecDepth 100000
set_option maxHeartbeats 40000000
open Go.RowKit Flt
attribute [local go_sem] alloc_drewN setCell_drewN run_store_float
attribute [local go_sem ↓] Go.wp_at_zero Go.wp_at_succ
theorem IR.isAt {w:World}{g n:Nat}{xs:List Int}(h:IR w g xs)(hl:xs.length=n):IS w g (g+1) (some ⟨g,0,none⟩) n xs:=
 ⟨hl,.inr ⟨g,0,rfl,Nat.le_refl _,Nat.lt_succ_self _,h.lt,fun k hk=>by rw[Nat.zero_add];exact h.cell k (by omega)⟩⟩
theorem Chg.refl (S:Nat→Prop)(w:World):Chg S w w:=(Kept.refl 0 0 w).chg
theorem mid_at {us vs:List Vl}{i:Nat}(hl:us.length=i):(us++vs.drop i).getD i Vl.zero=vs.getD i Vl.zero:=by
 rw[List.getD_eq_getElem?_getD,List.getElem?_append_right (by omega),List.getD_eq_getElem?_getD,List.getElem?_drop]
 congr 2
 omega
theorem mid_set {us vs:List Vl}{i:Nat}{v:Vl}(hl:us.length=i)(hi:i<vs.length):(us++vs.drop i).set i v=us++[v]++vs.drop (i+1):=by
 subst hl
 rw[drop_cons hi,set_mid]
 simp
theorem RB.keepC {W W':World}{S:Nat→Prop}{p:Nat}{b0 b1 b2:Value}(t:RB W p b0 b1 b2)(k:Chg S W W')(hd:¬S p):RB W' p b0 b1 b2:=by
 have e:∀o,W'.cell? ⟨p,o,none⟩=W.cell? ⟨p,o,none⟩:=fun o=>k.cell (p:=⟨p,o,none⟩) t.sz hd
 have f:∀o,W'.frozen? ⟨p,o,none⟩=W.frozen? ⟨p,o,none⟩:=fun o=>k.frozen (p:=⟨p,o,none⟩) t.sz hd
 exact⟨Nat.lt_of_lt_of_le t.sz k.size,by rw[e];exact t.q0,by rw[e];exact t.q1,by rw[e];exact t.q2,by rw[f];exact t.f0,by rw[f];exact t.f1,by rw[f];exact t.f2⟩
end Go.Proofs.YtgamjhpebmmjcaaGreatDoor
namespace Go.Proofs.YtgamjhpebmmjcaaGreatDoor
set_option maxRecDepth 100000
set_option maxHeartbeats 40000000
open Go.RowKit Flt
attribute [local go_sem] alloc_drewN setCell_drewN run_store_float
theorem own_va {W:World}{base n gk cap:Nat}{ks:List Vl}(h:W.ownsRow base 87 6 (.slice (some ⟨gk,0,none⟩) n cap) n (flat ks))(hl:ks.length=n):VA W gk n ks∧base≤gk:=by
 rcases Nat.eq_zero_or_pos n with h0|h0
 ·subst h0
  rcases h.2 with⟨e,_⟩|⟨g,c,cur,e,b1,b2,b3⟩
  ·cases e
  ·cases e
   have hlt:gk<W.heap.size:=by
    rcases Nat.lt_or_ge gk W.heap.size with c|c
    ·exact c
    ·rw[Array.getElem?_eq_none c] at b2;cases b2
   exact⟨⟨hl,hlt,fun k hk=>by omega,fun o=>frozen_of_row W gk o _ _ b2⟩,b1⟩
 ·obtain⟨g,c,e,h1,_,_,hA⟩:=row_at h h0 hl
  cases e
  exact⟨hA,h1⟩
theorem own_ioS {W:World}{base n G cap:Nat}{xs:List Int}(h:OI W base G n cap xs)(hl:xs.length=n):IBk W G n xs:=by
 rcases Nat.eq_zero_or_pos n with h0|h0
 ·subst h0
  rcases h.2 with⟨e,_⟩|⟨g,c,cur,e,b1,b2,b3⟩
  ·cases e
  ·cases e
   have hlt:G<W.heap.size:=by
    rcases Nat.lt_or_ge G W.heap.size with c|c
    ·exact c
    ·rw[Array.getElem?_eq_none c] at b2;cases b2
   exact⟨hl,hlt,fun k hk=>by omega,fun o=>frozen_of_row W G o _ _ b2⟩
 ·rcases own_io h hl with h1|⟨g,e,_,h1⟩
  ·omega
  ·cases e;exact h1
end Go.Proofs.YtgamjhpebmmjcaaGreatDoor
namespace Go.Proofs.YtgamjhpebmmjcaaGreatDoor
set_option maxRecDepth 100000
set_option maxHeartbeats 40000000
open Go.RowKit Flt
attribute [local go_sem] alloc_drewN setCell_drewN run_store_float run_store_func
def giveM (vs0:List Vl)(o:Nat)(p:Int)(st:List Vl×List Int):List Vl×List Int:=
 if st.2.getD o 0=-1 then (st.1,st.2.set o p) else (st.1++[vput 2 (vs0.getD o Vl.zero).len (st.2.getD o 0) p 0],st.2.set o (st.1.length:Nat))
def laM (vs0:List Vl)(i:Nat):Int:=(vs0.getD (vs0.getD i Vl.zero).a.toNat Vl.zero).len
def gkM (vs0:List Vl)(act:List Bool)(i k:Nat)(st:List Vl×List Int):List Vl×List Int:=
 if act.getD (fld (vs0.getD i Vl.zero) k).toNat false=true∧prtB (vs0.getD i Vl.zero) k=true then
  giveM vs0 (fld (vs0.getD i Vl.zero) k).toNat (prtM (i:Int) (vs0.getD i Vl.zero) (laM vs0 i) k (st.2.getD i 0) st.1.length).2 (st.1++(prtM (i:Int) (vs0.getD i Vl.zero) (laM vs0 i) k (st.2.getD i 0) st.1.length).1,st.2)
 else st
def gkTo (vs0:List Vl)(act:List Bool)(i:Nat)(st:List Vl×List Int):Nat→List Vl×List Int
 |0=>st
 |k+1=>gkM vs0 act i k (gkTo vs0 act i st k)
def giM (vs0:List Vl)(act:List Bool)(i:Nat)(st:List Vl×List Int):List Vl×List Int:=
 if st.2.getD i 0=-1 then st else gkTo vs0 act i st (cnt (vs0.getD i Vl.zero).op)
end Go.Proofs.YtgamjhpebmmjcaaGreatDoor
namespace Go.Proofs.YtgamjhpebmmjcaaGreatDoor
set_option maxRecDepth 100000
set_option maxHeartbeats 40000000
open Go.RowKit Flt
attribute [local go_sem] alloc_drewN setCell_drewN run_store_float run_store_func
def reachB (act:List Bool)(v:Vl):Bool:=(List.range (cnt v.op)).any fun k=>act.getD (fld v k).toNat false
end Go.Proofs.YtgamjhpebmmjcaaGreatDoor
