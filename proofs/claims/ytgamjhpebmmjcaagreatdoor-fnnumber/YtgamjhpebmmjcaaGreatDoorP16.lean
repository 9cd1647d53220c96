import Derived.Test.YtgamjhpebmmjcaaGreatDoorP15
import Derived.Lib.Walk
import Derived.Lib.SliceRun
import Derived.Lib.Overlaps
import Derived.Lib.AppendZerosOnto
import Derived.Deep.RegionLaw
import Derived.Laws.IdiomCopy
import Derived.Laws.NewBlocks
import Derived.Shelf.Spec.SlicesInsert
namespace Go.Proofs.YtgamjhpebmmjcaaGreatDoor
set_option maxRecDepth 100000
set_option maxHeartbeats 40000000
open Go.RowKit Flt
theorem run_copy_wide {P:Program}(w:World)(dT sT ty elt:TypeId)(b o dLen dCap:Nat)(a:Addr)(sLen sCap size:Nat)(cs:List Value)
  (hu:P.underlying dT=some (.slice elt)) (hs:(P.info? elt).map (·.size)=some size) (hn:cs.length=Nat.min sLen dLen*size)
  (hsrc:∀j v,cs[j]? =some v→w.cell? (a.add j)=some v) (hc:∀j,j<cs.length→(w.cell? ⟨b,o+j,none⟩).isSome=true) (hf:∀j,j<cs.length→w.frozen? ⟨b,o+j,none⟩=false) (h1:∀v∈cs,v.oneCell'=true):
  (Builtin.copy_ #[dT,sT] ty #[.slice (some ⟨b,o,none⟩) dLen dCap,.slice (some a) sLen sCap]).run P w=.ok (goInt (Nat.min sLen dLen)) (w.setCells b o cs):=by
 have hl:=run_loadCells_list (P:=P) w a cs hsrc
 have hst:=run_storeCells_cells (P:=P) b o cs 0 w (by simpa using hc) (by simpa using hf) h1
 cases hq:P.info? elt with
 |none=>simp[hq] at hs
 |some i=>
  have hi:i.size=size:=by simpa[hq] using hs
  simp[Builtin.copy_,run_underlying hu,Builtin.lenOf,Builtin.firstCells,sizeOf,typeInfo,hq,hi,←hn,hl,hst]
theorem run_clear_wide {P:Program}(w:World)(t e ty:TypeId)(z:Value)(ht:P.underlying t=some (.slice e))(hv:∀w,(zeroValue e).run P w=.ok z w)(b o c:Nat)
  (hz:∀v∈z.cells.toList,v.oneCell'=true)
  (hc:∀j,j<z.cells.size→(w.cell? ⟨b,o+j,none⟩).isSome=true) (hf:∀j,j<z.cells.size→w.frozen? ⟨b,o+j,none⟩=false):
  (Builtin.clear_ #[t] ty #[.slice (some ⟨b,o,none⟩) 1 c]).run P w=.ok (.tuple #[]) (w.setCells b o z.cells.toList):=by
 have hzc:(Builtin.zeroCells z.cells 1).toList=z.cells.toList:=by
  apply List.ext_getElem
  ·simp[Builtin.zeroCells]
  ·intro i h1 h2
   have h3:i<z.cells.size:=by simpa using h2
   simp[Builtin.zeroCells,Nat.mod_eq_of_lt h3,h3]
 have hst:=run_storeCells_cells (P:=P) b o z.cells.toList 0 w (by simpa using hc) (by simpa using hf) hz
 simp only[Nat.add_zero] at hst
 simp[Builtin.clear_,run_underlying ht,hv,hzc,hst]
theorem shape_setCell (w:World)(a:Addr)(v:Value)(g:Nat):(w.setCell a v).shape? g=w.shape? g:=by
 unfold World.shape? World.setCell
 simp only[Array.getElem?_modify]
 by_cases e:a.block=g
 ·rw[if_pos e]
  cases h:w.heap[g]? with
  |none=>rfl
  |some o=>cases o<;>simp;split<;>simp
 ·rw[if_neg e]
theorem shape_setCells (b:Nat):∀(vs:List Value) (o:Nat) (w:World) (g:Nat),(w.setCells b o vs).shape? g=w.shape? g
 |[],_,_,_=>rfl
 |v::r,o,w,g=>by rw[World.setCells,shape_setCells b r,shape_setCell]
theorem chg_setCells {S:Nat→Prop}(g:Nat)(h:S g):∀(vs:List Value) (o:Nat) (w:World),Chg S w (w.setCells g o vs)
 |[],_,w=>(Kept.refl 0 0 w).chg
 |v::r,o,w=>Chg.andThen (chg_setCell w g o v h) (chg_setCells g h r (o+1) _)
theorem some_setCells (b:Nat)(vs:List Value)(o:Nat)(w:World)(h:∀j,j<vs.length→(w.cell? ⟨b,o+j,none⟩).isSome=true)(k:Nat)(hk:(w.cell? ⟨b,k,none⟩).isSome=true):((w.setCells b o vs).cell? ⟨b,k,none⟩).isSome=true:=by
 by_cases hin:o≤k∧k<o+vs.length
 ·have:=World.cell?_setCells_in b vs o w h (k-o) (by omega)
  rw[show o+(k-o)=k by omega] at this
  rw[this];rfl
 ·rw[World.cell?_setCells_out b vs o w ⟨b,k,none⟩ (fun _ _=>by show k<o∨o+vs.length≤k;omega)]
  exact hk
structure FRw (W:World)(g cap:Nat)(l:List Spn):Prop where
 le:l.length≤cap
 cb:cap≤9223372036854775807
 lt:g<W.heap.size
 at_:∀(j:Nat) (u:Value),(flatP l)[j]? =some u→W.cell? ⟨g,j,none⟩=some u
 room:∀j,j<cap*2→(W.cell? ⟨g,j,none⟩).isSome=true
 fr:∀o,W.frozen? ⟨g,o,none⟩=false
 shp:W.shape? g=some (92,cap*2)
theorem FRw.keepC {W W':World}{S:Nat→Prop}{g cap:Nat}{l:List Spn}(f:FRw W g cap l)(k:Chg S W W')(hd:¬S g):FRw W' g cap l:=by
 have e:∀o,W'.cell? ⟨g,o,none⟩=W.cell? ⟨g,o,none⟩:=fun o=>k.cell (p:=⟨g,o,none⟩) f.lt hd
 have e2:∀o,W'.frozen? ⟨g,o,none⟩=W.frozen? ⟨g,o,none⟩:=fun o=>k.frozen (p:=⟨g,o,none⟩) f.lt hd
 exact⟨f.le,f.cb,Nat.lt_of_lt_of_le f.lt k.size,fun j u h=>by rw[e];exact f.at_ j u h,fun j h=>by rw[e];exact f.room j h,fun o=>by rw[e2];exact f.fr o,by unfold World.shape?;rw[k.block g f.lt hd];exact f.shp⟩
theorem FRw.core {W:World}{g cap:Nat}{l:List Spn}(f:FRw W g cap l)(o:Nat)(news:List Value)(l':List Spn)(h1:l'.length≤cap)(h2:o+news.length≤cap*2)
  (hat:∀(j:Nat) (u:Value),(flatP l')[j]? =some u→(o≤j∧j<o+news.length∧news[j-o]? =some u)∨(¬(o≤j∧j<o+news.length)∧(flatP l)[j]? =some u)):FRw (W.setCells g o news) g cap l' where
 le:=h1
 cb:=f.cb
 lt:=Nat.lt_of_lt_of_le f.lt (chg_setCells (S:=fun b=>b=g) g rfl news o W).size
 at_:=fun j u hu=>by
  rcases hat j u hu with⟨a,b,c⟩|⟨a,c⟩
  ·have:=World.cell?_setCells_in g news o W (fun j hj=>f.room _ (by omega)) (j-o) (by omega)
   rw[show o+(j-o)=j by omega] at this
   rw[this]
   rw[List.getElem?_eq_getElem (by omega)] at c
   exact c
  ·rw[World.cell?_setCells_out g news o W ⟨g,j,none⟩ (fun _ _=>by show j<o∨o+news.length≤j;omega)]
   exact f.at_ j u c
 room:=fun j hj=>some_setCells g news o W (fun j hj=>f.room _ (by omega)) j (f.room j hj)
 fr:=fun o=>by rw[World.frozen?_setCells];exact f.fr o
 shp:=by rw[shape_setCells];exact f.shp
theorem FRw.tail {W:World}{g cap:Nat}{pre old:List Spn}(f:FRw W g cap (pre++old))(new:List Spn)(h:(pre++new).length≤cap):FRw (W.setCells g (pre.length*2) (flatP new)) g cap (pre++new):=by
 refine f.core _ _ _ h ?_ ?_
 ·rw[flatP_len];rw[List.length_append] at h;omega
 ·intro j u hu
  rw[flatP_append] at hu ⊢
  by_cases hj:j<pre.length*2
  ·rw[List.getElem?_append_left (by rw[flatP_len];exact hj)] at hu
   exact .inr ⟨by omega,by rw[List.getElem?_append_left (by rw[flatP_len];exact hj)];exact hu⟩
  ·rw[List.getElem?_append_right (by rw[flatP_len];omega),flatP_len] at hu
   have:=(List.getElem?_eq_some_iff.1 hu).1
   exact .inl ⟨by omega,by omega,hu⟩
theorem FRw.behind {W:World}{g cap:Nat}{l:List Spn}(f:FRw W g cap l)(o:Nat)(news:List Value)(h1:l.length*2≤o)(h2:o+news.length≤cap*2):FRw (W.setCells g o news) g cap l:=
 f.core o news l f.le h2 fun j u hu=>by
  have:=(List.getElem?_eq_some_iff.1 hu).1
  rw[flatP_len] at this
  exact .inr ⟨by omega,hu⟩
theorem FRw.one {W:World}{g cap:Nat}{pre post:List Spn}{y:Spn}(f:FRw W g cap (pre++y::post))(x:Spn):FRw (W.setCells g (pre.length*2) x.cells) g cap (pre++x::post):=by
 have hl:x.cells.length=2:=rfl
 have hy:y.cells.length=2:=rfl
 refine f.core _ _ _ (by have:=f.le;simp only[List.length_append,List.length_cons] at this ⊢;exact this) ?_ ?_
 ·have:=f.le
  simp only[List.length_append,List.length_cons] at this
  rw[hl];omega
 ·intro j u hu
  rw[flatP_append] at hu ⊢
  by_cases hj:j<pre.length*2
  ·rw[List.getElem?_append_left (by rw[flatP_len];exact hj)] at hu
   exact .inr ⟨by omega,by rw[List.getElem?_append_left (by rw[flatP_len];exact hj)];exact hu⟩
  ·rw[List.getElem?_append_right (by rw[flatP_len];omega),flatP_len,flatP] at hu
   by_cases h2:j<pre.length*2+2
   ·rw[List.getElem?_append_left (by rw[hl];omega)] at hu
    exact .inl ⟨by omega,by rw[hl];omega,hu⟩
   ·rw[List.getElem?_append_right (by rw[hl];omega),hl] at hu
    refine .inr ⟨by rw[hl];omega,?_⟩
    rw[List.getElem?_append_right (by rw[flatP_len];omega),flatP_len,flatP,List.getElem?_append_right (by rw[hy];omega),hy]
    exact hu
theorem FRw.ps {W:World}{g cap:Nat}{l:List Spn}(f:FRw W g cap l):PS W g (g+1) (some ⟨g,0,none⟩) l.length l:=
 ⟨rfl,.inr ⟨g,0,rfl,Nat.le_refl _,Nat.lt_succ_self _,f.lt,fun j hj=>by
  have h0:=flatP_at l j 0 hj (by omega)
  have h1:=flatP_at l j 1 hj (by omega)
  exact⟨by rw[Nat.zero_add];exact f.at_ _ _ (by rw[Nat.add_zero] at h0;exact h0),by rw[Nat.zero_add];exact f.at_ _ _ h1⟩⟩⟩
theorem flatP_one_cell (l:List Spn):∀v∈flatP l,v.oneCell'=true:=by
 induction l with
 |nil=>simp[flatP]
 |cons x r ih=>
  intro v hv
  rw[flatP,List.mem_append] at hv
  rcases hv with h|h
  ·simp only[Spn.cells,List.mem_cons,List.not_mem_nil,or_false] at h
   rcases h with rfl|rfl<;>rfl
  ·exact ih v h
end Go.Proofs.YtgamjhpebmmjcaaGreatDoor
namespace Go.Proofs.YtgamjhpebmmjcaaGreatDoor
set_option maxRecDepth 100000
set_option maxHeartbeats 40000000
open Go.RowKit Flt
theorem delS (w:World)(g cap i j k n:Nat)(l:List Spn)(f:FRw w g cap l)(hn:l.length=n)(hk:n=k+1)(hj:j=i+1)(hi:i<n)(hl:n≤2000000):
  Calls Tryz.prog 146 #[.slice (some ⟨g,0,none⟩) n cap,.int .i64 i,.int .i64 j] w fun e w'=>e=.returned (.slice (some ⟨g,0,none⟩) k cap)∧FRw w' g cap (l.take i++l.drop j)∧Chg (fun b=>b=g) w w':=by
 have hcap:=f.le
 have hcb:=f.cb
 rw[hn] at hcap
 obtain⟨news,hnews⟩:∃news,news=flatP (l.drop j):=⟨_,rfl⟩
 have hlen:news.length=(n-j)*2:=by rw[hnews,flatP_len,List.length_drop,hn]
 have hsplit:l=l.take i++l.drop i:=(List.take_append_drop i l).symm
 have hget:∀(t:Nat) (u:Value),news[t]? =some u→w.cell? ⟨g,j*2+t,none⟩=some u:=by
  intro t u hu
  refine f.at_ _ _ ?_
  rw[←List.take_append_drop j l,flatP_append,List.getElem?_append_right (by rw[flatP_len,List.length_take];omega),flatP_len,List.length_take,hn,←hnews]
  rw[show j*2+t-min j n*2=t by rw[Nat.min_eq_left (by omega)];omega]
  exact hu
 obtain⟨A,hA,hsrc⟩:∃A:Addr,(if cap=j then some (⟨g,0,none⟩:Addr) else some ⟨g,j*2,none⟩)=some A∧Hid (∀(t:Nat) (u:Value),news[t]? =some u→w.drew.cell? (A.add t)=some u):=by
  by_cases h:cap=j
  ·refine⟨⟨g,0,none⟩,by simp[h],fun t u hu=>?_⟩
   have h0:news.length=0:=by rw[hlen];omega
   rw[List.length_eq_zero_iff.1 h0] at hu
   simp at hu
  ·refine⟨⟨g,j*2,none⟩,by simp[h],fun t u hu=>?_⟩
   rw[Addr.add_lit]
   exact hget t u hu
 have s1:Hid (news.length=(n-j)*2):=hlen
 have s2:Hid (∀u∈news,u.oneCell'=true):=by show ∀u∈news,_;rw[hnews];exact flatP_one_cell _
 have s3:Hid (∀t,t<news.length→(w.drew.cell? ⟨g,0+i*2+t,none⟩).isSome=true∧w.drew.frozen? ⟨g,0+i*2+t,none⟩=false):=by
  intro t ht
  rw[hlen] at ht
  exact⟨f.room _ (by omega),f.fr _⟩
 have F1:FRw (w.drew.setCells g (0+i*2) news) g cap (l.take i++l.drop j):=by
  have f0:FRw w.drew g cap (l.take i++l.drop i):=by rw[←hsplit];exact f.keepC ((kept_drew w).chg (S:=fun _=>False)) (fun h=>h)
  have:=f0.tail (l.drop j) (by rw[List.length_append,List.length_take,List.length_drop];omega)
  rw[List.length_take,Nat.min_eq_left (by omega),←hnews] at this
  rw[Nat.zero_add]
  exact this
 have C1:Chg (fun b=>b=g) w (w.drew.setCells g (0+i*2) news):=Chg.andThen (kept_drew w).chg (chg_setCells (S:=fun b=>b=g) g rfl news _ _)
 obtain⟨W1,hW1⟩:∃W1,W1=w.drew.setCells g (0+i*2) news:=⟨_,rfl⟩
 rw[←hW1] at F1 C1
 have hln:(l.take i++l.drop j).length=k:=by rw[List.length_append,List.length_take,List.length_drop];omega
 obtain⟨j0,hjj,hy0,hy1,hy2⟩:=info_parts infoSpn
 have hzv:∀w:World,(zeroValue 92).run Tryz.prog w=.ok (.agg #[.int .i64 0,.int .i64 0]) w:=fun w=>by simp[zeroValue,typeInfo,hjj,hy0]
 have hcl:∀ty c,(Builtin.clear_ #[45] ty #[.slice (some ⟨g,k*2,none⟩) (n-k) c]).run Tryz.prog W1=.ok (.tuple #[]) (W1.setCells g (k*2) [.int .i64 0,.int .i64 0]):=fun ty c=>by
  rw[show n-k=1 by omega]
  exact run_clear_wide W1 _ _ ty _ Tryz.underlying45 hzv g (k*2) c (by intro v hv;simp[Value.cells] at hv;rcases hv with rfl|rfl<;>rfl) (fun t ht=>F1.room _ (by have:t<2:=ht;omega)) (fun t _=>F1.fr _)
 have F2:Hid (FRw (W1.setCells g (k*2) [.int .i64 0,.int .i64 0]) g cap (l.take i++l.drop j)):=F1.behind _ _ (by rw[hln];omega) (by show _+2≤_;omega)
 have C2:Hid (Chg (fun b=>b=g) w (W1.setCells g (k*2) [.int .i64 0,.int .i64 0])):=Chg.andThen C1 (chg_setCells (S:=fun b=>b=g) g rfl _ _ _)
 have hW:Hid (W1=w.drew.setCells g (0+i*2) news):=hW1
 have hic:i≤cap:=by omega
 have hjc:j≤cap:=by omega
 have hij:¬((i:Int)=(j:Int)):=by omega
 have hjn:j≤n:=by omega
 have hij2:i≤j:=by omega
 have HJ:i+(n-j)=k:=by omega
 have hkn:k≤n:=by omega
 have hkc:¬(cap=k):=by omega
 have hnc:n≤cap:=hcap
 clear hW1 F1 C1 hsplit hget hnews hlen hln f hzv hn hj hk
 go_enter Tryz.func146,Tryz.ntmps146
 go_wp2_with fail
 go_region_law (refine step_append_room rfl (.tmp 22) (.tmp 25) 45 rfl 92 j0 2 Tryz.underlying45 hjj hy1 g 0 i cap (by simp[Act.eval,Act.put]) A (n-j) (cap-j) news (by simp[Act.eval,Act.put]) s1.out hsrc.out s2.out (by omega) s3.out ?_;rw[←hW.out])
 go_wp2
 go_ret
 exact⟨rfl,F2.out,C2.out⟩
end Go.Proofs.YtgamjhpebmmjcaaGreatDoor
namespace Go.Proofs.YtgamjhpebmmjcaaGreatDoor
set_option maxRecDepth 100000
set_option maxHeartbeats 40000000
open Go.RowKit Flt
structure XB (W:World)(X:Nat)(x:Spn):Prop where
 at_:∀(j:Nat) (u:Value),x.cells[j]? =some u→W.cell? ⟨X,j,none⟩=some u
 fr:∀o,W.frozen? ⟨X,o,none⟩=false
 shp:∃t k,W.shape? X=some (t,k)
 lt:X<W.heap.size
theorem frw_row (w:World)(cs:Array Value)(l:List Spn)(cap:Nat)(hl:l.length≤cap)(hc:cap≤9223372036854775807)(hs:cs.size=cap*2)(hat:∀(j:Nat) (u:Value),(flatP l)[j]? =some u→cs[j]? =some u):
  FRw (w.alloc (.cells cs 92)) w.heap.size cap l where
 le:=hl
 cb:=hc
 lt:=by simp
 at_:=fun j u hu=>by rw[World.cell?_alloc_at cs _ w.heap.size j rfl];exact hat j u hu
 room:=fun j hj=>by rw[World.cell?_alloc_at cs _ w.heap.size j rfl,Array.getElem?_eq_getElem (by omega)];rfl
 fr:=fun o=>World.frozen?_alloc_at cs _ w.heap.size o rfl
 shp:=by
  have e:(w.alloc (.cells cs 92)).heap[w.heap.size]? =some (.cells cs 92):=by
   unfold World.alloc
   exact Array.getElem?_push_size
  unfold World.shape?
  rw[e]
  show some (_,cs.size)=_
  rw[hs]
theorem spn_cells (x:Spn):flatP [x]=x.cells:=flatP_one x
theorem zc_size (k:Nat):(Builtin.zeroCells (Value.agg #[.int .i64 0,.int .i64 0]).cells k).size=k*2:=by simp[Builtin.zeroCells,Value.cells]
theorem run_end_room (w:World)(g cap n X:Nat)(l:List Spn)(x:Spn)(f:FRw w g cap l)(hn:l.length=n)(hx:XB w X x)(hr:n+1≤cap)(ty:TypeId):
  ∃w',(Builtin.append_ #[45,45] ty #[.slice (some ⟨g,0,none⟩) n cap,.slice (some ⟨X,0,none⟩) 1 1]).run Tryz.prog w=.ok (.slice (some ⟨g,0,none⟩) (n+1) cap) w'∧FRw w' g cap (l++[x])∧Chg (fun b=>b=g) w w':=by
 obtain⟨j0,hjj,hy0,hy1,hy2⟩:=info_parts infoSpn
 have h:=run_append_room_cells (P:=Tryz.prog) w 45 ty 92 j0 Tryz.underlying45 hjj g 0 n cap ⟨X,0,none⟩ 1 1 x.cells (by rw[hy1];rfl) (fun j u hu=>by rw[Addr.add_lit,Nat.zero_add];exact hx.at_ j u hu) (by intro u hu;rw[←spn_cells] at hu;exact flatP_one_cell _ u hu) hr
  (fun j hj=>f.room _ (by have:j<2:=hj;rw[hy1];omega)) (fun j _=>f.fr _)
 refine⟨_,h,?_,chg_setCells (S:=fun b=>b=g) g rfl _ _ _⟩
 have f0:FRw w g cap (l++[]):=by rw[List.append_nil];exact f
 have:=f0.tail [x] (by rw[List.length_append];show _+1≤_;omega)
 rw[hn,spn_cells] at this
 rw[hy1,Nat.zero_add]
 exact this
theorem run_end_grow (w:World)(g cap n X:Nat)(l:List Spn)(x:Spn)(f:FRw w g cap l)(hn:l.length=n)(hx:XB w X x)(hr:cap<n+1)(hb:n≤2000000)(ty:TypeId):
  ∃cap' w',(Builtin.append_ #[45,45] ty #[.slice (some ⟨g,0,none⟩) n cap,.slice (some ⟨X,0,none⟩) 1 1]).run Tryz.prog w=.ok (.slice (some ⟨w.heap.size,0,none⟩) (n+1) cap') w'∧FRw w' w.heap.size cap' (l++[x])∧Chg (fun b=>b=g) w w':=by
 obtain⟨j0,hjj,hy0,hy1,hy2⟩:=info_parts infoSpn
 have hold:(Builtin.firstCells j0.size n (.slice (some ⟨g,0,none⟩) n cap)).run Tryz.prog w.drew=.ok (flatP l).toArray w.drew:=
  run_firstCells_some w.drew _ n ⟨g,0,none⟩ n cap (flatP l) (by rw[flatP_len,hn,hy1]) (fun j u hu=>by rw[Addr.add_lit,Nat.zero_add];exact f.at_ j u hu)
 have hsrc:Src Tryz.prog j0.size 45 (.slice (some ⟨X,0,none⟩) 1 1) 1 x.cells w:=Src.ofSlice w Tryz.underlying45 ⟨X,0,none⟩ 1 1 x.cells (by rw[hy1];rfl) (fun j u hu=>by rw[Addr.add_lit,Nat.zero_add];exact hx.at_ j u hu) (by intro u hu;rw[←spn_cells] at hu;exact flatP_one_cell _ u hu)
 have h:=run_append_grow_src (P:=Tryz.prog) w 45 45 ty 92 j0 _ Tryz.underlying45 hjj hy0 (some ⟨g,0,none⟩) n cap (flatP l) hold _ 1 x.cells hsrc hr (by omega) (growslice_fits hr (by rw[hy2];omega))
 have hge:=grownCap_ge w (n+1) cap 92
 have hle:=grownCap_le_maxLen w (n+1) cap 92 (by unfold maxLen;omega)
 unfold maxLen at hle
 refine⟨_,_,h,?_,?_⟩
 ·refine frw_row w.drew _ (l++[x]) _ (by rw[List.length_append,hn];exact hge) (by omega) ?_ ?_
  ·rw[Array.size_append,zc_size,List.size_toArray,List.length_append,flatP_len,hn]
   show n*2+2+_=_
   omega
  ·intro j u hu
   have hj:=(List.getElem?_eq_some_iff.1 hu).1
   rw[flatP_append,spn_cells] at hu hj
   rw[Array.getElem?_append_left (by rw[List.size_toArray];exact hj),List.getElem?_toArray]
   exact hu
 ·exact Chg.andThen (kept_drew w).chg (kept_alloc 0 0 w.drew _).chg
end Go.Proofs.YtgamjhpebmmjcaaGreatDoor
namespace Go.Proofs.YtgamjhpebmmjcaaGreatDoor
set_option maxRecDepth 100000
set_option maxHeartbeats 40000000
open Go.RowKit Flt
theorem ins_end (w:World)(g cap n X:Nat)(l:List Spn)(x:Spn)(f:FRw w g cap l)(hn:l.length=n)(hx:XB w X x)(hb:n≤2000000):
  Calls Tryz.prog 148 #[.slice (some ⟨g,0,none⟩) n cap,.int .i64 n,.slice (some ⟨X,0,none⟩) 1 1] w fun e w'=>∃g' cap',e=.returned (.slice (some ⟨g',0,none⟩) (n+1) cap')∧FRw w' g' cap' (l++[x])∧Chg (fun b=>b=g) w w'∧(g'=g∨g'=w.heap.size):=by
 have hnc:=f.le
 have hcb:=f.cb
 rw[hn] at hnc
 obtain⟨g',cap',w',hrun,h1,h2,h3⟩:∃g' cap' w',(Builtin.append_ #[45,45] 45 #[.slice (some ⟨g,0,none⟩) n cap,.slice (some ⟨X,0,none⟩) 1 1]).run Tryz.prog w=.ok (.slice (some ⟨g',0,none⟩) (n+1) cap') w'∧FRw w' g' cap' (l++[x])∧Chg (fun b=>b=g) w w'∧(g'=g∨g'=w.heap.size):=by
  by_cases hr:n+1≤cap
  ·obtain⟨w',a,b,c⟩:=run_end_room w g cap n X l x f hn hx hr 45
   exact⟨g,cap,w',a,b,c,.inl rfl⟩
  ·obtain⟨cap',w',a,b,c⟩:=run_end_grow w g cap n X l x f hn hx (by omega) hb 45
   exact⟨w.heap.size,cap',w',a,b,c,.inr rfl⟩
 have H1:Hid _:=h1
 have H2:Hid _:=h2
 have H3:Hid _:=h3
 clear h1 h2 h3 f hx hn
 go_enter Tryz.func148,Tryz.ntmps148
 go_wp2_with (at_builtin;refine Lib.wpList_append_run _ rfl _ _ _ _ rfl _ _ rfl rfl _ _ hrun ?_)
 all_goals
  go_ret
  exact⟨g',cap',rfl,H1.out,H2.out,H3.out⟩
theorem ins_shift (w:World)(g cap i n m X:Nat)(l:List Spn)(x:Spn)(f:FRw w g cap l)(hn:l.length=n)(hx:XB w X x)(hXg:X≠g)(hb:n≤2000000)(hm:m=1)(hi:i<n)(hr:n+m≤cap):
  Calls Tryz.prog 148 #[.slice (some ⟨g,0,none⟩) n cap,.int .i64 i,.slice (some ⟨X,0,none⟩) m 1] w fun e w'=>e=.returned (.slice (some ⟨g,0,none⟩) (n+m) cap)∧FRw w' g cap (l.take i++x::l.drop i)∧Chg (fun b=>b=g) w w':=by
 have hcb:=f.cb
 obtain⟨j0,hjj,hy0,hy1,hy2⟩:=info_parts infoSpn
 have hsz:(Tryz.prog.info? 92).map (·.size)=some 2:=by rw[hjj];simp[hy1]
 obtain⟨tA,kA,hsA⟩:=hx.shp
 have hov:∀lb cb,(callFunc 168 #[.slice (some ⟨X,0,none⟩) m 1,.slice (some ⟨g,(i+m)*2,none⟩) lb cb]).run Tryz.prog w=.ok (.value (.bool false)) w:=fun lb cb=>by
  rw[run_callFunc_extern Tryz.func168 (by kernel_rfl) (by kernel_rfl) (by kernel_rfl) (e:=Extern.SlicesOverlaps.overlaps #[45,45] #[4]) (by kernel_rfl),
   Lib.run_overlaps_apart w 45 4 92 Tryz.underlying45 2 (fun w=>by simp[sizeOf,typeInfo,hjj,hy1]) ⟨X,0,none⟩ ⟨g,(i+m)*2,none⟩ m 1 lb cb hXg tA 92 kA (cap*2) hsA f.shp (by omega) (hx.fr 0) (hx.fr kA)]
  rfl
 have hlt1:(l.take (i+1)).length=i+1:=by rw[List.length_take];omega
 have f1:FRw w.drew g cap (l.take (i+1)++l.drop (i+1)):=by rw[List.take_append_drop];exact f.keepC ((kept_drew w).chg (S:=fun _=>False)) (fun h=>h)
 have F1:=f1.tail (l.drop i) (by rw[List.length_append,hlt1,List.length_drop];omega)
 rw[hlt1,show(i+1)*2=(i+m)*2 by rw[hm]] at F1
 have hti:l.take (i+1)=l.take i++[l[i]'(by omega)]:=(List.take_append_getElem (by omega)).symm
 rw[hti,List.append_assoc] at F1
 have F2:=FRw.one (pre:=l.take i) (post:=l.drop i) (y:=l[i]'(by omega)) F1 x
 rw[List.length_take,Nat.min_eq_left (by omega)] at F2
 have hcp1:∀ty dc sc,(Builtin.copy_ #[45,45] ty #[.slice (some ⟨g,(i+m)*2,none⟩) (n+m-(i+m)) dc,.slice (some ⟨g,i*2,none⟩) (n+m-i) sc]).run Tryz.prog w.drew=.ok (goInt (Nat.min (n+m-i) (n+m-(i+m)))) (w.drew.setCells g ((i+m)*2) (flatP (l.drop i))):=fun ty dc sc=>
  run_copy_wide w.drew _ _ ty 92 g ((i+m)*2) (n+m-(i+m)) dc ⟨g,i*2,none⟩ (n+m-i) sc 2 (flatP (l.drop i)) Tryz.underlying45 hsz
   (by rw[flatP_len,List.length_drop,hn];congr 1;simp only[Nat.min_def];split<;>omega)
   (fun j u hu=>by
    rw[Addr.add_lit]
    refine f.at_ _ _ ?_
    rw[←List.take_append_drop i l,flatP_append,List.getElem?_append_right (by rw[flatP_len,List.length_take];omega),flatP_len,List.length_take,hn]
    rw[show i*2+j-min i n*2=j by rw[Nat.min_eq_left (by omega)];omega]
    exact hu)
   (fun j hj=>f.room _ (by rw[flatP_len,List.length_drop,hn] at hj;omega)) (fun j _=>f.fr _) (flatP_one_cell _)
 obtain⟨W1,hW1⟩:∃W1,W1=w.drew.setCells g ((i+m)*2) (flatP (l.drop i)):=⟨_,rfl⟩
 have C1:Chg (fun b=>b=g) w W1:=by rw[hW1];exact Chg.andThen (kept_drew w).chg (chg_setCells (S:=fun b=>b=g) g rfl _ _ _)
 rw[←hW1] at hcp1 F1 F2
 have hcp2:∀(W:World),(∀y,W.cell? y=W1.cell? y)→(∀y,W.frozen? y=W1.frozen? y)→∀ty dc,(Builtin.copy_ #[45,45] ty #[.slice (some ⟨g,i*2,none⟩) (n+m-i) dc,.slice (some ⟨X,0,none⟩) m 1]).run Tryz.prog W=.ok (goInt (Nat.min m (n+m-i))) (W.setCells g (i*2) x.cells):=fun W hWc hWf ty dc=>
  run_copy_wide W _ _ ty 92 g (i*2) (n+m-i) dc ⟨X,0,none⟩ m 1 2 x.cells Tryz.underlying45 hsz
   (by show 2=_;rw[hm];simp only[Nat.min_def];split<;>omega)
   (fun j u hu=>by
    rw[Addr.add_lit,hWc,Nat.zero_add,C1.cell (p:=⟨X,j,none⟩) hx.lt (by exact hXg)]
    exact hx.at_ j u hu)
   (fun j hj=>by rw[hWc];exact F1.room _ (by have:j<2:=hj;omega)) (fun j hj=>by rw[hWf];exact F1.fr _) (by intro u hu;rw[←spn_cells] at hu;exact flatP_one_cell _ u hu)
 have H2:Hid _:=F2
 have C2:Hid (Chg (fun b=>b=g) w (W1.setCells g (i*2) x.cells)):=Chg.andThen C1 (chg_setCells (S:=fun b=>b=g) g rfl _ _ _)
 have hz1:¬((m:Int)=0):=by omega
 have hz2:¬((i:Int)=(n:Int)):=by omega
 have hw1:IntKind.i64.wrap ((i:Int)+(m:Int))=(i:Int)+(m:Int):=by rw[IntKind.wrap_i64];omega
 have hb1:(0:Int)≤(i:Int)+(m:Int):=by omega
 have hin:i≤n:=by omega
 have htn:((i:Int)+(m:Int)).toNat=i+m:=by omega
 have hb2:¬(cap=i+m):=by omega
 have hb3:(i:Int)≤(n:Int)+(m:Int):=by omega
 have hb4:¬(cap=i):=by omega
 clear f hx f1 F1 F2 C1 hti hlt1 hW1 hm hn
 go_enter Tryz.func148,Tryz.ntmps148
 go_wp2_with (simp only[hov])
 go_region_law (refine step_copy_runI rfl (.tmp 73) (.tmp 76) 45 45 rfl _ _ (by simp[Act.eval,Act.put]) (by simp[Act.eval,Act.put]) (hcp1 _ _ _) ?_)
 go_wp2_with (at_builtin;refine wpList_copy_runI _ rfl _ _ 45 45 rfl _ _ rfl rfl (hcp2 _ (fun _=>rfl) (fun _=>rfl) _ _) ?_)
 go_ret
 exact⟨rfl,H2.out,C2.out⟩
end Go.Proofs.YtgamjhpebmmjcaaGreatDoor
namespace Go.Proofs.YtgamjhpebmmjcaaGreatDoor
set_option maxRecDepth 100000
set_option maxHeartbeats 40000000
open Go.RowKit Flt
theorem ins_grow (w:World)(g cap i n m X:Nat)(l:List Spn)(x:Spn)(f:FRw w g cap l)(hn:l.length=n)(hx:XB w X x)(hb:n≤2000000)(hm:m=1)(hi:i<n)(hr:cap<n+m):
  Calls Tryz.prog 148 #[.slice (some ⟨g,0,none⟩) n cap,.int .i64 i,.slice (some ⟨X,0,none⟩) m 1] w fun e w'=>∃cap',e=.returned (.slice (some ⟨w.heap.size,0,none⟩) (n+m) cap')∧FRw w' w.heap.size cap' (l.take i++x::l.drop i)∧Chg (fun b=>b=g) w w':=by
 have hcb:=f.cb
 have hnc:=f.le
 rw[hn] at hnc
 obtain⟨j0,hjj,hy0,hy1,hy2⟩:=info_parts infoSpn
 have hsz:(Tryz.prog.info? 92).map (·.size)=some 2:=by rw[hjj];simp[hy1]
 have hlt:(l.take i).length=i:=by rw[List.length_take];omega
 have hold:(Builtin.firstCells j0.size i (.slice (some ⟨g,0,none⟩) i cap)).run Tryz.prog w.drew=.ok (flatP (l.take i)).toArray w.drew:=
  run_firstCells_some w.drew _ i ⟨g,0,none⟩ i cap (flatP (l.take i)) (by rw[flatP_len,hlt,hy1]) (fun j u hu=>by
   rw[Addr.add_lit,Nat.zero_add]
   refine f.at_ j u ?_
   have hj:=(List.getElem?_eq_some_iff.1 hu).1
   rw[←List.take_append_drop i l,flatP_append,List.getElem?_append_left hj]
   exact hu)
 have hik:i+(n+m-i)=n+m:=by omega
 have hkk:(n:Int)+(m:Int)-(i:Int)=((n+m-i:Nat):Int):=by omega
 have hrz0:=Lib.run_append_grow_zeros (P:=Tryz.prog) w 45 3 45 92 j0 _ .i64 .i64 Tryz.underlying45 Tryz.underlying3 hjj hy0 (some ⟨g,0,none⟩) i cap (flatP (l.take i)) hold (n+m-i) (by omega) (by omega) (by omega) (by omega) (by rw[hy2];omega) (by rw[hy2,hik];exact growslice_fits hr (by omega))
 rw[hik] at hrz0
 have hge:=grownCap_ge w (n+m) cap 92
 have hle:=grownCap_le_maxLen w (n+m) cap 92 (by unfold maxLen;omega)
 unfold maxLen at hle
 generalize grownCap w (n+m) cap 92=G at hrz0 hge hle
 have hle':G≤9223372036854775807:=by omega
 have F0:FRw (w.drew.alloc (.cells ((flatP (l.take i)).toArray++Builtin.zeroCells (Value.agg #[.int .i64 0,.int .i64 0]).cells (n+m-i)++Builtin.zeroCells (Value.agg #[.int .i64 0,.int .i64 0]).cells (G-(n+m))) 92)) w.heap.size G (l.take i++[]):=by
  rw[List.append_nil]
  refine frw_row w.drew _ (l.take i) G (by omega) hle' ?_ ?_
  ·rw[Array.size_append,Array.size_append,zc_size,zc_size,List.size_toArray,flatP_len,hlt]
   omega
  ·intro j u hu
   have hj:=(List.getElem?_eq_some_iff.1 hu).1
   rw[Array.append_assoc,Array.getElem?_append_left (by rw[List.size_toArray];exact hj),List.getElem?_toArray]
   exact hu
 have C0:Chg (fun b=>b=g) w (w.drew.alloc (.cells ((flatP (l.take i)).toArray++Builtin.zeroCells (Value.agg #[.int .i64 0,.int .i64 0]).cells (n+m-i)++Builtin.zeroCells (Value.agg #[.int .i64 0,.int .i64 0]).cells (G-(n+m))) 92)):=Chg.andThen (kept_drew w).chg (kept_alloc 0 0 w.drew _).chg
 have K0:Chg (fun _=>False) w (w.drew.alloc (.cells ((flatP (l.take i)).toArray++Builtin.zeroCells (Value.agg #[.int .i64 0,.int .i64 0]).cells (n+m-i)++Builtin.zeroCells (Value.agg #[.int .i64 0,.int .i64 0]).cells (G-(n+m))) 92)):=Chg.andThen (kept_drew w).chg (kept_alloc 0 0 w.drew _).chg
 generalize w.drew.alloc (.cells ((flatP (l.take i)).toArray++Builtin.zeroCells (Value.agg #[.int .i64 0,.int .i64 0]).cells (n+m-i)++Builtin.zeroCells (Value.agg #[.int .i64 0,.int .i64 0]).cells (G-(n+m))) 92)=W1 at hrz0 F0 C0 K0
 rw[←hkk] at hrz0
 have hgH:g<w.heap.size:=f.lt
 have hXH:X<w.heap.size:=hx.lt
 obtain⟨H,hH⟩:∃H,H=w.heap.size:=⟨_,rfl⟩
 have hHH:w.heap.size≤H:=by omega
 rw[←hH] at hrz0 F0 hgH hXH ⊢
 clear hH
 have F1:=F0.tail [x] (by rw[List.length_append,hlt];show i+1≤G;omega)
 rw[hlt,spn_cells] at F1
 have F1':FRw (W1.setCells H (i*2) x.cells) H G ((l.take i++[x])++[]):=by rw[List.append_nil];exact F1
 have F2:=F1'.tail (l.drop i) (by rw[List.length_append,List.length_append,hlt,List.length_drop];show i+1+_≤_;omega)
 rw[List.length_append,hlt,show(i+[x].length)*2=(i+m)*2 by rw[hm];rfl,List.append_assoc] at F2
 have hcpA:∀ty dc,(Builtin.copy_ #[45,45] ty #[.slice (some ⟨H,i*2,none⟩) (n+m-i) dc,.slice (some ⟨X,0,none⟩) m 1]).run Tryz.prog W1=.ok (goInt (Nat.min m (n+m-i))) (W1.setCells H (i*2) x.cells):=fun ty dc=>
  run_copy_wide W1 _ _ ty 92 H (i*2) (n+m-i) dc ⟨X,0,none⟩ m 1 2 x.cells Tryz.underlying45 hsz
   (by show 2=_;rw[hm];simp only[Nat.min_def];split<;>omega)
   (fun j u hu=>by
    rw[Addr.add_lit,Nat.zero_add,K0.cell (p:=⟨X,j,none⟩) hx.lt (fun h=>h)]
    exact hx.at_ j u hu)
   (fun j hj=>F0.room _ (by have:j<2:=hj;omega)) (fun j hj=>F0.fr _) (by intro u hu;rw[←spn_cells] at hu;exact flatP_one_cell _ u hu)
 obtain⟨W2,hW2⟩:∃W2,W2=W1.setCells H (i*2) x.cells:=⟨_,rfl⟩
 have hat2:∀(j:Nat) (u:Value),(flatP l)[j]? =some u→W2.cell? ⟨g,j,none⟩=some u:=fun j u hu=>by
  rw[hW2,(chg_setCells (S:=fun b=>b=H) H rfl x.cells (i*2) W1).cell (p:=⟨g,j,none⟩) (Nat.lt_of_lt_of_le f.lt K0.size) (by show ¬(g=H);omega),K0.cell (p:=⟨g,j,none⟩) f.lt (fun h=>h)]
  exact f.at_ j u hu
 rw[←hW2] at hcpA F1 F1' F2
 have hcpB:∀(W:World),(∀y,W.cell? y=W2.cell? y)→(∀y,W.frozen? y=W2.frozen? y)→∀ty dc sc,(Builtin.copy_ #[45,45] ty #[.slice (some ⟨H,(i+m)*2,none⟩) (n+m-(i+m)) dc,.slice (some ⟨g,i*2,none⟩) (n-i) sc]).run Tryz.prog W=.ok (goInt (Nat.min (n-i) (n+m-(i+m)))) (W.setCells H ((i+m)*2) (flatP (l.drop i))):=fun W hWc hWf ty dc sc=>
  run_copy_wide W _ _ ty 92 H ((i+m)*2) (n+m-(i+m)) dc ⟨g,i*2,none⟩ (n-i) sc 2 (flatP (l.drop i)) Tryz.underlying45 hsz
   (by rw[flatP_len,List.length_drop,hn];congr 1;simp only[Nat.min_def];split<;>omega)
   (fun j u hu=>by
    rw[Addr.add_lit,hWc]
    refine hat2 _ _ ?_
    rw[←List.take_append_drop i l,flatP_append,List.getElem?_append_right (by rw[flatP_len,List.length_take];omega),flatP_len,List.length_take,hn]
    rw[show i*2+j-min i n*2=j by rw[Nat.min_eq_left (by omega)];omega]
    exact hu)
   (fun j hj=>by rw[hWc];exact F1.room _ (by rw[flatP_len,List.length_drop,hn] at hj;omega)) (fun j hj=>by rw[hWf];exact F1.fr _) (flatP_one_cell _)
 have C2:Chg (fun b=>b=g) w W2:=by
  rw[hW2]
  exact Chg.new C0 (chg_setCells (S:=fun b=>b=H) H rfl _ _ _) (fun k hk e=>by omega)
 have H3:Hid (FRw (W2.drew.setCells H ((i+m)*2) (flatP (l.drop i))) H G (l.take i++x::l.drop i)):=by
  have:=F2.keepC ((kept_drew _).chg (S:=fun _=>False)) (fun h=>h)
  rw[drew_setCells] at this
  exact this
 have C3:Hid (Chg (fun b=>b=g) w (W2.drew.setCells H ((i+m)*2) (flatP (l.drop i)))):=Chg.new (Chg.andThen C2 (kept_drew W2).chg) (chg_setCells (S:=fun b=>b=H) H rfl _ _ _) (fun k hk e=>by omega)
 have hz1:¬((m:Int)=0):=by omega
 have hz2:¬((i:Int)=(n:Int)):=by omega
 have hz3:(cap:Int)<(n:Int)+(m:Int):=by omega
 have hw1:IntKind.i64.wrap ((i:Int)+(m:Int))=(i:Int)+(m:Int):=by rw[IntKind.wrap_i64];omega
 have hb1:(0:Int)≤(i:Int)+(m:Int):=by omega
 have hin:i≤n:=by omega
 have htn:((i:Int)+(m:Int)).toNat=i+m:=by omega
 have hb3:(i:Int)≤(n:Int):=by omega
 have hGi:¬(G=i):=by omega
 have hGim:¬(G=i+m):=by omega
 have hci:¬(cap=i):=by omega
 clear f hx F0 F1 F1' F2 C0 K0 C2 hlt hW2 hm hn hold hat2 hik hkk hHH hgH hXH
 go_enter Tryz.func148,Tryz.ntmps148
 go_wp2_with (first
  |(at_builtin;refine Lib.wpList_append_run _ rfl _ _ _ _ rfl _ _ rfl rfl _ _ hrz0 ?_)
  |(at_builtin;refine wpList_copy_runI _ rfl _ _ 45 45 rfl _ _ rfl rfl (hcpA _ _) ?_))
 go_region_law (refine step_copy_runI rfl (.tmp 50) (.tmp 53) 45 45 rfl (.slice (some ⟨H,(i+m)*2,none⟩) (n+m-(i+m)) (G-(i+m))) (.slice (some ⟨g,i*2,none⟩) (n-i) (cap-i)) (by simp[Act.eval,Act.put]) (by simp[Act.eval,Act.put]) (hcpB W2.drew (fun _=>rfl) (fun _=>rfl) 3 (G-(i+m)) (cap-i)) ?_)
 go_wp2
 go_ret
 exact⟨G,rfl,H3.out,C3.out⟩
end Go.Proofs.YtgamjhpebmmjcaaGreatDoor
namespace Go.Proofs.YtgamjhpebmmjcaaGreatDoor
set_option maxRecDepth 100000
set_option maxHeartbeats 40000000
open Go.RowKit Flt
theorem insS (w:World)(g cap i n X:Nat)(l:List Spn)(x:Spn)(f:FRw w g cap l)(hn:l.length=n)(hx:XB w X x)(hXg:X≠g)(hb:n≤2000000)(hi:i≤n):
  Calls Tryz.prog 148 #[.slice (some ⟨g,0,none⟩) n cap,.int .i64 i,.slice (some ⟨X,0,none⟩) 1 1] w fun e w'=>∃g' cap',e=.returned (.slice (some ⟨g',0,none⟩) (n+1) cap')∧FRw w' g' cap' (l.take i++x::l.drop i)∧Chg (fun b=>b=g) w w'∧(g'=g∨g'=w.heap.size):=by
 by_cases e:i=n
 ·subst e
  refine Calls.mono (ins_end w g cap i X l x f hn hx hb) ?_
  rintro e w' ⟨g',cap',h1,h2,h3,h4⟩
  refine⟨g',cap',h1,?_,h3,h4⟩
  rw[←hn,List.take_length,List.drop_length]
  exact h2
 ·by_cases hr:n+1≤cap
  ·refine Calls.mono (ins_shift w g cap i n 1 X l x f hn hx hXg hb rfl (by omega) hr) ?_
   rintro e w' ⟨h1,h2,h3⟩
   exact⟨g,cap,h1,h2,h3,.inl rfl⟩
  ·refine Calls.mono (ins_grow w g cap i n 1 X l x f hn hx hb rfl (by omega) (by omega)) ?_
   rintro e w' ⟨cap',h1,h2,h3⟩
   exact⟨_,cap',h1,h2,h3,.inr rfl⟩
structure FrP (W:World)(R g cap:Nat)(l:List Spn):Prop where
 c0:W.cell? ⟨R,0,none⟩=some (.slice (some ⟨g,0,none⟩) l.length cap)
 c1:W.cell? ⟨R,1,none⟩=some (.func (.func 116) #[] #[])
 fr:W.frozen? ⟨R,0,none⟩=false
 row:FRw W g cap l
 ne:R≠g
 lt:R<W.heap.size
theorem FrP.keepC {W W':World}{S:Nat→Prop}{R g cap:Nat}{l:List Spn}(f:FrP W R g cap l)(k:Chg S W W')(h1:¬S R)(h2:¬S g):FrP W' R g cap l:=
 ⟨by rw[k.cell (p:=⟨R,0,none⟩) f.lt h1];exact f.c0,by rw[k.cell (p:=⟨R,1,none⟩) f.lt h1];exact f.c1,by rw[k.frozen (p:=⟨R,0,none⟩) f.lt h1];exact f.fr,f.row.keepC k h2,f.ne,Nat.lt_of_lt_of_le f.lt k.size⟩
theorem FrP.put {W W':World}{R g cap g' cap':Nat}{l l':List Spn}(f:FrP W R g cap l)(k:Chg (fun b=>b=g) W W')(r:FRw W' g' cap' l')(hg:g'=g∨W.heap.size≤g'):FrP (W'.setCell ⟨R,0,none⟩ (.slice (some ⟨g',0,none⟩) l'.length cap')) R g' cap' l':=by
 have hne:R≠g':=by
  rcases hg with e|e
  ·rw[e];exact f.ne
  ·have:=f.lt;omega
 have e0:W'.cell? ⟨R,0,none⟩=_:=(k.cell (p:=⟨R,0,none⟩) f.lt (by exact f.ne)).trans f.c0
 have e1:W'.cell? ⟨R,1,none⟩=_:=(k.cell (p:=⟨R,1,none⟩) f.lt (by exact f.ne)).trans f.c1
 have e2:W'.frozen? ⟨R,0,none⟩=_:=(k.frozen (p:=⟨R,0,none⟩) f.lt (by exact f.ne)).trans f.fr
 exact⟨cell_eq _ _ _ _ _ e0,by rw[cell_ne _ _ _ _ _ _ (.inr (by omega))];exact e1,by simp[e2],r.keepC (chg_setCell (S:=fun b=>b=R) W' R 0 _ rfl) (fun e=>hne e.symm),hne,by simpa using Nat.lt_of_lt_of_le f.lt k.size⟩
theorem xb_new (w:World)(x:Spn):XB (w.alloc x.box) w.heap.size x where
 at_:=fun j u hu=>by
  rw[World.cell?_alloc_at _ _ w.heap.size j rfl]
  have hj:=(List.getElem?_eq_some_iff.1 hu).1
  have hj2:j<2:=hj
  rcases (by omega:j=0∨j=1) with rfl|rfl
  ·exact hu
  ·exact hu
 fr:=fun o=>World.frozen?_alloc_at _ _ w.heap.size o rfl
 shp:=by
  have e:(w.alloc x.box).heap[w.heap.size]? =some x.box:=by
   unfold World.alloc
   exact Array.getElem?_push_size
  refine⟨92,2,?_⟩
  unfold World.shape?
  rw[e]
  rfl
 lt:=by simp
theorem insertS (w:World)(R g cap:Nat)(l:List Spn)(x:Spn)(f:FrP w R g cap l)(hs:RunsF 0 l)(hb:l.length≤1000000):
  Calls Tryz.prog 122 #[.pointer (some ⟨R,0,none⟩),x.agg] w fun e w'=>∃(i g' cap':Nat),e=.returned (.int .i64 (i:Int))∧LbS l x.off i∧FrP w' R g' cap' (l.take i++x::l.drop i)∧Chg (fun b=>b=R∨b=g) w w'∧(g'=g∨w.heap.size≤g'):=by
 have ka:=kept_alloc 0 0 w x.box
 have HF:Hid _:=f.keepC (ka.chg (S:=fun _=>False)) (fun h=>h) (fun h=>h)
 have HX:Hid (AtP (w.alloc x.box) w.heap.size 0 x):=by
  have:=xb_new w x
  exact⟨this.at_ 0 _ rfl,this.at_ 1 _ rfl⟩
 have HK:Hid (Chg (fun b=>b=R∨b=g) w (w.alloc x.box)):=ka.chg
 have HZ:Hid (w.heap.size<(w.alloc x.box).heap.size∧R<w.heap.size∧g<w.heap.size):=⟨by simp,f.lt,f.row.lt⟩
 have HS:Hid _:=hs
 clear f hs ka
 go_enter Tryz.func122,Tryz.ntmps122
 go_upto_region 1 with fail
 generalize w.alloc x.box=w1 at HF HX HK HZ ⊢
 obtain⟨X,hX⟩:∃X,X=w.heap.size:=⟨_,rfl⟩
 rw[←hX] at HX HZ ⊢
 have HXW:Hid _:=hX
 clear hX
 obtain⟨x0,x1⟩:=HX.out
 have y0:=HF.out.c0
 have y1:=HF.out.c1
 obtain⟨n,hn⟩:∃n,n=l.length:=⟨_,rfl⟩
 rw[←hn] at y0 hb
 have HN:Hid _:=hn.symm
 clear hn
 have HC:Hid (∀W,_):=fun W (h:PS W g (g+1) (some ⟨g,0,none⟩) n l)=>binS W g (g+1) (some ⟨g,0,none⟩) n cap l x h hb HS.out
 go_region_held3 (fun w'=>w'.cell? ⟨R,0,none⟩=some (.slice (some ⟨g,0,none⟩) n cap)∧w'.cell? ⟨R,1,none⟩=some (.func (.func 116) #[] #[])∧w'.cell? ⟨X,0,none⟩=some (.int .i64 x.off)∧w'.cell? ⟨X,1,none⟩=some (.int .i64 x.len)) (go_keep)
  (first|(go_at_call 147;refine Calls.mono (HC.out _ (by rw[←HN.out];exact(HF.out.row.keepC ((kept_drew w1).chg (S:=fun _=>False)) (fun h=>h)).ps)) ?_;rintro e w2 ⟨i,b,rfl,lb,k2'⟩;have k2:=(kept_drew w1).trans k2';have t0:w2.cell? ⟨R,0,none⟩=some (.slice (some ⟨g,0,none⟩) n cap):=(by rw[k2.cell (p:=⟨R,0,none⟩) HF.out.lt (by omega)];exact y0);have t1:w2.cell? ⟨R,1,none⟩=some (.func (.func 116) #[] #[]):=(by rw[k2.cell (p:=⟨R,1,none⟩) HF.out.lt (by omega)];exact y1);have t2:w2.cell? ⟨X,0,none⟩=some (.int .i64 x.off):=(by rw[k2.cell (p:=⟨X,0,none⟩) HZ.out.1 (by omega)];exact x0);have t3:w2.cell? ⟨X,1,none⟩=some (.int .i64 x.len):=(by rw[k2.cell (p:=⟨X,1,none⟩) HZ.out.1 (by omega)];exact x1)))
 all_goals
  have hR:=HF.out.lt
  have HF2:Hid _:=HF.out.keepC (k2.chg (S:=fun _=>False)) (fun h=>h) (fun h=>h)
  have HK2:Hid _:=Chg.andThen HK.out k2.chg
  have HL:Hid _:=lb
  have HZ2:Hid (X<w2.heap.size∧R<X∧g<X∧w.heap.size≤w2.heap.size):=⟨Nat.lt_of_lt_of_le HZ.out.1 k2.size,HZ.out.2.1,HZ.out.2.2,by have:=HZ.out;have:=HXW.out;have:=k2.size;omega⟩
  have HI:Hid (i≤n):=by have:=lb.le;rw[HN.out] at this;exact this
  have f0:=HF2.out.fr
  have k3:Kept 0 0 w2 (w2.alloc x.box).drew:=(kept_alloc 0 0 w2 x.box).trans (kept_drew _)
  have HQ1:Hid _:=HF2.out.row.keepC (k3.chg (S:=fun _=>False)) (fun h=>h)
  have HQ2:Hid (XB (w2.alloc x.box).drew w2.heap.size x):=by
   have h:=xb_new w2 x
   exact⟨h.at_,h.fr,h.shp,h.lt⟩
  have HQ3:Hid (w2.heap.size≠g):=by have:=HF2.out.row.lt;show _≠_;omega
  have HQ4:Hid _:=HF2.out.keepC (k3.chg (S:=fun _=>False)) (fun h=>h) (fun h=>h)
  clear y0 y1 x0 x1 t1 k2 k2' HF HK HX HZ lb HC hR k3
  go_wp2_with fail
  have hR2:=HF2.out.lt
  have hX2:=HZ2.out.1
  have HR0:Hid (∀w3,Chg (fun b=>b=g) (w2.alloc x.box).drew w3→w3.cell? ⟨R,0,none⟩=some (.slice (some ⟨g,0,none⟩) n cap)∧w3.frozen? ⟨R,0,none⟩=false):=fun w3 c3=>by
   rw[←HN.out]
   exact⟨(c3.cell (p:=⟨R,0,none⟩) HQ4.out.lt HQ4.out.ne).trans HQ4.out.c0,(c3.frozen (p:=⟨R,0,none⟩) HQ4.out.lt HQ4.out.ne).trans HQ4.out.fr⟩
  first|(go_region_with (go_at_call 148;refine Calls.mono (insS (w2.alloc x.box).drew g cap i n w2.heap.size l x HQ1.out HN.out HQ2.out HQ3.out (by omega) HI.out) ?_;rintro e w3 ⟨g',cap',rfl,r3,c3,e3⟩;obtain⟨z0,z1⟩:=HR0.out w3 c3))|fail
  all_goals
   have hl:(l.take i++x::l.drop i).length=n+1:=by
    have h1:=HI.out
    have h2:=HN.out
    rw[List.length_append,List.length_cons,List.length_take,List.length_drop]
    omega
   have R1:Hid (FrP (w3.setCell ⟨R,0,none⟩ (.slice (some ⟨g',0,none⟩) (n+1) cap')) R g' cap' (l.take i++x::l.drop i)):=by
    have h:=HQ4.out.put c3 r3 (e3.imp id (fun e=>Nat.le_of_eq e.symm))
    rw[hl] at h
    exact h
   have R2:Hid (Chg (fun b=>b=R∨b=g) w (w3.setCell ⟨R,0,none⟩ (.slice (some ⟨g',0,none⟩) (n+1) cap'))):=Chg.andThen HK2.out (Chg.andThen ((kept_alloc 0 0 w2 x.box).trans (kept_drew _)).chg (Chg.andThen (c3.mono fun b _ h=>.inr h) (chg_setCell w3 R 0 _ (.inl rfl))))
   have R3:Hid (g'=g∨w.heap.size≤g'):=e3.imp id (fun e=>by rw[e];show _≤(w2.alloc x.box).heap.size;have:=HZ2.out.2.2.2;simp;omega)
   clear hl z0 z1 c3 r3 e3
   go_wp2_with fail
   go_ret
   exact⟨i,g',cap',rfl,HL.out,R1.out,R2.out,R3.out⟩
end Go.Proofs.YtgamjhpebmmjcaaGreatDoor
