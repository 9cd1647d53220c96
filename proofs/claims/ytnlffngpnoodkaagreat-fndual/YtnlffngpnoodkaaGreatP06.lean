import Derived.Test.YtnlffngpnoodkaaGreatP04
import Derived.Deep.QuietTactic
import Derived.BigQuiet
namespace Go.Proofs.YtnlffngpnoodkaaGreat
set_option maxRecDepth 1000000
set_option maxHeartbeats 0
section
open Go.RowKit Flt
variable {w w' a b c:World} {lo g hi lo' l hi' h n:Nat} {xs:List Nat}
theorem ia {P:Program}{a:Addr}{m:Mode}(k:FloatKind)(b:Nat):(store a (.float k b) m).run P w=stored P w a (.float k b) m:=run_store P w a _ m rfl
structure Kept (lo hi:Nat)(w w':World):Prop where
 os:w'.os=w.os
 tape:w'.tape=w.tape
 output:w'.output=w.output
 size:w.heap.size<=w'.heap.size
 block:∀k,k<w.heap.size->¬(lo<=k/\k<hi)->w'.heap[k]? =w.heap[k]?
theorem Kept.refl (lo hi:Nat)(w:World):Kept lo hi w w:=⟨rfl,rfl,rfl,Nat.le_refl _,λ_ _ _=>rfl⟩
theorem Kept.trans (h:Kept lo hi a b)(k:Kept lo hi b c):Kept lo hi a c:=
 ⟨k.os.trans h.os,k.tape.trans h.tape,k.output.trans h.output,Nat.le_trans h.size k.size,λi hi' hn=>(k.block i (Nat.lt_of_lt_of_le hi' h.size) hn).trans (h.block i hi' hn)⟩
theorem Kept.mono (h:Kept lo hi w w')(hs:∀k,k<w.heap.size->lo<=k/\k<hi->lo'<=k/\k<hi'):Kept lo' hi' w w':=
 ⟨h.os,h.tape,h.output,h.size,λk hk hn=>h.block k hk λc=>hn (hs k hk c)⟩
theorem Kept.new {h':Nat}(h:Kept lo hi a b)(k:Kept l h' b c)(hl:a.heap.size<=l):Kept lo hi a c:=
 ⟨k.os.trans h.os,k.tape.trans h.tape,k.output.trans h.output,Nat.le_trans h.size k.size,λi hi' hn=>(k.block i (Nat.lt_of_lt_of_le hi' h.size) (λc=>by omega)).trans (h.block i hi' hn)⟩
theorem Kept.below (h:Kept 0 0 w w'):Below w.heap.size w w':=⟨h.os,h.tape,h.output,h.size,λk hk=>h.block k hk (by omega)⟩
theorem iq (lo hi:Nat)(w:World)(m:Nat):Kept lo hi w (w.drewN m):=⟨rfl,rfl,rfl,Nat.le_refl _,λ_ _ _=>rfl⟩
theorem hU (lo hi:Nat)(w:World)(o:Obj):Kept lo hi w (w.alloc o):=⟨rfl,rfl,rfl,by simp,λk hk _=>Below.heap_alloc w o k hk⟩
theorem it (w:World)(a:Addr)(v:Value)(h:lo<=a.block/\a.block<hi\/w.heap.size<=a.block):Kept lo hi w (w.setCell a v):=
 ⟨rfl,rfl,rfl,by simp,λk hk hn=>Below.heap_setCell w a v k (λe=>by subst e;omega)⟩
theorem Kept.cell (h:Kept lo hi w w'){p:Addr}(hp:p.block<w.heap.size)(hn:¬(lo<=p.block/\p.block<hi)):w'.cell? p=w.cell? p:=World.cell?_of_block (w:=w) (h.block p.block hp hn)
theorem Kept.frozen (h:Kept lo hi w w'){p:Addr}(hp:p.block<w.heap.size)(hn:¬(lo<=p.block/\p.block<hi)):w'.frozen? p=w.frozen? p:=World.frozen?_of_block (w:=w) (h.block p.block hp hn)
def Drawn (w w':World):Prop:=∃m,w'=w.drewN m
theorem Drawn.refl (w:World):Drawn w w:=⟨0,rfl⟩
theorem Drawn.more (h:Drawn w w')(n:Nat):Drawn w (w'.drewN n):=by
 obtain⟨m,rfl⟩:=h;exact⟨m+n,World.drewN_drewN ..⟩
theorem Drawn.trans (h:Drawn a b)(k:Drawn b c):Drawn a c:=by
 obtain⟨m,rfl⟩:=k;exact h.more m
theorem Drawn.cell (h:Drawn w w')(p:Addr):w'.cell? p=w.cell? p:=by obtain⟨m,rfl⟩:=h;rfl
theorem Drawn.kept (h:Drawn w w')(lo hi:Nat):Kept lo hi w w':=by obtain⟨m,rfl⟩:=h;exact iq lo hi w m
structure FS (w:World)(lo hi:Nat)(a:Option Addr)(n:Nat)(xs:List Nat):Prop where
 len:xs.length=n
 lt:∀x∈xs,x<18446744073709551616
 at_:n=0\/∃g off,a=some ⟨g,off,none⟩/\lo<=g/\g<hi/\g<w.heap.size/\∀k,k<n->w.cell? ⟨g,off+k,none⟩=some (.float .f64 (xs.getD k 0))
theorem FS.keep {a:Option Addr}(f:FS w lo hi a n xs)(k:Kept l h w w')(hd:hi<=l\/h<=lo\/h<=l):FS w' lo hi a n xs:=
 ⟨f.len,f.lt,by
  rcases f.at_ with h0|⟨g,off,e,h1,h2,h3,h4⟩
  ·exact .inl h0
  ·exact .inr ⟨g,off,e,h1,h2,Nat.lt_of_lt_of_le h3 k.size,λj hj=>by rw[k.cell (p:=⟨g,off+j,none⟩) h3 (by show ¬(l<=g/\g<h);omega)];exact h4 j hj⟩⟩
theorem FS.mono {a:Option Addr}(f:FS w lo hi a n xs)(h1:lo'<=lo)(h2:hi<=hi'):FS w lo' hi' a n xs:=
 ⟨f.len,f.lt,by
  rcases f.at_ with h0|⟨g,off,e,a1,a2,a3,a4⟩
  ·exact .inl h0
  ·exact .inr ⟨g,off,e,by omega,by omega,a3,a4⟩⟩
theorem iE (h:∀x∈xs,x<18446744073709551616)(k:Nat):xs.getD k 0<18446744073709551616:=by
 rw[List.getD_eq_getElem?_getD]
 by_cases hk:k<xs.length
 ·rw[List.getElem?_eq_getElem hk];exact h _ (List.getElem_mem _)
 ·rw[List.getElem?_eq_none (by omega)];exact(by omega:(0:Nat)<18446744073709551616)
def FR (w:World)(g:Nat)(xs:List Nat):Prop:=w.heap[g]? =some (.cells (xs.map (Value.float .f64)).toArray 29 (0,0))
theorem FR.lt (h:FR w g xs):g<w.heap.size:=by
 unfold FR at h
 rcases Nat.lt_or_ge g w.heap.size with c|c
 ·exact c
 ·rw[Array.getElem?_eq_none c] at h;cases h
theorem FR.cell (h:FR w g xs)(k:Nat)(hk:k<xs.length):w.cell? ⟨g,k,none⟩=some (.float .f64 (xs.getD k 0)):=by
 rw[cell_of_row w g k _ _ _ h]
 simp[hk,List.getD_eq_getElem?_getD]
theorem FR.free (h:FR w g xs)(k:Nat):w.frozen? ⟨g,k,none⟩=false:=frozen_of_row w g k _ _ h
theorem FR.keep (f:FR w g xs)(k:Kept l h w w')(hd:g<l\/h<=g\/h<=l):FR w' g xs:=by
 unfold FR
 rw[k.block g f.lt (by omega)]
 exact f
theorem FR.set (h:FR w g xs)(k x:Nat):FR (w.setCell ⟨g,k,none⟩ (.float .f64 x)) g (xs.set k x):=by
 unfold FR at h ⊢
 rw[heap_setCell_same w g k _ _ _ h]
 simp[List.map_set]
theorem FR.drewN (h:FR w g xs)(m:Nat):FR (w.drewN m) g xs:=h
theorem FR.fs (h:FR w g xs)(hl:∀x∈xs,x<18446744073709551616)(h1:lo<=g)(h2:g<hi):FS w lo hi (some ⟨g,0,none⟩) xs.length xs:=
 ⟨rfl,hl,.inr ⟨g,0,rfl,h1,h2,h.lt,λk hk=>by rw[Nat.zero_add];exact h.cell k hk⟩⟩
theorem FR.made (w:World)(n:Nat):FR (w.alloc (.cells (madeCells #[.float .f64 0] n) 29)) w.heap.size (List.replicate n 0):=by
 unfold FR
 rw[heap_alloc_new]
 have:(madeCells #[.float .f64 0] n)=(List.map (Value.float .f64) (List.replicate n 0)).toArray:=by
  apply Array.toList_inj.1
  rw[toList_madeCells_one]
  simp
 rw[this]
theorem lq:(Tryz.prog.info? 29).map (λi=>(i.zero,i.size,i.bytes))=some (some (.float .f64 0),1,8):=by kernel_rfl
end
section
open Go.RowKit Flt
attribute [local go_sem] ic ib ia
variable {xs ys:List Nat}
theorem lT (n:Nat)(w:World)(hn:n<=1099511627776):
  (Instr.makeSlice 36 (.int .i64 (n:Int)) (.int .i64 (n:Int))).run Tryz.prog w=.ok (.slice (some ⟨w.heap.size,0,none⟩) n n) (w.alloc (.cells (madeCells #[.float .f64 0] n) 29)):=by
 obtain⟨i,hi,hz0,hz1,hz2⟩:=info_parts lq
 have:=run_make (P:=Tryz.prog) w 36 29 i (.float .f64 0) Tryz.underlying36 hi hz0 .i64 .i64 n n (by omega) (by omega) (by rw[hz2];omega) (by omega)
 rw[hz1,Nat.mul_one,Int.toNat_natCast] at this
 exact this
def same (xs ys:List Nat):Prop:=xs.map fb=ys.map fb
theorem jY (h:same xs ys):xs.length=ys.length:=by
 have:=congrArg List.length h;simpa using this
theorem vF (hl:xs.length=ys.length)(h:∀k,k<xs.length->fb (xs.getD k 0)=fb (ys.getD k 0)):same xs ys:=by
 unfold same
 apply List.ext_getElem (by simpa using hl)
 intro i h1 h2
 have h1':i<xs.length:=by simpa using h1
 have:=h i h1'
 simp only[List.getElem_map]
 rw[List.getD_eq_getElem?_getD,List.getD_eq_getElem?_getD,List.getElem?_eq_getElem h1',List.getElem?_eq_getElem (by omega:i<ys.length)] at this
 exact this
theorem jk (h:same xs ys)(k:Nat):fb (xs.getD k 0)=fb (ys.getD k 0):=by
 have:(xs.map fb)[k]? =(ys.map fb)[k]?:=by rw[h]
 rw[List.getElem?_map,List.getElem?_map] at this
 rw[List.getD_eq_getElem?_getD,List.getD_eq_getElem?_getD]
 cases h1:xs[k]?<;>cases h2:ys[k]?<;>rw[h1,h2] at this<;>simp at this
 all_goals first|rfl|exact this
end
end Go.Proofs.YtnlffngpnoodkaaGreat
