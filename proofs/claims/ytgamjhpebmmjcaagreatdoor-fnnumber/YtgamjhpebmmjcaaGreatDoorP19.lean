import Derived.Test.YtgamjhpebmmjcaaGreatDoorP17
import Derived.Test.YtgamjhpebmmjcaaGreatDoorP09
import Derived.Deep.AppendLies
import Derived.Test.YtgamjhpebmmjcaaGreatDoorP18
namespace Go.Proofs.YtgamjhpebmmjcaaGreatDoor
set_option maxRecDepth 100000
set_option maxHeartbeats 40000000
open Go.RowKit Flt
def lsP (vs:List Vl)(n i:Nat):List Int:=(List.range n).map fun j=>if j<i then effT vs i j else 0
theorem lsP_len (vs:List Vl)(n i:Nat):(lsP vs n i).length=n:=by simp[lsP]
theorem lsP_at (vs:List Vl){n i j:Nat}(h:j<n):(lsP vs n i).getD j 0=if j<i then effT vs i j else 0:=by
 unfold lsP
 rw[List.getD_eq_getElem?_getD,List.getElem?_map,List.getElem?_range h];rfl
def lsK (xs:List Int)(v:Vl)(i:Nat):Nat→List Int
 |0=>xs.set i (i:Int)
 |q+1=>(lsK xs v i q).set (fld v q).toNat (i:Int)
theorem lsK_len (xs:List Int)(v:Vl)(i:Nat):∀q,(lsK xs v i q).length=xs.length
 |0=>by simp[lsK]
 |q+1=>by simp[lsK,lsK_len xs v i q]
theorem lsK_at (xs:List Int)(v:Vl)(i:Nat):∀q,(∀k,k<q→0≤fld v k∧fld v k<xs.length)→i<xs.length→∀j,j<xs.length→(lsK xs v i q).getD j 0=if j=i∨((List.range q).any fun k=>fld v k==(j:Int))=true then (i:Int) else xs.getD j 0
 |0,_,hi,j,hj=>by
  simp only[lsK,List.range_zero,List.any_nil,Bool.false_eq_true,or_false]
  rw[List.getD_eq_getElem?_getD,List.getElem?_set]
  by_cases e:i=j
  ·subst e
   rw[if_pos rfl,if_pos hi,if_pos rfl];rfl
  ·rw[if_neg e,if_neg (fun c=>e c.symm),List.getD_eq_getElem?_getD]
 |q+1,h,hi,j,hj=>by
  have ih:=lsK_at xs v i q (fun k hk=>h k (by omega)) hi j hj
  have hq:=h q (Nat.lt_succ_self _)
  rw[lsK,List.getD_eq_getElem?_getD,List.getElem?_set,lsK_len]
  rw[List.range_succ,List.any_append]
  by_cases e:(fld v q).toNat=j
  ·rw[if_pos e,if_pos (by omega)]
   have:(fld v q==(j:Int))=true:=by simp;omega
   simp[this]
  ·rw[if_neg e,←List.getD_eq_getElem?_getD,ih]
   have:(fld v q==(j:Int))=false:=by simp;omega
   simp[this]
theorem eff_succ (vs:List Vl){i j:Nat}(h:j<i):effT vs (i+1) j=if usesB (vs.getD i Vl.zero) j=true then (i:Int) else effT vs i j:=by
 unfold effT
 have e:i+1-(j+1)=(i-(j+1))+1:=by omega
 have e2:j+1+(i-(j+1))=i:=by omega
 rw[e,lastTo,e2]
 split
 ·rw[if_neg (by omega)]
 ·rfl
theorem lsK_all {vs:List Vl}{n i:Nat}(hi:i<n)(h:∀k,k<cnt (vs.getD i Vl.zero).op→0≤fld (vs.getD i Vl.zero) k∧fld (vs.getD i Vl.zero) k<i):lsK (lsP vs n i) (vs.getD i Vl.zero) i (cnt (vs.getD i Vl.zero).op)=lsP vs n (i+1):=by
 refine List.ext_getElem (by rw[lsK_len,lsP_len,lsP_len]) (fun j h1 h2=>?_)
 have hj:j<n:=by rw[lsP_len] at h2;exact h2
 have a:=lsK_at (lsP vs n i) (vs.getD i Vl.zero) i (cnt (vs.getD i Vl.zero).op) (fun k hk=>by have:=h k hk;rw[lsP_len];omega) (by rw[lsP_len];exact hi) j (by rw[lsP_len];exact hj)
 have b:=lsP_at vs (i:=i+1) hj
 rw[List.getD_eq_getElem?_getD,List.getElem?_eq_getElem h1] at a
 rw[List.getD_eq_getElem?_getD,List.getElem?_eq_getElem h2] at b
 simp only[Option.getD_some] at a b
 rw[a,b]
 change (if j=i∨usesB (vs.getD i Vl.zero) j=true then (i:Int) else _)=_
 rw[lsP_at vs hj]
 rcases Nat.lt_trichotomy j i with c|c|c
 ·rw[if_pos (show j<i+1 by omega),if_pos c,eff_succ vs c]
  by_cases u:usesB (vs.getD i Vl.zero) j=true
  ·rw[if_pos (.inr u),if_pos u]
  ·rw[if_neg (fun h=>h.elim (fun h=>by omega) u),if_neg u]
 ·subst c
  rw[if_pos (.inl rfl),if_pos (show j<j+1 by omega)]
  unfold effT
  rw[Nat.sub_self,lastTo,if_pos rfl]
 ·have u:¬usesB (vs.getD i Vl.zero) j=true:=fun hu=>by
   unfold usesB at hu
   obtain⟨k,hk,he⟩:=List.any_eq_true.1 hu
   have:=h k (List.mem_range.1 hk)
   have e:fld (vs.getD i Vl.zero) k=(j:Int):=by simpa using he
   omega
  rw[if_neg (fun h=>h.elim (fun h=>by omega) u),if_neg (by omega),if_neg (by omega)]
theorem doneL_succ (vs:List Vl)(outs:List Int)(i b:Nat):doneL vs outs (i+1) b=doneL vs outs i b++(if effT vs vs.length i=(b:Int)∧isO outs i=false then[(i:Int)] else[]):=by
 unfold doneL
 rw[List.range_succ,List.filter_append,List.map_append]
 congr 1
 by_cases e:effT vs vs.length i=(b:Int)∧isO outs i=false
 ·rw[if_pos e]
  simp[e.1,e.2]
 ·rw[if_neg e]
  have:(effT vs vs.length i==(b:Int)&&!isO outs i)=false:=by
   cases h1:(effT vs vs.length i==(b:Int))
   ·rfl
   ·cases h2:isO outs i
    ·exact absurd ⟨by simpa using h1,h2⟩ e
    ·rfl
  simp[this]
theorem doneL_len (vs:List Vl)(outs:List Int)(i b:Nat):(doneL vs outs i b).length≤i:=by
 unfold doneL
 rw[List.length_map]
 have:=List.length_filter_le (fun j=>effT vs vs.length j==(b:Int)&&!isO outs j) (List.range i)
 simpa using this
theorem doneL_mem {vs:List Vl}{outs:List Int}{n b:Nat}{o:Int}(h:o∈doneL vs outs n b):∃j:Nat,o=j∧j<n∧effT vs vs.length j=b∧isO outs j=false:=by
 unfold doneL at h
 obtain⟨j,hj,e⟩:=List.mem_map.1 h
 have:=List.mem_filter.1 hj
 refine⟨j,e.symm,List.mem_range.1 this.1,?_,?_⟩
 ·simpa using (Bool.and_eq_true_iff.1 this.2).1
 ·simpa using (Bool.and_eq_true_iff.1 this.2).2
structure DB (W:World)(D B n:Nat)(u:Nat→Value)(L:Nat→List Int):Prop where
 lt:D<W.heap.size
 fr:∀o,W.frozen? ⟨D,o,none⟩=false
 at_:∀b,b<n→W.cell? ⟨D,b,none⟩=some (u b)
 row:∀b,b<n→W.ownsRow B 3 1 (u b) (L b).length ((L b).map (Value.int .i64))
 ne:∀b b',b<n→b'<n→b≠b'→∀g,(u b).ownBlock=some g→(u b').ownBlock≠some g
theorem DB.keepC {W W':World}{S:Nat→Prop}{D B n:Nat}{u:Nat→Value}{L:Nat→List Int}(f:DB W D B n u L)(k:Chg S W W')(hD:¬S D)(hB:∀g,B≤g→g<W.heap.size→¬S g):DB W' D B n u L where
 lt:=Nat.lt_of_lt_of_le f.lt k.size
 fr:=fun o=>by rw[k.frozen (p:=⟨D,o,none⟩) f.lt hD];exact f.fr o
 at_:=fun b hb=>by rw[k.cell (p:=⟨D,b,none⟩) f.lt hD];exact f.at_ b hb
 row:=fun b hb=>own_keepC (f.row b hb) k (fun g hg=>by have:=own_blkV (f.row b hb) hg;exact hB g this.1 this.2)
 ne:=f.ne
theorem DB.keep {W W':World}{D B n:Nat}{u:Nat→Value}{L:Nat→List Int}(f:DB W D B n u L)(k:Kept 0 0 W W'):DB W' D B n u L:=f.keepC (S:=fun _=>False) k.chg (fun h=>h) (fun _ _ _ h=>h)
theorem DB.congr {W:World}{D B n:Nat}{u:Nat→Value}{L L':Nat→List Int}(f:DB W D B n u L)(h:∀b,b<n→L b=L' b):DB W D B n u L':=
 ⟨f.lt,f.fr,f.at_,fun b hb=>by rw[←h b hb];exact f.row b hb,f.ne⟩
def updV (u:Nat→Value)(b:Nat)(x:Value):Nat→Value:=fun j=>if j=b then x else u j
def updL (L:Nat→List Int)(b:Nat)(x:List Int):Nat→List Int:=fun j=>if j=b then x else L j
theorem DB.put {W W':World}{D B n b g cap:Nat}{u:Nat→Value}{L:Nat→List Int}{x:Int}{o:Obj}(f:DB W D B n u L)(hb:b<n)(hD:D<B)
  (ho:W'.ownsRow B 3 1 (.slice (some ⟨g,0,none⟩) ((L b).length+1) cap) ((L b).length+1) ((L b).map (Value.int .i64)++[.int .i64 x])) (hg:(W.alloc o).grownBy W' (u b).ownBlock) (ha:(u b).ownBlock=some g∨g=W.heap.size+1):
  DB (W'.setCell ⟨D,b,none⟩ (.slice (some ⟨g,0,none⟩) ((L b).length+1) cap)) D B n (updV u b (.slice (some ⟨g,0,none⟩) ((L b).length+1) cap)) (updL L b (L b++[x])):=by
 have ka:=kept_alloc 0 0 W o
 have cg:=chg_grow hg
 have hgB:=own_blkV ho (k:=g) rfl
 have hblk:∀c,(u b).ownBlock=some c→B≤c:=fun c hc=>(own_blkV (f.row b hb) hc).1
 have f1:=f.keep ka
 have e0:∀o,W'.cell? ⟨D,o,none⟩=(W.alloc _).cell? ⟨D,o,none⟩:=fun o=>cg.cell (p:=⟨D,o,none⟩) f1.lt (fun c=>by have:=hblk D c;omega)
 have e1:∀o,W'.frozen? ⟨D,o,none⟩=(W.alloc _).frozen? ⟨D,o,none⟩:=fun o=>cg.frozen (p:=⟨D,o,none⟩) f1.lt (fun c=>by have:=hblk D c;omega)
 refine⟨?_,fun o=>?_,fun j hj=>?_,fun j hj=>?_,fun j j' hj hj' hne c hc=>?_⟩
 ·have:=cg.size;have:=f1.lt;simp;omega
 ·rw[World.frozen?_setCell,e1];exact f1.fr o
 ·unfold updV
  by_cases e:j=b
  ·subst e
   rw[if_pos rfl]
   exact cell_eq _ _ _ _ _ ((e0 j).trans (f1.at_ j hj))
  ·rw[if_neg e,cell_ne _ _ _ _ _ _ (.inr (fun c=>e c.symm)),e0]
   exact f1.at_ j hj
 ·unfold updV updL
  by_cases e:j=b
  ·subst e
   rw[if_pos rfl,if_pos rfl,List.length_append,List.length_singleton,List.map_append]
   exact own_setCell ho (fun c=>by simp[Value.ownBlock] at c;omega)
  ·rw[if_neg e,if_neg e]
   refine own_setCell (own_keepC (f1.row j hj) cg (fun c hc hc'=>f.ne j b hj hb e c hc hc')) (fun c=>by have:=(own_blkV (f.row j hj) c).1;omega)
 ·unfold updV at hc ⊢
  by_cases e:j=b
  ·subst e
   rw[if_pos rfl] at hc
   rw[if_neg (fun c=>hne c.symm)]
   have hc':g=c:=by simpa[Value.ownBlock] using hc
   subst hc'
   intro hv
   rcases ha with h|h
   ·exact f.ne j j' hj hj' hne g h hv
   ·have:=(own_blkV (f.row j' hj') hv).2
    omega
  ·rw[if_neg e] at hc
   by_cases e':j'=b
   ·subst e'
    rw[if_pos rfl]
    intro hv
    have hv':g=c:=by simpa[Value.ownBlock] using hv
    subst hv'
    rcases ha with h|h
    ·exact f.ne j j' hj hj' hne g hc h
    ·have:=(own_blkV (f.row j hj) hc).2
     omega
   ·rw[if_neg e']
    exact f.ne j j' hj hj' hne c hc
theorem infoSI:(Tryz.prog.info? 32).map (fun i=>(i.zero,i.size,i.bytes))=some (some (.slice none 0 0),1,24):=by kernel_rfl
theorem make_si (n:Nat)(w:World)(hn:n≤1099511627776):
  (Instr.makeSlice 133 (.int .i64 (n:Int)) (.int .i64 (n:Int))).run Tryz.prog w=.ok (.slice (some ⟨w.heap.size,0,none⟩) n n) (w.alloc (.cells (madeCells #[.slice none 0 0] n) 32)):=by
 obtain⟨i,hi,hz0,hz1,hz2⟩:=info_parts infoSI
 have:=run_make (P:=Tryz.prog) w 133 32 i (.slice none 0 0) Tryz.underlying133 hi hz0 .i64 .i64 n n (by omega) (by omega) (by rw[hz2];omega) (by omega)
 rw[hz1,Nat.mul_one,Int.toNat_natCast] at this
 exact this
theorem DB.made (w:World)(n:Nat):DB (w.alloc (.cells (madeCells #[.slice none 0 0] n) 32)) w.heap.size (w.heap.size+1) n (fun _=>.slice none 0 0) (fun _=>[]) where
 lt:=by simp
 fr:=fun o=>by simp
 at_:=fun j hj=>by
  rw[World.cell?_alloc_new]
  simp only[madeCells]
  rw[Array.getElem?_map,Array.getElem?_range,if_pos hj]
  have hm:j%1=0:=Nat.mod_one j
  simp[hm]
 row:=fun _ _=>World.ownsRow_nil _ _ _ _
 ne:=fun _ _ _ _ _ g h=>by simp[Value.ownBlock] at h
theorem indexI (w:World)(lo hi:Nat)(a:Option Addr)(n cap:Nat)(xs:List Int)(x:Nat)(f:IS w lo hi a n xs)(hn:n≤100000):
  Calls Tryz.prog 145 #[.slice a n cap,.int .i64 (x:Int)] w fun e w'=>(∃r:Int,e=.returned (.int .i64 r)∧decide (0≤r)=isO xs x)∧w=w':=by
 have HL:Hid (xs.length=n):=f.len
 have HC:Hid _:=f
 clear f
 go_enter Tryz.func145,Tryz.ntmps145
 go_wp2_with fail
 go_loop [8] (fun i=>∃k:Nat,k≤n∧i=.int .i64 k∧Hid ((xs.take k).any (fun o=>o==(x:Int))=false)) (fun i=>n-(intOf i).toNat)
 case atStart=>exact⟨0,Nat.zero_le _,rfl,rfl⟩
 case round=>
  obtain⟨k,hk,rfl,hA⟩:=hrel
  by_cases hlt:k<n
  ·rcases HC.out.at_ with z|⟨g,off,rfl,_,_,_,z4⟩
   ·omega
   have c:=z4 k hlt
   clear z4
   cases t:(xs.getD k 0==(x:Int))
   ·have R:Hid _:=isO_take (by rw[HL.out];exact hlt) hA.out t
    have t':¬xs.getD k 0=(x:Int):=by simpa using t
    have t2:¬(x:Int)=xs.getD k 0:=fun e=>t' e.symm
    generalize xs.getD k 0=y at c t t' t2
    clear hA
    go_wp2
    go_round
    case rel=>exact⟨k+1,by omega,by go_num,R⟩
    case measure=>simp[intOf];omega
   ·have R:Hid (isO xs x=true):=by
     unfold isO
     show _=true
     rw[List.any_eq_true]
     refine⟨xs.getD k 0,?_,t⟩
     rw[List.getD_eq_getElem?_getD,List.getElem?_eq_getElem (by rw[HL.out];exact hlt)]
     exact List.getElem_mem _
    have t':xs.getD k 0=(x:Int):=by simpa using t
    rw[t'] at c
    clear hA t t'
    go_wp2
    go_ret
    exact⟨⟨k,rfl,by rw[R.out];simp⟩,rfl⟩
  ·have R:Hid (isO xs x=false):=by
    have:=hA.out
    rw[List.take_of_length_le (by rw[HL.out];omega)] at this
    exact this
   clear hA
   go_wp2
   go_ret
   exact⟨⟨-1,rfl,by rw[R.out];decide⟩,rfl⟩
theorem containsI (w:World)(lo hi:Nat)(a:Option Addr)(n cap:Nat)(xs:List Int)(x:Nat)(f:IS w lo hi a n xs)(hn:n≤100000):
  Calls Tryz.prog 118 #[.slice a n cap,.int .i64 (x:Int)] w fun e w'=>e=.returned (.bool (isO xs x))∧w=w':=by
 have HX:Hid _:=indexI w lo hi a n cap xs x f hn
 clear f
 go_enter Tryz.func118,Tryz.ntmps118
 go_wp2_with fail
 refine Calls.mono HX.out ?_
 rintro e w2 ⟨⟨r,rfl,hr⟩,rfl⟩
 go_wp2
 go_ret
 exact⟨by rw[←hr];rfl,rfl⟩
end Go.Proofs.YtgamjhpebmmjcaaGreatDoor
namespace Go.Proofs.YtgamjhpebmmjcaaGreatDoor
set_option maxRecDepth 100000
set_option maxHeartbeats 40000000
open Go.RowKit Flt
attribute [local go_sem] alloc_drewN setCell_drewN run_store_float
def DwO (w:World)(n:Nat)(vs:List Vl)(outs:List Int)(e:Ending)(w':World):Prop:=∃D B u,e=.returned (.slice (some ⟨D,0,none⟩) n n)∧DB w' D B n u (doneL vs outs n)∧w.heap.size≤D∧D<B∧B≤w'.heap.size∧Kept 0 0 w w'
theorem fld_in {v:Vl}{i:Nat}(h:∀o∈opsOf v,0≤o∧o<i):∀k,k<cnt v.op→0≤fld v k∧fld v k<i:=fun k hk=>by
 rw[←opsOf_fld v hk]
 refine h _ ?_
 rw[List.getD_eq_getElem?_getD,List.getElem?_eq_getElem (by rw[opsOf_len];exact hk)]
 exact List.getElem_mem _
theorem IR.cellN {w:World}{g:Nat}{xs:List Int}(h:IR w g xs){n:Nat}(hn:xs.length=n)(k:Nat)(hk:k<n):w.cell? ⟨g,k,none⟩=some (.int .i64 (xs.getD k 0)):=h.cell k (by omega)
theorem DB.mid {W W':World}{D B n b:Nat}{u:Nat→Value}{L:Nat→List Int}{o:Obj}(f:DB W D B n u L)(hb:b<n)(hD:D<B)(hg:(W.alloc o).grownBy W' (u b).ownBlock):W'.cell? ⟨D,b,none⟩=some (u b)∧W'.frozen? ⟨D,b,none⟩=false:=by
 have f1:=f.keep (kept_alloc 0 0 W o)
 have cg:=chg_grow hg
 have hblk:∀c,(u b).ownBlock=some c→B≤c:=fun c hc=>(own_blkV (f.row b hb) hc).1
 exact⟨(cg.cell (p:=⟨D,b,none⟩) f1.lt (fun c=>by have:=hblk D c;omega)).trans (f1.at_ b hb),(cg.frozen (p:=⟨D,b,none⟩) f1.lt (fun c=>by have:=hblk D c;omega)).trans (f1.fr b)⟩
theorem DB.chg {W W':World}{D B n b:Nat}{u:Nat→Value}{L:Nat→List Int}{o:Obj}(f:DB W D B n u L)(hb:b<n)(hg:(W.alloc o).grownBy W' (u b).ownBlock)(x:Value):Chg (fun c=>D=c∨B≤c) W (W'.setCell ⟨D,b,none⟩ x):=
 Chg.andThen (kept_alloc 0 0 W o).chg (Chg.andThen ((chg_grow hg).mono fun _ _ hc=>.inr (own_blkV (f.row b hb) hc).1) (chg_setCell W' D b _ (.inl rfl)))
theorem doneWith (w:World)(b1 b2 b3:Option Addr)(n1 c1 n2 c2 n3 c3:Nat)(ins:List Int)(vs:List Vl)(outs:List Int)(f:GS w b1 n1 b2 n2 b3 n3 ins vs outs)(hok:okG ins vs outs=true):
  Calls Tryz.prog 71 #[gagg b1 n1 c1 b2 n2 c2 b3 n3 c3] w fun e w'=>DwO w n2 vs outs e w':=by
 obtain⟨j0,hjj,hy0,hy1,hy2⟩:=info_parts infoI
 obtain⟨⟨hl1,hl2,hl3⟩,_,hv,_,_⟩:=okG_parts hok
 have hvl:vs.length=n2:=f.v.len
 have hol:outs.length=n3:=f.o.len
 have hn2:n2≤2000:=by omega
 have hn3:n3≤1000:=by omega
 have HV:Hid (∀i,i<n2→∀k,k<cnt (vs.getD i Vl.zero).op→0≤fld (vs.getD i Vl.zero) k∧fld (vs.getD i Vl.zero) k<i):=fun i hi=>fld_in (okV_ops (hv i (by omega)))
 have HLL:Hid (vs.length=n2):=hvl
 have k0:=kept_alloc 0 0 w (gbox b1 n1 c1 b2 n2 c2 b3 n3 c3)
 have hB:=g0_start w (.slice b1 n1 c1) (.slice b2 n2 c2) (.slice b3 n3 c3)
 have HB:Hid _:=hB
 have HF:Hid _:=f.keep k0
 have HK:Hid _:=k0
 have HZ:Hid ((w.alloc (gbox b1 n1 c1 b2 n2 c2 b3 n3 c3)).heap.size=w.heap.size+1):=by show _=_;simp
 clear f hok hl1 hl2 hl3 hv hvl hol k0
 obtain⟨_,q0,q1,q2⟩:=hB
 go_enter Tryz.func71,Tryz.ntmps71
 go_upto_region 1 with fail
 generalize w.alloc (gbox b1 n1 c1 b2 n2 c2 b3 n3 c3)=w1 at HB HF HK HZ q0 q1 q2 ⊢
 have hm:=make_i n2 w1 (by omega)
 have HT:Hid _:=IR.made w1 n2
 have k2:=kept_alloc 0 0 w1 (.cells (madeCells #[.int .i64 0] n2) 3)
 have HK2:Hid _:=k2
 have HZ2:Hid ((w1.alloc (.cells (madeCells #[.int .i64 0] n2) 3)).heap.size=w1.heap.size+1):=by show _=_;simp
 obtain⟨_,r0,r1,r2⟩:=HB.out.keep k2
 clear k2
 go_wp2_with fail
 clear q0 q1 q2 r0 r1 r2 hm
 generalize w1.alloc (.cells (madeCells #[.int .i64 0] n2) 3)=w2 at HT HK2 HZ2 ⊢
 obtain⟨T,hT⟩:∃T,T=w1.heap.size:=⟨_,rfl⟩
 rw[←hT] at HT HZ2 ⊢
 have HTW:Hid _:=hT
 clear hT
 have HT0:Hid (IR w2 T (lsP vs n2 0)):=by
  have e:lsP vs n2 0=List.replicate n2 0:=by
   rw[List.eq_replicate_iff]
   refine⟨lsP_len vs n2 0,fun b hb=>?_⟩
   obtain⟨j,_,e⟩:=List.mem_map.1 hb
   rw[←e,if_neg (Nat.not_lt_zero _)]
  show IR w2 T (lsP vs n2 0)
  rw[e];exact HT.out
 clear HT
 go_loopw [18] (fun x W=>∃i:Nat,i≤n2∧x=.int .i64 i∧Hid (IR W T (lsP vs n2 i))∧Hid (Chg (fun b=>b=T) w2 W)) (fun x _=>n2-(intOf x).toNat)
 case atStart=>exact⟨0,Nat.zero_le _,rfl,HT0,(Kept.refl 0 0 _).chg⟩
 case round=>
  obtain⟨i,hi,rfl,hI,hC⟩:=hrel
  clear HT0
  have HKW:Hid (Kept 0 0 w1 wr):=Chg.kept HK2.out hC.out (fun b e=>by have:=HTW.out;omega)
  obtain⟨_,q0,q1,q2⟩:=HB.out.keep HKW.out
  by_cases hlt:i<n2
  ·obtain⟨g,off,rfl,hg,_,_,hat⟩:=(HF.out.keep HKW.out).v.at_idx hlt
   have hops:=HV.out i hlt
   have HALL:Hid _:=lsK_all (n:=n2) hlt hops
   have HOPS:Hid _:=hops
   generalize hve:vs.getD i Vl.zero=v at hat hops HALL HOPS
   obtain⟨y0,y1,y2,y3,y4,y5⟩:=hat
   have hTlt:=hI.out.lt
   have cT:=IR.cellN hI.out (lsP_len vs n2 i) i hlt
   have fT:=IR.free hI.out i
   generalize (lsP vs n2 i).getD i 0=zz at cT
   have hTV:T≠wr.heap.size:=by omega
   have hzs:(wr.setCell ⟨T,i,none⟩ (.int .i64 (i:Nat))).heap.size=wr.heap.size:=by simp
   have hX:=vbox_atJ (wr.setCell ⟨T,i,none⟩ (.int .i64 (i:Nat))) v
   rw[hzs] at hX
   obtain⟨x0,x1,x2,x3,x4,x5⟩:=hX
   obtain⟨z0,z1,z2,z3,z4,z5⟩:=vbox_atJ wr v
   simp only[Nat.zero_add] at x1 x2 x3 x4 x5 z1 z2 z3 z4 z5
   have HI1:Hid (IR ((wr.setCell ⟨T,i,none⟩ (.int .i64 (i:Nat))).alloc (vbox v.op v.len v.a v.b v.c v.k)) T (lsK (lsP vs n2 i) v i 0)):=IR.keep (IR.set hI.out i (i:Nat)) (kept_alloc 0 0 _ _) (.inr (.inr (Nat.le_refl _)))
   have HC1:Hid (Chg (fun b=>b=T) w2 ((wr.setCell ⟨T,i,none⟩ (.int .i64 (i:Nat))).alloc (vbox v.op v.len v.a v.b v.c v.k))):=Chg.andThen hC.out (Chg.andThen (chg_setCell _ T i _ rfl) (kept_alloc 0 0 _ _).chg)
   clear hve hI hC
   go_wp2_with fail
   clear y0 y1 y2 y3 y4 y5 q0 q1 q2 x0 x1 x2 x3 x4 x5 z0 z1 z2 z3 z4 z5 cT fT hg hzs
   generalize (wr.setCell ⟨T,i,none⟩ (.int .i64 (i:Nat))).alloc (vbox v.op v.len v.a v.b v.c v.k)=w3 at HI1 HC1 ⊢
   refine Calls.mono (operandsOf w3 v) ?_
   rintro e w4 ⟨g5,rfl,i5,hg5,k5⟩
   have HI2:Hid _:=HI1.out.keep k5 (.inr (.inr (Nat.le_refl _)))
   have HC2:Hid (Chg (fun b=>b=T) w2 w4):=Chg.andThen HC1.out k5.chg
   obtain⟨m,hm⟩:∃m,m=cnt v.op:=⟨_,rfl⟩
   rw[←hm] at HALL HOPS ⊢
   have hm3:m≤3:=by have:=cnt_le v.op;omega
   have HG5:Hid ((∀q,q<m→w4.cell? ⟨g5,q,none⟩=some (.int .i64 (fld v q)))∧(0<m→T<g5)):=by
    refine⟨fun q hq=>?_,fun h0=>?_⟩
    ·rcases i5.at_ with z0|⟨gi,oi,ei,_,_,_,ci⟩
     ·omega
     ·injection ei with ei
      injection ei with ei1 ei2
      subst ei1 ei2
      have:=ci q (by omega)
      rw[Nat.zero_add,opsOf_fld v (by omega)] at this
      exact this
    ·rcases i5.at_ with z0|⟨gi,oi,ei,h1,_⟩
     ·omega
     ·injection ei with ei
      injection ei with ei1 ei2
      subst ei1
      have:=HI1.out.lt
      omega
   clear i5 hg5 k5 HI1 HC1 hm hops
   go_wp2_with fail
   go_loopw [30] (fun x W=>∃q:Nat,q≤m∧x=.int .i64 q∧Hid (IR W T (lsK (lsP vs n2 i) v i q))∧Hid (Chg (fun b=>b=T) w2 W)∧Hid (∀q,q<m→W.cell? ⟨g5,q,none⟩=some (.int .i64 (fld v q)))) (fun x _=>m-(intOf x).toNat)
   case atStart=>exact⟨0,Nat.zero_le _,rfl,HI2,HC2,HG5.out.1⟩
   case round=>
    obtain⟨q,hq,rfl,hI,hC,hG⟩:=hrel
    clear HI2 HC2
    by_cases hqm:q<m
    ·have hf:=HOPS.out q hqm
     have cg:=hG.out q hqm
     obtain⟨o,ho⟩:=Int.eq_ofNat_of_zero_le hf.1
     have hTg:=HG5.out.2 (by omega)
     have HR:Hid (IR (wr.setCell ⟨T,o,none⟩ (.int .i64 (i:Nat))) T (lsK (lsP vs n2 i) v i (q+1))):=by
      have:=IR.set hI.out o (i:Nat)
      show IR _ _ _
      rw[lsK,ho]
      exact this
     rw[ho] at cg hf
     have hon:o<n2:=by omega
     have cT:=IR.cellN hI.out (by rw[lsK_len,lsP_len]) o hon
     have fT:=IR.free hI.out o
     generalize (lsK (lsP vs n2 i) v i q).getD o 0=zz at cT
     have HRC:Hid (Chg (fun b=>b=T) w2 (wr.setCell ⟨T,o,none⟩ (.int .i64 (i:Nat)))):=Chg.andThen hC.out (chg_setCell _ T o _ rfl)
     have HRG:Hid (∀q,q<m→(wr.setCell ⟨T,o,none⟩ (.int .i64 (i:Nat))).cell? ⟨g5,q,none⟩=some (.int .i64 (fld v q))):=fun q hq=>by
      rw[cell_ne _ _ _ _ _ _ (.inl (by omega))];exact hG.out q hq
     have ho1:(0:Int)≤(o:Int):=by omega
     have ho2:(o:Int)<(n2:Int):=by omega
     clear hI hC hG hf
     go_wp2_with fail
     go_roundw
     case rel=>exact⟨q+1,by omega,by go_num,HR,HRC,HRG⟩
     case measure=>simp[intOf];omega
    ·obtain rfl:q=m:=by omega
     have HR:Hid (IR wr T (lsP vs n2 (i+1))):=by
      show IR _ _ _
      rw[←HALL.out];exact hI.out
     clear hI hG
     go_wp2_with fail
     go_roundw
     case rel=>exact⟨i+1,by omega,by go_num,HR,hC⟩
     case measure=>simp[intOf];omega
  ·obtain rfl:i=n2:=by omega
   have hm:=make_si i wr (by omega)
   have HD:Hid _:=DB.made wr i
   have k3:=kept_alloc 0 0 wr (.cells (madeCells #[.slice none 0 0] i) 32)
   have HT3:Hid _:=hI.out.keep k3 (.inr (.inr (Nat.le_refl _)))
   have HK3:Hid _:=HKW.out.trans k3
   have HZ3:Hid ((wr.alloc (.cells (madeCells #[.slice none 0 0] i) 32)).heap.size=wr.heap.size+1∧T<wr.heap.size∧w1.heap.size≤wr.heap.size):=⟨by simp,hI.out.lt,HKW.out.size⟩
   clear hI hC k3 HKW
   go_wp2_with fail
   clear q0 q1 q2 hm
   generalize wr.alloc (.cells (madeCells #[.slice none 0 0] i) 32)=w3 at HD HT3 HK3 HZ3 ⊢
   obtain⟨D,hD⟩:∃D,D=wr.heap.size:=⟨_,rfl⟩
   rw[←hD] at HD HZ3 ⊢
   clear hD
   go_loopw [46] (fun x W=>∃(k:Nat) (u:Nat→Value),k≤i∧x=.int .i64 k∧Hid (DB W D (D+1) i u (doneL vs outs k))∧Hid (Chg (fun b=>D=b∨D+1≤b) w3 W)) (fun x _=>i-(intOf x).toNat)
   case atStart=>exact⟨0,fun _=>.slice none 0 0,Nat.zero_le _,rfl,HD.out.congr (fun b _=>rfl),(Kept.refl 0 0 _).chg⟩
   case round=>
    obtain⟨k,u,hk,rfl,hD,hC⟩:=hrel
    clear HD
    have HKW:Hid (Kept 0 0 w1 wr):=Chg.kept HK3.out hC.out (fun b e=>by have:=HZ3.out;omega)
    obtain⟨_,q0,q1,q2⟩:=HB.out.keep HKW.out
    by_cases hlk:k<i
    ·have cT:=IR.cellN (IR.keepC HT3.out hC.out (by have:=HZ3.out;omega)) (lsP_len vs i i) k hlk
     rw[lsP_at vs hlk,if_pos hlk] at cT
     have hef:=eff_ge vs i k hlk
     have HSU:Hid (∀b,doneL vs outs (k+1) b=_):=fun b=>doneL_succ vs outs k b
     rw[HLL.out] at HSU
     obtain⟨e,he⟩:=Int.eq_ofNat_of_zero_le (show 0≤effT vs i k by omega)
     rw[he] at cT hef HSU
     have HCI:Hid _:=containsI wr 0 wr.heap.size b3 n3 c3 outs k (HF.out.keep HKW.out).o (by omega)
     have hei:e<i:=by omega
     clear he hef
     go_wp2_with fail
     refine Calls.mono HCI.out ?_
     rintro e' w5 ⟨rfl,rfl⟩
     cases hio:isO outs k
     ·have HNX:Hid (∀b,b<i→updL (doneL vs outs k) e (doneL vs outs k e++[(k:Int)]) b=doneL vs outs (k+1) b):=fun b hb=>by
       rw[HSU.out b]
       unfold updL
       by_cases c:b=e
       ·subst c
        rw[if_pos rfl,if_pos ⟨rfl,hio⟩]
       ·rw[if_neg c,if_neg (fun h=>c (by have:=h.1;omega)),List.append_nil]
      have ce:=hD.out.at_ e hei
      have hrow:=hD.out.row e hei
      have HD1:Hid _:=hD.out
      have hlen:(doneL vs outs k e).length≤2000:=by have:=doneL_len vs outs k e;omega
      have hsz:D+1≤wr.heap.size:=by have:=hD.out.lt;omega
      have he1:(0:Int)≤(e:Int):=by omega
      have he2:(e:Int)<(i:Int):=by omega
      clear hio HSU HCI cT q0 q1 q2
      go_wp2_with (first|(at_builtin;refine wpList_append_lies _ rfl _ _ 32 rfl (D+1) 3 j0 (.int .i64 0) 1 8 Tryz.underlying32 hjj hy0 hy1 hy2 rfl (by decide) _ _ _ rfl (hrow.alloc _) ⟨wr.heap.size,0,none⟩ 1 1 [.int .i64 (k:Int)] rfl rfl (cell_one_new _ _ _) (by intro u hu;simp at hu;subst hu;rfl) (by decide) (by unfold maxLen;omega) (by omega) (by simp;omega) _ rfl ?_;intro g9 cap9 w9 hown9 hg9 hat9 _;obtain⟨m0,m1⟩:=HD1.out.mid hei (Nat.lt_succ_self _) hg9)|fail)
      have R:Hid _:=(HD1.out.put hei (Nat.lt_succ_self _) hown9 hg9 (hat9.imp id (fun h=>h.trans (by simp)))).congr HNX.out
      have RC:Hid (Chg (fun b=>D=b∨D+1≤b) w3 _):=Chg.andThen hC.out (HD1.out.chg hei hg9 (.slice (some ⟨g9,0,none⟩) ((doneL vs outs k e).length+1) cap9))
      clear hown9 hg9 hat9 m0 m1 hrow HNX
      go_wp2_with fail
      go_roundw
      case rel=>exact⟨k+1,_,by omega,by go_num,R,RC⟩
      case measure=>simp[intOf];omega
     ·have R:Hid (DB wr D (D+1) i u (doneL vs outs (k+1))):=hD.out.congr (fun b _=>by rw[HSU.out b,if_neg (by rw[hio];simp),List.append_nil])
      clear hD HSU
      go_wp2_with fail
      go_roundw
      case rel=>exact⟨k+1,u,by omega,by go_num,R,hC⟩
      case measure=>simp[intOf];omega
    ·obtain rfl:k=i:=by omega
     have HD9:Hid _:=hD.out
     clear hD
     go_wp2_with fail
     go_ret
     unfold DwO
     exact⟨D,D+1,u,rfl,HD9.out,by have:=HZ3.out;have:=HZ.out;omega,Nat.lt_succ_self _,by have:=HD9.out.lt;omega,HK.out.trans HKW.out⟩
end Go.Proofs.YtgamjhpebmmjcaaGreatDoor
namespace Go.Proofs.YtgamjhpebmmjcaaGreatDoor
set_option maxRecDepth 100000
set_option maxHeartbeats 40000000
open Go.RowKit Flt
attribute [local go_sem] alloc_drewN setCell_drewN run_store_float
theorem PA.keepC {w w':World}{S:Nat→Prop}{g n:Nat}{vs:List Spn}(f:PA w g n vs)(k:Chg S w w')(hd:¬S g):PA w' g n vs:=by
 have e:∀o,w'.cell? ⟨g,o,none⟩=w.cell? ⟨g,o,none⟩:=fun o=>k.cell (p:=⟨g,o,none⟩) f.lt hd
 exact⟨f.len,Nat.lt_of_lt_of_le f.lt k.size,fun i hi=>⟨by rw[e];exact(f.at_ i hi).c0,by rw[e];exact(f.at_ i hi).c1⟩,fun o=>by rw[k.frozen (p:=⟨g,o,none⟩) f.lt hd];exact f.free o⟩
theorem own_read {W:World}{base n:Nat}{v:Value}{xs:List Int}(h:W.ownsRow base 3 1 v n (xs.map (Value.int .i64)))(hl:xs.length=n):∃a c,v=.slice a n c∧IS W base W.heap.size a n xs:=by
 rcases h.2 with⟨e,z⟩|⟨g,cap,cur,e,_⟩
 ·subst z
  exact⟨none,0,e,hl,.inl rfl⟩
 ·subst e
  exact⟨_,_,rfl,own_isL h hl⟩
def DRd (W:World)(D lo hi n:Nat)(L:Nat→List Int):Prop:=D<W.heap.size∧∀b,b<n→∃a c,W.cell? ⟨D,b,none⟩=some (.slice a (L b).length c)∧IS W lo hi a (L b).length (L b)
theorem DB.rd {W:World}{D B n:Nat}{u:Nat→Value}{L:Nat→List Int}(f:DB W D B n u L):DRd W D B W.heap.size n L:=
 ⟨f.lt,fun b hb=>by
  obtain⟨a,c,e,h⟩:=own_read (f.row b hb) rfl
  exact⟨a,c,by rw[f.at_ b hb,e],h⟩⟩
theorem DRd.keepC {W W':World}{S:Nat→Prop}{D lo hi n:Nat}{L:Nat→List Int}(f:DRd W D lo hi n L)(k:Chg S W W')(hD:¬S D)(hd:∀g,lo≤g→g<hi→¬S g):DRd W' D lo hi n L:=
 ⟨Nat.lt_of_lt_of_le f.1 k.size,fun b hb=>by
  obtain⟨a,c,e,h⟩:=f.2 b hb
  exact⟨a,c,by rw[k.cell (p:=⟨D,b,none⟩) f.1 hD];exact e,h.keepC k hd⟩⟩
def plUp (vs:List Vl)(ps:List Int)(n i:Nat):List Spn:=(List.range n).map fun j=>if j<i then spanOf vs ps j else Spn.zero
theorem plUp_len (vs:List Vl)(ps:List Int)(n i:Nat):(plUp vs ps n i).length=n:=by simp[plUp]
theorem plUp_at (vs:List Vl)(ps:List Int){n i j:Nat}(h:j<n):(plUp vs ps n i).getD j Spn.zero=if j<i then spanOf vs ps j else Spn.zero:=by
 unfold plUp
 rw[List.getD_eq_getElem?_getD,List.getElem?_map,List.getElem?_range h];rfl
theorem plUp_zero (vs:List Vl)(ps:List Int)(n:Nat):plUp vs ps n 0=List.replicate n Spn.zero:=by
 rw[List.eq_replicate_iff]
 refine⟨plUp_len vs ps n 0,fun b hb=>?_⟩
 obtain⟨j,_,e⟩:=List.mem_map.1 hb
 rw[←e,if_neg (Nat.not_lt_zero _)]
theorem plUp_set (vs:List Vl)(ps:List Int)(n i:Nat):(plUp vs ps n i).set i (spanOf vs ps i)=plUp vs ps n (i+1):=by
 refine List.ext_getElem (by rw[List.length_set,plUp_len,plUp_len]) (fun j h1 h2=>?_)
 have hj:j<n:=by rw[plUp_len] at h2;exact h2
 have a:=plUp_at vs ps (i:=i) hj
 have b:=plUp_at vs ps (i:=i+1) hj
 rw[List.getD_eq_getElem?_getD,List.getElem?_eq_getElem (by rw[plUp_len];exact hj)] at a
 rw[List.getD_eq_getElem?_getD,List.getElem?_eq_getElem h2] at b
 simp only[Option.getD_some] at a b
 rw[List.getElem_set,b]
 by_cases e:i=j
 ·subst e
  rw[if_pos rfl,if_pos (Nat.lt_succ_self _)]
 ·rw[if_neg e,a]
  by_cases c:j<i
  ·rw[if_pos c,if_pos (by omega)]
  ·rw[if_neg c,if_neg (by omega)]
theorem PlI.inb {vs:List Vl}{ps:List Int}{l:List Spn}{T:Nat→Prop}(f:PlI vs ps l T):∀s∈l,InB s:=fun s hs=>by
 have h1:=RunsF.mem f.fl.runs s hs
 have h2:=f.fl.top s hs
 exact⟨h1.1,by omega,h2⟩
theorem lbs_take {l:List Spn}{x:Int}{i:Nat}(h:LbS l x i):∀s∈l.take i,s.off<x:=fun s hs=>by
 obtain⟨j,hj,e⟩:=List.getElem_of_mem hs
 rw[List.length_take] at hj
 have:=h.lo j (by omega)
 rw[List.getD_eq_getElem?_getD,List.getElem?_eq_getElem (by omega)] at this
 rw[List.getElem_take] at e
 rw[←e]
 exact this
theorem lbs_drop {l:List Spn}{x:Int}{i:Nat}(h:LbS l x i):∀s∈l.drop i,x≤s.off:=fun s hs=>by
 obtain⟨j,hj,e⟩:=List.getElem_of_mem hs
 rw[List.length_drop] at hj
 have:=h.hi (i+j) (by omega) (by omega)
 rw[List.getD_eq_getElem?_getD,List.getElem?_eq_getElem (by omega)] at this
 rw[List.getElem_drop] at e
 rw[←e]
 exact this
def heldQ (vs:List Vl)(outs:List Int)(n i q:Nat)(j:Nat):Prop:=((j<i∧(i:Int)≤lastM vs outs j)∨j=i)∧(j:Int)∉(doneL vs outs n i).take q
theorem rel_in {vs:List Vl}{outs:List Int}{i j:Nat}(he:effT vs vs.length j=(i:Int))(ho:isO outs j=false):(j<i∧(i:Int)≤lastM vs outs j)∨j=i:=by
 unfold effT at he
 unfold lastM
 rw[ho,if_neg (by simp)]
 rcases lastTo_ge vs j (vs.length-(j+1)) with e|e
 ·rw[if_pos e] at he
  exact .inr (by omega)
 ·rw[if_neg (by omega)] at he
  exact .inl (by omega)
theorem doneL_nodup (vs:List Vl)(outs:List Int)(n b:Nat):(doneL vs outs n b).Nodup:=by
 unfold doneL
 rw[List.nodup_iff_pairwise_ne,List.pairwise_map]
 refine List.Pairwise.imp (fun {a b} (h:a<b)=>by omega) (List.Pairwise.filter _ List.pairwise_lt_range)
theorem take_new {xs:List Int}(h:xs.Nodup){q:Nat}(hq:q<xs.length):xs[q]∉xs.take q:=fun hm=>by
 obtain⟨j,hj,e⟩:=List.getElem_of_mem hm
 rw[List.length_take] at hj
 rw[List.getElem_take] at e
 have:=(List.nodup_iff_pairwise_ne.1 h)
 exact(List.pairwise_iff_getElem.1 this j q (by omega) hq (by omega)) e
theorem heldQ_start (vs:List Vl)(outs:List Int)(n i:Nat)(j:Nat):((j<i∧(i:Int)≤lastM vs outs j)∨j=i)↔heldQ vs outs n i 0 j:=by
 unfold heldQ
 simp
theorem heldQ_end {vs:List Vl}{outs:List Int}{n i:Nat}(hn:vs.length=n)(hi:i<n)(j:Nat):heldQ vs outs n i (doneL vs outs n i).length j↔(j<i+1∧((i+1:Nat):Int)≤lastM vs outs j):=by
 rw[←held_next (by omega:i<vs.length) j]
 unfold heldQ
 rw[List.take_of_length_le (Nat.le_refl _)]
 refine and_congr_right fun hb=>?_
 have hjn:j<n:=by omega
 constructor
 ·rintro h ⟨h1,h2⟩
  refine h ?_
  unfold doneL
  refine List.mem_map.2 ⟨j,List.mem_filter.2 ⟨List.mem_range.2 hjn,?_⟩,rfl⟩
  rw[h1,h2];simp
 ·rintro h hm
  obtain⟨j',e,_,h1,h2⟩:=doneL_mem hm
  have e':j=j':=by omega
  subst e'
  exact h ⟨h1,h2⟩
theorem heldQ_next {vs:List Vl}{outs:List Int}{n i q j0:Nat}(hq:q<(doneL vs outs n i).length)(e:(doneL vs outs n i).getD q 0=(j0:Int))(j:Nat):(heldQ vs outs n i q j∧j≠j0)↔heldQ vs outs n i (q+1) j:=by
 unfold heldQ
 rw[List.take_succ_eq_append_getElem hq]
 rw[List.getD_eq_getElem?_getD,List.getElem?_eq_getElem hq] at e
 simp only[Option.getD_some] at e
 rw[e,List.mem_append,List.mem_singleton,and_assoc]
 refine and_congr_right fun _=>?_
 constructor
 ·rintro⟨h1,h2⟩ (h|h)
  ·exact h1 h
  ·exact h2 (by omega)
 ·intro h
  exact⟨fun c=>h (.inl c),fun c=>h (.inr (by rw[c]))⟩
theorem heldQ_it {vs:List Vl}{outs:List Int}{n i q:Nat}(hq:q<(doneL vs outs n i).length):∃j0:Nat,(doneL vs outs n i).getD q 0=(j0:Int)∧j0≤i∧heldQ vs outs n i q j0:=by
 have hm:(doneL vs outs n i)[q]∈doneL vs outs n i:=List.getElem_mem _
 obtain⟨j,e,_,h2,h3⟩:=doneL_mem hm
 have hr:=rel_in h2 h3
 refine⟨j,by rw[List.getD_eq_getElem?_getD,List.getElem?_eq_getElem hq];exact e,by omega,hr,?_⟩
 rw[←e]
 exact take_new (doneL_nodup vs outs n i) hq
def PsO (w:World)(n:Nat)(ps:List Spn)(e:Ending)(w':World):Prop:=∃G,e=.returned (.slice (some ⟨G,0,none⟩) n n)∧PA w' G n ps∧w.heap.size≤G∧Kept 0 0 w w'
end Go.Proofs.YtgamjhpebmmjcaaGreatDoor
