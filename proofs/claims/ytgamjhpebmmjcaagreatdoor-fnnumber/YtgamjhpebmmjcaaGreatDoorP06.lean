import Derived.Test.YtgamjhpebmmjcaaGreatDoorP05
import Derived.Deep.AppendLies
import Derived.Deep.RegionLaw
import Derived.Test.YtgamjhpebmmjcaaGreatDoorP03
import Derived.Deep.RegionHeld3
import Derived.Deep.RegionWith
import Derived.Deep.DeepCutAuto
namespace Go.Proofs.YtgamjhpebmmjcaaGreatDoor
set_option maxRecDepth 100000
set_option maxHeartbeats 40000000
open Go.RowKit Flt
attribute [local go_sem] alloc_drewN setCell_drewN run_store_float
structure Chg (S:Nat→Prop)(w w':World):Prop where
 os:w'.os=w.os
 tape:w'.tape=w.tape
 output:w'.output=w.output
 size:w.heap.size≤w'.heap.size
 block:∀k,k<w.heap.size→¬S k→w'.heap[k]? =w.heap[k]?
theorem Chg.cell {S:Nat→Prop}{w w':World}(h:Chg S w w'){p:Addr}(hp:p.block<w.heap.size)(hn:¬S p.block):w'.cell? p=w.cell? p:=World.cell?_of_block (w:=w) (h.block p.block hp hn)
theorem Chg.frozen {S:Nat→Prop}{w w':World}(h:Chg S w w'){p:Addr}(hp:p.block<w.heap.size)(hn:¬S p.block):w'.frozen? p=w.frozen? p:=World.frozen?_of_block (w:=w) (h.block p.block hp hn)
theorem Kept.chg {S:Nat→Prop}{w w':World}(h:Kept 0 0 w w'):Chg S w w':=⟨h.os,h.tape,h.output,h.size,fun k hk _=>h.block k hk (by omega)⟩
theorem Chg.kept {S:Nat→Prop}{w0 w w':World}(k:Kept 0 0 w0 w)(h:Chg S w w')(hS:∀i,S i→w0.heap.size≤i):Kept 0 0 w0 w':=
 ⟨h.os.trans k.os,h.tape.trans k.tape,h.output.trans k.output,Nat.le_trans k.size h.size,fun i hi _=>(h.block i (Nat.lt_of_lt_of_le hi k.size) (fun c=>by have:=hS i c;omega)).trans (k.block i hi (by omega))⟩
def flat:List Vl→List Value
 |[]=>[]
 |v::r=>v.cells++flat r
theorem flat_append (a b:List Vl):flat (a++b)=flat a++flat b:=by
 induction a with
 |nil=>rfl
 |cons x r ih=>simp[flat,ih]
theorem flat_one (v:Vl):flat [v]=v.cells:=by simp[flat]
theorem flat_len (a:List Vl):(flat a).length=a.length*6:=by
 induction a with
 |nil=>rfl
 |cons x r ih=>simp only[flat,List.length_append,ih,List.length_cons];simp only[Vl.cells,List.length_cons,List.length_nil];omega
theorem flat_at:∀(a:List Vl) (k j:Nat),k<a.length→j<6→(flat a)[k*6+j]? =(a.getD k Vl.zero).cells[j]?
 |[],k,j,hk,_=>by simp at hk
 |x::r,0,j,_,hj=>by
  have:(x::r).getD 0 Vl.zero=x:=rfl
  rw[this,flat,List.getElem?_append_left (by simp only[Vl.cells,List.length_cons,List.length_nil];omega),Nat.zero_mul,Nat.zero_add]
 |x::r,k+1,j,hk,hj=>by
  have:(x::r).getD (k+1) Vl.zero=r.getD k Vl.zero:=rfl
  rw[this,flat,List.getElem?_append_right (by simp only[Vl.cells,List.length_cons,List.length_nil];omega)]
  have e:(k+1)*6+j-x.cells.length=k*6+j:=by simp only[Vl.cells,List.length_cons,List.length_nil];omega
  rw[e]
  exact flat_at r k j (by simpa using hk) hj
theorem row_at {W:World}{base n:Nat}{v:Value}{vs:List Vl}(h:W.ownsRow base 87 6 v n (flat vs))(hn:0<n)(hl:vs.length=n):
  ∃g cap,v=.slice (some ⟨g,0,none⟩) n cap∧base≤g∧g<W.heap.size∧n≤cap∧VA W g n vs:=by
 rcases h.2 with⟨_,c⟩|⟨g,cap,cur,rfl,b1,b2,b3,_,b5,b6⟩
 ·omega
 ·have hg:g<W.heap.size:=by
   rcases Nat.lt_or_ge g W.heap.size with c|c
   ·exact c
   ·rw[Array.getElem?_eq_none c] at b2;cases b2
  have key:∀k j,k<n→j<6→W.cell? ⟨g,k*6+j,none⟩=(vs.getD k Vl.zero).cells[j]?:=fun k j hk hj=>by
   rw[cell_of_row W g _ cur _ _ b2,←Array.getElem?_toList]
   have:(cur.toList.take (n*6))[k*6+j]? =(flat vs)[k*6+j]?:=by rw[b6]
   rw[List.getElem?_take_of_lt (by omega)] at this
   rw[this]
   exact flat_at vs k j (by omega) hj
  refine⟨g,cap,rfl,b1,hg,b3,hl,hg,fun k hk=>?_,fun o=>frozen_of_row W g o _ _ b2⟩
  exact⟨key k 0 hk (by omega),key k 1 hk (by omega),key k 2 hk (by omega),key k 3 hk (by omega),key k 4 hk (by omega),key k 5 hk (by omega)⟩
structure BS (w:World)(P:Nat)(u1 u3:Value)(vs:List Vl)(c:Int)(base:Nat)(R:Option Nat)(vv:Value):Prop where
 lt:P<w.heap.size
 free:∀o,w.frozen? ⟨P,o,none⟩=false
 c0:w.cell? ⟨P,0,none⟩=some u1
 c1:w.cell? ⟨P,1,none⟩=some vv
 c2:w.cell? ⟨P,2,none⟩=some u3
 c3:w.cell? ⟨P,3,none⟩=some (.int .i64 c)
 own:w.ownsRow base 87 6 vv vs.length (flat vs)
 row:vv.ownBlock=R
 ne:R≠some P
 sz:base≤w.heap.size
structure StQ (Q:Nat→Prop)(R:Option Nat)(w:World)(R':Option Nat)(w':World):Prop where
 chg:Chg (fun i=>Q i∨R=some i) w w'
 row:R'=R∨∃r,R'=some r∧w.heap.size≤r
theorem StQ.refl (Q:Nat→Prop)(R:Option Nat)(w:World):StQ Q R w R w:=⟨⟨rfl,rfl,rfl,Nat.le_refl _,fun _ _ _=>rfl⟩,.inl rfl⟩
theorem StQ.trans {Q:Nat→Prop}{R R' R'':Option Nat}{w w' w'':World}(a:StQ Q R w R' w')(b:StQ Q R' w' R'' w''):StQ Q R w R'' w'' where
 chg:=⟨b.chg.os.trans a.chg.os,b.chg.tape.trans a.chg.tape,b.chg.output.trans a.chg.output,Nat.le_trans a.chg.size b.chg.size,fun k hk hn=>by
  rw[b.chg.block k (Nat.lt_of_lt_of_le hk a.chg.size) ?_]
  ·exact a.chg.block k hk hn
  ·rintro (c|c)
   ·exact hn (.inl c)
   ·rcases a.row with e|⟨r,e,hr⟩
    ·exact hn (.inr (by rw[←e];exact c))
    ·rw[e] at c
     cases c
     omega⟩
 row:=by
  rcases b.row with e|⟨r,e,hr⟩
  ·rw[e];exact a.row
  ·exact .inr ⟨r,e,Nat.le_trans a.chg.size hr⟩
abbrev Stp (P:Nat)(R:Option Nat)(w:World)(R':Option Nat)(w':World):Prop:=StQ (fun i=>i=P) R w R' w'
theorem own_blkV {base e size n:Nat}{v:Value}{xs:List Value}{W:World}(h:W.ownsRow base e size v n xs){k:Nat}(hk:v.ownBlock=some k):base≤k∧k<W.heap.size:=by
 rcases h.2 with⟨rfl,_⟩|⟨g,cap,cur,rfl,b1,b2,_⟩
 ·simp[Value.ownBlock] at hk
 ·have e:g=k:=by simpa[Value.ownBlock] using hk
  subst e
  refine⟨b1,?_⟩
  rcases Nat.lt_or_ge g W.heap.size with c|c
  ·exact c
  ·rw[Array.getElem?_eq_none c] at b2;cases b2
theorem vbox_atJ (w:World)(v:Vl):At (w.alloc (vbox v.op v.len v.a v.b v.c v.k)) w.heap.size 0 v:=by
 refine⟨?_,?_,?_,?_,?_,?_⟩
 all_goals first|(go_simp;done)|(simp;done)
theorem own_drewA {base e size n:Nat}{v:Value}{xs:List Value}{W:World}(h:W.ownsRow base e size v n xs)(m:Nat)(o:Obj):((W.alloc o).drewN m).ownsRow base e size v n xs:=h.alloc o
theorem heap_new (w:World)(o:Obj):(w.alloc o).heap[w.heap.size]? =some o:=by
 unfold World.alloc
 simp
theorem news6 (w:World)(v:Vl)(m:Nat):∀j u,v.cells[j]? =some u→((w.alloc (.cells #[.int .i64 v.op,.int .i64 v.len,.int .i64 v.a,.int .i64 v.b,.int .i64 v.c,.float .f64 v.k] 87)).drewN m).cell? ((⟨w.heap.size,0,none⟩:Addr).add j)=some u:=fun j u hu=>
 World.news_of_block (w:=w.alloc (.cells #[.int .i64 v.op,.int .i64 v.len,.int .i64 v.a,.int .i64 v.b,.int .i64 v.c,.float .f64 v.k] 87)) (t:=87) (fr:=(0,0)) (cs:=#[.int .i64 v.op,.int .i64 v.len,.int .i64 v.a,.int .i64 v.b,.int .i64 v.c,.float .f64 v.k]) (heap_new _ _) j u hu
theorem far1 {w1 w9:World}{o:Obj}{m:Nat}{row:Option Nat}(hg:((w1.alloc o).drewN m).grownBy w9 row){b off:Nat}{u:Value}(hb:b<w1.heap.size)(hr:row≠some b)(hc:w1.cell? ⟨b,off,none⟩=some u):w9.cell? ⟨b,off,none⟩=some u:=by
 have hb':b<((w1.alloc o).drewN m).heap.size:=by show b<(w1.alloc o).heap.size;simp;omega
 rw[hg.cell_far ⟨b,off,none⟩ hb' (fun c=>hr c.symm)]
 exact kcell (kept_alloc 0 0 w1 o) hb hc
theorem far2 {w1 w9:World}{o:Obj}{m:Nat}{row:Option Nat}(hg:((w1.alloc o).drewN m).grownBy w9 row){b off:Nat}(hb:b<w1.heap.size)(hr:row≠some b)(hc:w1.frozen? ⟨b,off,none⟩=false):w9.frozen? ⟨b,off,none⟩=false:=by
 have hb':b<((w1.alloc o).drewN m).heap.size:=by show b<(w1.alloc o).heap.size;simp;omega
 rw[hg.frozen_far ⟨b,off,none⟩ hb' (fun c=>hr c.symm)]
 show(w1.alloc o).frozen? _=_
 rw[(kept_alloc 0 0 w1 o).frozen (p:=⟨b,off,none⟩) hb (by omega)]
 exact hc
theorem own_setCell {base e size n P o:Nat}{v u:Value}{xs:List Value}{W:World}(h:W.ownsRow base e size v n xs)(hP:v.ownBlock≠some P):(W.setCell ⟨P,o,none⟩ u).ownsRow base e size v n xs:=by
 refine⟨h.1,h.2.imp id ?_⟩
 rintro⟨g,cap,cur,e1,b1,b2,b3⟩
 refine⟨g,cap,cur,e1,b1,?_,b3⟩
 rw[Below.heap_setCell W ⟨P,o,none⟩ u g (fun c=>hP (by rw[e1,c];rfl))]
 exact b2
theorem BS.next {w w9:World}{P:Nat}{u1 u3:Value}{vs:List Vl}{c:Int}{base:Nat}{R:Option Nat}{vv:Value}{v:Vl}{o o2:Obj}{m g9 cap9:Nat}(h:BS w P u1 u3 vs c base R vv)
  (hown9:w9.ownsRow base 87 6 (.slice (some ⟨g9,0,none⟩) (vs.length+1) cap9) (vs.length+1) (flat vs++v.cells)) (hg9:(((w.alloc o).alloc o2).drewN m).grownBy w9 vv.ownBlock) (hat:vv.ownBlock=some g9∨g9=(w.alloc o).heap.size+1) (c':Int) (hc':c'=c+v.len):
  ∃R' vv',BS ((w9.setCell ⟨P,1,none⟩ (.slice (some ⟨g9,0,none⟩) (vs.length+1) cap9)).setCell ⟨P,3,none⟩ (.int .i64 c')) P u1 u3 (vs++[v]) (c+v.len) base R' vv'∧Stp P R w R' ((w9.setCell ⟨P,1,none⟩ (.slice (some ⟨g9,0,none⟩) (vs.length+1) cap9)).setCell ⟨P,3,none⟩ (.int .i64 c')):=by
 subst hc'
 have hlt:=h.lt
 have hs:(w.alloc o).heap.size=w.heap.size+1:=by simp
 have k1:=kept_alloc 0 0 w o
 have hP1:P<(w.alloc o).heap.size:=by omega
 have hRP:vv.ownBlock≠some P:=by rw[h.row];exact h.ne
 have gP:g9≠P:=by
  rcases hat with e|e
  ·intro c;rw[c] at e;exact hRP e
  ·omega
 have q0:=far1 hg9 hP1 hRP (kcell k1 hlt h.c0)
 have q1:=far1 hg9 hP1 hRP (kcell k1 hlt h.c1)
 have q2:=far1 hg9 hP1 hRP (kcell k1 hlt h.c2)
 have q3:=far1 hg9 hP1 hRP (kcell k1 hlt h.c3)
 have hsz9:w.heap.size+2≤w9.heap.size:=by
  have:=hg9.size
  have e:(((w.alloc o).alloc o2).drewN m).heap.size=w.heap.size+2:=by show((w.alloc o).alloc o2).heap.size=_;simp
  omega
 refine⟨some g9,.slice (some ⟨g9,0,none⟩) (vs.length+1) cap9,?_,?_,?_⟩
 ·refine⟨by simp;omega,fun b=>?_,?_,?_,?_,?_,?_,rfl,fun e=>gP (by cases e;rfl),by simp;have:=h.sz;omega⟩
  ·have hf:=far2 (off:=b) hg9 hP1 hRP (by rw[k1.frozen (p:=⟨P,b,none⟩) hlt (by omega)];exact h.free b)
   simp[hf]
  ·rw[cell_ne _ _ _ _ _ _ (.inr (by omega)),cell_ne _ _ _ _ _ _ (.inr (by omega))];exact q0
  ·rw[cell_ne _ _ _ _ _ _ (.inr (by omega))];exact cell_eq _ _ _ _ _ q1
  ·rw[cell_ne _ _ _ _ _ _ (.inr (by omega)),cell_ne _ _ _ _ _ _ (.inr (by omega))];exact q2
  ·exact cell_eq _ _ _ _ _ (by rw[cell_ne _ _ _ _ _ _ (.inr (by omega))];exact q3)
  ·rw[List.length_append,List.length_singleton,flat_append,flat_one]
   have nP:(Value.slice (some ⟨g9,0,none⟩) (vs.length+1) cap9).ownBlock≠some P:=fun e=>gP (by simpa[Value.ownBlock] using e)
   exact own_setCell (own_setCell hown9 nP) nP
 ·refine⟨hg9.os,hg9.tape,hg9.output,by simp;omega,fun k hk hn=>?_⟩
  have hkP:k≠P:=fun e=>hn (.inl e)
  have hkR:some k≠vv.ownBlock:=fun e=>hn (.inr (by rw[←h.row];exact e.symm))
  rw[Below.heap_setCell _ ⟨P,3,none⟩ _ k hkP,Below.heap_setCell _ ⟨P,1,none⟩ _ k hkP,hg9.block k (by show k<((w.alloc o).alloc o2).heap.size;simp;omega) hkR]
  show((w.alloc o).alloc o2).heap[k]? =_
  rw[Below.heap_alloc _ _ k (by omega),Below.heap_alloc _ _ k hk]
 ·rcases hat with e|e
  ·exact .inl (by rw[←e];exact h.row)
  ·exact .inr ⟨g9,rfl,by omega⟩
theorem one6 (v:Vl):∀u∈v.cells,u.oneCell'=true:=fun u hu=>by
 simp only[Vl.cells,List.mem_cons,List.not_mem_nil,or_false] at hu
 rcases hu with rfl|rfl|rfl|rfl|rfl|rfl<;>rfl
theorem putVal (w:World)(P:Nat)(u1 u3:Value)(vs:List Vl)(c:Int)(base:Nat)(R:Option Nat)(vv:Value)(v:Vl)(h:BS w P u1 u3 vs c base R vv)(hn:vs.length≤1000000)(hc0:-1000000000≤c)(hc1:c≤1000000000)(hl0:-1000000000≤v.len)(hl1:v.len≤1000000000):
  Calls Tryz.prog 231 #[.pointer (some ⟨P,0,none⟩),v.agg] w fun e w'=>e=.returned (.int .i64 (vs.length:Nat))∧(∃R' vv',BS w' P u1 u3 (vs++[v]) (c+v.len) base R' vv'∧Stp P R w R' w'):=by
 obtain⟨i0,hi,hz0,hz1,hz2⟩:=info_parts infoV
 have HB:Hid _:=h
 have k1:=kept_alloc 0 0 w (vbox v.op v.len v.a v.b v.c v.k)
 have c1:=kcell k1 h.lt h.c1
 have hown:=h.own.alloc (vbox v.op v.len v.a v.b v.c v.k)
 have hz:=h.sz
 have c3:=kcell k1 h.lt h.c3
 have fz3:=h.free 3
 rw[←k1.frozen (p:=⟨P,3,none⟩) h.lt (by omega)] at fz3
 have fz:=h.free 1
 rw[←k1.frozen (p:=⟨P,1,none⟩) h.lt (by omega)] at fz
 have hlt:=h.lt
 have hv:=vbox_atJ w v
 have HV:Hid _:=hv
 obtain⟨v0,v1,v2,v3,v4,v5⟩:=hv
 have hsz:(w.alloc (vbox v.op v.len v.a v.b v.c v.k)).heap.size=w.heap.size+1:=by simp
 have HR:Hid (vv.ownBlock≠some P∧vv.ownBlock≠some w.heap.size):=⟨by rw[h.row];exact h.ne,fun e=>by have:=(own_blkV h.own e).2;omega⟩
 have hwr:IntKind.i64.wrap (c+v.len)=c+v.len:=by rw[IntKind.wrap_i64];omega
 clear h k1
 go_enter Tryz.func231,Tryz.ntmps231
 go_wp2_with fail
 generalize hw1:w.alloc (vbox v.op v.len v.a v.b v.c v.k)=w1 at c1 hown v0 v1 v2 v3 v4 v5 HV hsz fz fz3 c3 ⊢
 have HSZ:Hid _:=hsz
 have hb1:base≤w1.heap.size:=by omega
 have hP1:P<w1.heap.size:=by omega
 have hV1:w.heap.size<w1.heap.size:=by omega
 clear hsz
 go_region_law
  ((refine step_append_lies _ rfl (.tmp 10) (.tmp 12) 57 rfl base 87 i0 (vagg 0 0 0 0 0 0) 6 48 Tryz.underlying57 hi hz0 hz1 hz2 rfl (by decide) _ _ (flat vs) (by simp[Act.eval]) (own_drewA hown 1 _) ⟨w1.heap.size,0,none⟩ 1 1 v.cells (by simp[Act.eval]) rfl (news6 _ _ _) (one6 v) (by decide) (by unfold maxLen;omega) (by omega) (by simp;omega) _ rfl ?_;intro g9 cap9 w9 hown9 hg9 hat9 hlt9;have s0:=far1 hg9 hP1 HR.out.1 c1;have f0:=far2 hg9 hP1 HR.out.1 fz;have s1:=far1 hg9 hV1 HR.out.2 v0;have s2:=far1 hg9 hV1 HR.out.2 v1;have s3:=far1 hg9 hV1 HR.out.2 v2;have s4:=far1 hg9 hV1 HR.out.2 v3;have s5:=far1 hg9 hV1 HR.out.2 v4;have s6:=far1 hg9 hV1 HR.out.2 v5))
 all_goals
  have n3:=far1 hg9 hP1 HR.out.1 c3
  have f3:=far2 hg9 hP1 HR.out.1 fz3
  rw[←hw1] at hg9 hat9
  have hat':vv.ownBlock=some g9∨g9=(w.alloc (vbox v.op v.len v.a v.b v.c v.k)).heap.size+1:=hat9.imp id (fun e=>by rw[e];show((w.alloc _).alloc _).heap.size=_;simp)
  have R0:Hid _:=BS.next (v:=v) HB.out hown9 hg9 hat' (c+v.len) rfl
  have m3:(w9.setCell ⟨P,1,none⟩ (.slice (some ⟨g9,0,none⟩) (vs.length+1) cap9)).cell? ⟨P,3,none⟩=some (.int .i64 c):=by rw[cell_ne _ _ _ _ _ _ (.inr (by omega))];exact n3
  have m1:(w9.setCell ⟨P,1,none⟩ (.slice (some ⟨g9,0,none⟩) (vs.length+1) cap9)).cell? ⟨P,1,none⟩=some (.slice (some ⟨g9,0,none⟩) (vs.length+1) cap9):=cell_eq _ _ _ _ _ s0
  have mv:(w9.setCell ⟨P,1,none⟩ (.slice (some ⟨g9,0,none⟩) (vs.length+1) cap9)).cell? ⟨w.heap.size,1,none⟩=some (.int .i64 v.len):=by rw[cell_ne _ _ _ _ _ _ (.inl (by omega))];exact s2
  have mf:(w9.setCell ⟨P,1,none⟩ (.slice (some ⟨g9,0,none⟩) (vs.length+1) cap9)).frozen? ⟨P,3,none⟩=false:=by simp[f3]
  clear hown9 hg9 hat9 hat' hown HB HV hw1 s0 s1 s2 s3 s4 s5 s6 v0 v1 v2 v3 v4 v5 n3 f3 f0 fz fz3 c1 c3
  generalize w9.setCell ⟨P,1,none⟩ (.slice (some ⟨g9,0,none⟩) (vs.length+1) cap9)=w10 at m3 m1 mv mf R0
  go_wp2_with fail
  go_region_law (fail)
  all_goals
   have m1':(w10.setCell ⟨P,3,none⟩ (.int .i64 (c+v.len))).cell? ⟨P,1,none⟩=some (.slice (some ⟨g9,0,none⟩) (vs.length+1) cap9):=by rw[cell_ne _ _ _ _ _ _ (.inr (by omega))];exact m1
   generalize w10.setCell ⟨P,3,none⟩ (.int .i64 (c+v.len))=w11 at m1' R0
   clear m1 m3 mv mf
   go_wp2
   go_ret
   obtain⟨R',vv',r1,r2⟩:=R0.out
   exact⟨by simp,R',vv',⟨r1.lt,r1.free,r1.c0,r1.c1,r1.c2,r1.c3,r1.own,r1.row,r1.ne,r1.sz⟩,⟨⟨r2.chg.os,r2.chg.tape,r2.chg.output,r2.chg.size,r2.chg.block⟩,r2.row⟩⟩
end Go.Proofs.YtgamjhpebmmjcaaGreatDoor
namespace Go.Proofs.YtgamjhpebmmjcaaGreatDoor
set_option maxRecDepth 100000
set_option maxHeartbeats 40000000
open Go.RowKit Flt
attribute [local go_sem] alloc_drewN setCell_drewN run_store_float
def IZ (w:World)(g:Nat)(a:Option Addr)(n:Nat)(xs:List Int):Prop:=n=0∨(a=some ⟨g,0,none⟩∧IBk w g n xs)
def VZ (w:World)(g:Nat)(a:Option Addr)(n:Nat)(vs:List Vl):Prop:=n=0∨(a=some ⟨g,0,none⟩∧VA w g n vs)
theorem G0.keepT {W W':World}{p l h:Nat}{b0 b1 b2:Value}(t:G0 W p b0 b1 b2)(k:Kept l h W W')(hd:p<l∨h≤p∨h≤l):G0 W' p b0 b1 b2:=by
 have e:∀o,W'.cell? ⟨p,o,none⟩=W.cell? ⟨p,o,none⟩:=fun o=>k.cell (p:=⟨p,o,none⟩) t.sz (by show ¬(l≤p∧p<h);omega)
 exact⟨Nat.lt_of_lt_of_le t.sz k.size,by rw[e];exact t.q0,by rw[e];exact t.q1,by rw[e];exact t.q2⟩
structure OG (w:World)(g1 g2 g3:Nat)(a1:Option Addr)(n1:Nat)(a2:Option Addr)(n2:Nat)(a3:Option Addr)(n3:Nat)(ins:List Int)(vs:List Vl)(outs:List Int):Prop where
 i:IZ w g1 a1 n1 ins
 v:VZ w g2 a2 n2 vs
 o:IZ w g3 a3 n3 outs
 d12:g1≠g2
 d13:g1≠g3
 d23:g2≠g3
theorem Kept.chg1 {S:Nat→Prop}{g:Nat}{w w':World}(k:Kept g (g+1) w w')(h:S g):Chg S w w':=
 ⟨k.os,k.tape,k.output,k.size,fun i hi hn=>k.block i hi fun c=>hn ((show g=i by omega) ▸ h)⟩
theorem Chg.andThen {S:Nat→Prop}{a b c:World}(h:Chg S a b)(k:Chg S b c):Chg S a c:=
 ⟨k.os.trans h.os,k.tape.trans h.tape,k.output.trans h.output,Nat.le_trans h.size k.size,fun i hi hn=>(k.block i (Nat.lt_of_lt_of_le hi h.size) hn).trans (h.block i hi hn)⟩
theorem IZ.keepC {w w':World}{S:Nat→Prop}{g n:Nat}{a:Option Addr}{xs:List Int}(f:IZ w g a n xs)(k:Chg S w w')(hd:¬S g):IZ w' g a n xs:=f.imp id fun⟨e,q⟩=>⟨e,q.len,Nat.lt_of_lt_of_le q.lt k.size,fun j hj=>by rw[k.cell (p:=⟨g,j,none⟩) q.lt hd];exact q.at_ j hj,fun o=>by rw[k.frozen (p:=⟨g,o,none⟩) q.lt hd];exact q.free o⟩
theorem VZ.keepC {w w':World}{S:Nat→Prop}{g n:Nat}{a:Option Addr}{vs:List Vl}(f:VZ w g a n vs)(k:Chg S w w')(hd:¬S g):VZ w' g a n vs:=f.imp id fun⟨e,q⟩=>⟨e,q.len,Nat.lt_of_lt_of_le q.lt k.size,fun j hj=>by
 have e:∀o,w'.cell? ⟨g,o,none⟩=w.cell? ⟨g,o,none⟩:=fun o=>k.cell (p:=⟨g,o,none⟩) q.lt hd
 obtain⟨c0,c1,c2,c3,c4,c5⟩:=q.at_ j hj
 exact⟨by rw[e];exact c0,by rw[e];exact c1,by rw[e];exact c2,by rw[e];exact c3,by rw[e];exact c4,by rw[e];exact c5⟩,fun o=>by rw[k.frozen (p:=⟨g,o,none⟩) q.lt hd];exact q.free o⟩
theorem OG.keepC {w w':World}{S:Nat→Prop}{g1 g2 g3 n1 n2 n3:Nat}{a1 a2 a3:Option Addr}{ins:List Int}{vs:List Vl}{outs:List Int}(f:OG w g1 g2 g3 a1 n1 a2 n2 a3 n3 ins vs outs)(k:Chg S w w')(h1:¬S g1)(h2:¬S g2)(h3:¬S g3):OG w' g1 g2 g3 a1 n1 a2 n2 a3 n3 ins vs outs:=
 ⟨f.i.keepC k h1,f.v.keepC k h2,f.o.keepC k h3,f.d12,f.d13,f.d23⟩
end Go.Proofs.YtgamjhpebmmjcaaGreatDoor
namespace Go.Proofs.YtgamjhpebmmjcaaGreatDoor
set_option maxRecDepth 100000
set_option maxHeartbeats 40000000
open Go.RowKit Flt
attribute [local go_sem] alloc_drewN setCell_drewN run_store_float
theorem own_keepJ {base e size n:Nat}{v:Value}{xs:List Value}{W W':World}(h:W.ownsRow base e size v n xs)(k:Kept 0 0 W W'):W'.ownsRow base e size v n xs:=by
 refine⟨h.1,h.2.imp id ?_⟩
 rintro⟨g,cap,cur,e1,b1,b2,b3⟩
 refine⟨g,cap,cur,e1,b1,?_,b3⟩
 have hg:g<W.heap.size:=by
  rcases Nat.lt_or_ge g W.heap.size with c|c
  ·exact c
  ·rw[Array.getElem?_eq_none c] at b2;cases b2
 rw[k.block g hg (by omega)]
 exact b2
theorem newsI {w:World}{g n:Nat}{xs:List Int}(hx:xs.length=n)(hc:∀k,k<n→w.cell? ⟨g,k,none⟩=some (.int .i64 (xs.getD k 0))):
  ∀j u,(xs.map (Value.int .i64))[j]? =some u→w.cell? ((⟨g,0,none⟩:Addr).add j)=some u:=fun j u hu=>by
 have hj:j<n:=by
  rcases Nat.lt_or_ge j n with c|c
  ·exact c
  ·rw[List.getElem?_eq_none (by simp;omega)] at hu;cases hu
 have h1:=hc j hj
 have e:(⟨g,0,none⟩:Addr).add j=⟨g,j,none⟩:=by
  unfold Addr.add
  split
  ·rename_i h0;rw[h0]
  ·simp
 rw[e,h1]
 rw[List.getElem?_map,List.getElem?_eq_getElem (by omega:j<xs.length)] at hu
 simp only[Option.map_some] at hu
 rw[←hu,List.getD_eq_getElem?_getD,List.getElem?_eq_getElem (by omega:j<xs.length)];rfl
theorem newsV {w:World}{g n:Nat}{vs:List Vl}(hx:vs.length=n)(hc:∀k,k<n→At w g (k*6) (vs.getD k Vl.zero)):
  ∀j u,(flat vs)[j]? =some u→w.cell? ((⟨g,0,none⟩:Addr).add j)=some u:=fun j u hu=>by
 have hj:j<n*6:=by
  rcases Nat.lt_or_ge j (n*6) with c|c
  ·exact c
  ·rw[List.getElem?_eq_none (by rw[flat_len];omega)] at hu;cases hu
 have e:(⟨g,0,none⟩:Addr).add j=⟨g,j,none⟩:=by
  unfold Addr.add
  split
  ·rename_i h0;rw[h0]
  ·simp
 have ej:j=j/6*6+j%6:=by omega
 have hk:j/6<n:=by omega
 rw[ej,flat_at vs (j/6) (j%6) (by omega) (by omega)] at hu
 rw[e,ej]
 obtain⟨c0,c1,c2,c3,c4,c5⟩:=hc (j/6) hk
 have:j%6=0∨j%6=1∨j%6=2∨j%6=3∨j%6=4∨j%6=5:=by omega
 rcases this with h|h|h|h|h|h
 all_goals
  rw[h] at hu ⊢
  simp[Vl.cells] at hu
  subst hu
 ·rw[Nat.add_zero];exact c0
 ·exact c1
 ·exact c2
 ·exact c3
 ·exact c4
 ·exact c5
theorem grown_keptJ {w w':World}{row:Option Nat}{base:Nat}(h:w.grownBy w' row)(hr:∀k,row=some k→base≤k){w0:World}(k:Kept 0 0 w0 w)(hb:w0.heap.size≤base):Kept 0 0 w0 w':=
 ⟨h.os.trans k.os,h.tape.trans k.tape,h.output.trans k.output,Nat.le_trans k.size h.size,fun i hi _=>by
  rw[h.block i (Nat.lt_of_lt_of_le hi k.size) (fun c=>by have:=hr i c.symm;omega)]
  exact k.block i hi (by omega)⟩
theorem oneF:∀(vs:List Vl),∀u∈flat vs,u.oneCell'=true
 |[],_,h=>by cases h
 |v::r,u,h=>by
  rcases List.mem_append.1 h with c|c
  ·exact one6 v u c
  ·exact oneF r u c
theorem own_some {base e size n:Nat}{v:Value}{xs:List Value}{W:World}(h:W.ownsRow base e size v n xs)(hv:v≠.slice none 0 0):∃g cap,v=.slice (some ⟨g,0,none⟩) n cap∧base≤g∧g<W.heap.size:=by
 rcases h.2 with⟨e,_⟩|⟨g,cap,cur,e,b1,b2,_⟩
 ·exact absurd e hv
 ·refine⟨g,cap,e,b1,?_⟩
  rcases Nat.lt_or_ge g W.heap.size with c|c
  ·exact c
  ·rw[Array.getElem?_eq_none c] at b2;cases b2
theorem cloneV (w:World)(g n c:Nat)(vs:List Vl)(hn2:n≤1000000)(h:VA w g n vs):
  Calls Tryz.prog 69 #[.slice (some ⟨g,0,none⟩) n c] w fun e w'=>∃G cap,e=.returned (.slice (some ⟨G,0,none⟩) n cap)∧w.heap.size≤G∧G<w'.heap.size∧w'.ownsRow w.heap.size 87 6 (.slice (some ⟨G,0,none⟩) n cap) n (flat vs)∧Kept 0 0 w w':=by
 obtain⟨i0,hi,hz0,hz1,hz2⟩:=info_parts infoV
 have heq:(binOp .eql 57 (.slice (some ⟨g,0,none⟩) n c) (.slice none 0 0)).run Tryz.prog w=.ok (.bool false) w:=by
  simp only[binOp]
  simp[run_equal_slice_nil w 57 87 (some ⟨g,0,none⟩) n c Tryz.underlying57]
 have ka:=kept_alloc 0 0 w (.cells #[] 87)
 have HN:Hid _:=newsV (w:=w.alloc (.cells #[] 87)) (g:=g) h.len (fun k hk=>(h.at_ k hk).keep h.lt ka (.inr (.inr (Nat.le_refl _))))
 have HO:Hid _:=World.ownsRow_made (base:=w.heap.size) (e:=87) (size:=6) w #[] 0 (Nat.le_refl _) (by unfold maxLen;omega) rfl
 have HKA:Hid _:=ka
 have HX:Hid (vs.length=n):=h.len
 clear ka h
 go_enter Tryz.func69,Tryz.ntmps69
 go_wp2_with (first|(at_builtin;refine wpList_append_own _ rfl _ _ 57 rfl w.heap.size 87 i0 (vagg 0 0 0 0 0 0) 6 48 Tryz.underlying57 hi hz0 hz1 hz2 rfl (by decide) _ _ _ rfl HO.out ⟨g,0,none⟩ n c (flat vs) rfl ?c0 HN.out ?c2 ?c3 ?c4 ?c5 ?_))
 case c0=>rw[flat_len,HX.out]
 case c2=>exact oneF vs
 case c3=>unfold maxLen;omega
 case c4=>omega
 intro v' w9 hown9 hg9 hnil
 obtain⟨G,cap,rfl,b1,b2⟩:=own_some hown9 hnil
 have R:Hid _:=grown_keptJ (base:=w.heap.size) hg9 (fun k hk=>by have:w.heap.size=k:=by simpa[Value.ownBlock] using hk
                                                                 omega) HKA.out (Nat.le_refl _)
 have R2:Hid _:=hown9
 clear hown9 hg9 hnil
 go_wp2
 go_ret
 exact⟨G,cap,rfl,b1,b2,R2.out,R.out⟩
theorem getD_memJ {xs:List Int}{q:Nat}(h:q<xs.length):xs.getD q 0∈xs:=by
 rw[List.getD_eq_getElem?_getD,List.getElem?_eq_getElem h]
 exact List.getElem_mem _
theorem own_mono {base base' e size n:Nat}{v:Value}{xs:List Value}{W:World}(h:W.ownsRow base e size v n xs)(hb:base'≤base):W.ownsRow base' e size v n xs:=
 ⟨h.1,h.2.imp id fun⟨g,cap,cur,e1,b1,b2⟩=>⟨g,cap,cur,e1,Nat.le_trans hb b1,b2⟩⟩
theorem Kept.drew {lo hi:Nat}{w w':World}(h:Kept lo hi w w'):Kept lo hi w w'.drew:=⟨h.os,h.tape,h.output,h.size,h.block⟩
theorem own_keepR {base e size n l h:Nat}{v:Value}{xs:List Value}{W W':World}(o:W.ownsRow base e size v n xs)(k:Kept l h W W')(hd:∀g,v.ownBlock=some g→g<l∨h≤g):W'.ownsRow base e size v n xs:=by
 refine⟨o.1,o.2.imp id ?_⟩
 rintro⟨g,cap,cur,e1,b1,b2,b3⟩
 refine⟨g,cap,cur,e1,b1,?_,b3⟩
 have hg:g<W.heap.size:=by
  rcases Nat.lt_or_ge g W.heap.size with c|c
  ·exact c
  ·rw[Array.getElem?_eq_none c] at b2;cases b2
 have:=hd g (by rw[e1];rfl)
 rw[k.block g hg (by omega)]
 exact b2
abbrev OI (w:World)(base G n cap:Nat)(xs:List Int):Prop:=w.ownsRow base 3 1 (.slice (some ⟨G,0,none⟩) n cap) n (xs.map (Value.int .i64))
abbrev nbox:Obj:=.cells #[.slice none 0 0,.slice none 0 0,.slice none 0 0] 59
structure RB (W:World)(p:Nat)(b0 b1 b2:Value):Prop where
 sz:p<W.heap.size
 q0:W.cell? ⟨p,0,none⟩=some b0
 q1:W.cell? ⟨p,1,none⟩=some b1
 q2:W.cell? ⟨p,2,none⟩=some b2
 f0:W.frozen? ⟨p,0,none⟩=false
 f1:W.frozen? ⟨p,1,none⟩=false
 f2:W.frozen? ⟨p,2,none⟩=false
theorem RB.keep {W W':World}{p:Nat}{b0 b1 b2:Value}(t:RB W p b0 b1 b2)(k:Kept 0 0 W W'):RB W' p b0 b1 b2:=
 ⟨Nat.lt_of_lt_of_le t.sz k.size,kcell k t.sz t.q0,kcell k t.sz t.q1,kcell k t.sz t.q2,by rw[k.frozen (p:=⟨p,0,none⟩) t.sz (by omega)];exact t.f0,by rw[k.frozen (p:=⟨p,1,none⟩) t.sz (by omega)];exact t.f1,by rw[k.frozen (p:=⟨p,2,none⟩) t.sz (by omega)];exact t.f2⟩
theorem rb_start (w:World):RB (w.alloc nbox) w.heap.size (.slice none 0 0) (.slice none 0 0) (.slice none 0 0):=by
 refine⟨?_,?_,?_,?_,?_,?_,?_⟩
 all_goals first|(go_simp;done)|(simp;done)
theorem put3_0 (w:World)(g:Nat)(a b c:Value)(h0:w.cell? ⟨g,0,none⟩=some a)(h1:w.cell? ⟨g,1,none⟩=some b)(h2:w.cell? ⟨g,2,none⟩=some c)(x y z:Value):
  (((w.setCell ⟨g,0,none⟩ x).setCell ⟨g,1,none⟩ y).setCell ⟨g,2,none⟩ z).cell? ⟨g,0,none⟩=some x∧(((w.setCell ⟨g,0,none⟩ x).setCell ⟨g,1,none⟩ y).setCell ⟨g,2,none⟩ z).cell? ⟨g,1,none⟩=some y∧(((w.setCell ⟨g,0,none⟩ x).setCell ⟨g,1,none⟩ y).setCell ⟨g,2,none⟩ z).cell? ⟨g,2,none⟩=some z:=by
 refine⟨?_,?_,?_⟩
 ·rw[cell_ne _ _ _ _ _ _ (.inr (by omega)),cell_ne _ _ _ _ _ _ (.inr (by omega))];exact cell_eq _ _ _ _ _ h0
 ·rw[cell_ne _ _ _ _ _ _ (.inr (by omega))]
  exact cell_eq _ _ _ _ _ (by rw[cell_ne _ _ _ _ _ _ (.inr (by omega))];exact h1)
 ·exact cell_eq _ _ _ _ _ (by rw[cell_ne _ _ _ _ _ _ (.inr (by omega)),cell_ne _ _ _ _ _ _ (.inr (by omega))];exact h2)
theorem kept_drew (w:World):Kept 0 0 w w.drew:=⟨rfl,rfl,rfl,Nat.le_refl _,fun _ _ _=>rfl⟩
theorem own_form {base e size n:Nat}{v:Value}{xs:List Value}{W:World}(h:W.ownsRow base e size v n xs):∃a cap,v=.slice a n cap:=by
 rcases h.2 with⟨e,rfl⟩|⟨g,cap,cur,e,_⟩
 ·exact⟨none,0,e⟩
 ·exact⟨_,cap,e⟩
def Apart (u v:Value):Prop:=∀k,u.ownBlock=some k→v.ownBlock≠some k
theorem cell3c (w:World)(P B o:Nat)(x y z:Value)(h:B≠P):(((w.setCell ⟨P,0,none⟩ x).setCell ⟨P,1,none⟩ y).setCell ⟨P,2,none⟩ z).cell? ⟨B,o,none⟩=w.cell? ⟨B,o,none⟩:=by
 rw[cell_ne _ _ _ _ _ _ (.inl (Ne.symm h)),cell_ne _ _ _ _ _ _ (.inl (Ne.symm h)),cell_ne _ _ _ _ _ _ (.inl (Ne.symm h))]
theorem own_io {W:World}{base n d:Nat}{b:Option Addr}{xs:List Int}(h:W.ownsRow base 3 1 (.slice b n d) n (xs.map (Value.int .i64)))(hl:xs.length=n):n=0∨∃g,b=some ⟨g,0,none⟩∧base≤g∧IBk W g n xs:=by
 rcases h.2 with⟨_,c⟩|⟨g,cap,cur,e,b1,b2,b3,_,b5,b6⟩
 ·exact .inl c
 ·injection e with q1 q2 q3
  subst q1
  have hg:g<W.heap.size:=by
   rcases Nat.lt_or_ge g W.heap.size with c|c
   ·exact c
   ·rw[Array.getElem?_eq_none c] at b2;cases b2
  refine .inr ⟨g,rfl,b1,hl,hg,fun k hk=>?_,fun o=>frozen_of_row W g o _ _ b2⟩
  rw[cell_of_row W g _ cur _ _ b2,←Array.getElem?_toList]
  have:(cur.toList.take (n*1))[k]? =(xs.map (Value.int .i64))[k]?:=by rw[b6]
  rw[List.getElem?_take_of_lt (by omega)] at this
  rw[this,List.getElem?_map,List.getD_eq_getElem?_getD,List.getElem?_eq_getElem (by omega)]
  rfl
theorem G0.keepC {W W':World}{S:Nat→Prop}{p:Nat}{b0 b1 b2:Value}(t:G0 W p b0 b1 b2)(k:Chg S W W')(hd:¬S p):G0 W' p b0 b1 b2:=by
 have e:∀o,W'.cell? ⟨p,o,none⟩=W.cell? ⟨p,o,none⟩:=fun o=>k.cell (p:=⟨p,o,none⟩) t.sz hd
 exact⟨Nat.lt_of_lt_of_le t.sz k.size,by rw[e];exact t.q0,by rw[e];exact t.q1,by rw[e];exact t.q2⟩
end Go.Proofs.YtgamjhpebmmjcaaGreatDoor
namespace Go.Proofs.YtgamjhpebmmjcaaGreatDoor
set_option maxRecDepth 100000
set_option maxHeartbeats 40000000
open Go.RowKit Flt
attribute [local go_sem] alloc_drewN setCell_drewN run_store_float
theorem cellsV_app (a b:List Vl):cellsV (a++b)=cellsV a+cellsV b:=by
 induction a with
 |nil=>simp[cellsV]
 |cons y ys ih=>simp[cellsV,ih];omega
def Bd (w:World)(P:Nat)(u1 u3:Value)(vs:List Vl)(c:Int)(base:Nat)(R:Option Nat)(M:List Vl×Int)(e:Ending)(w':World):Prop:=
 e=.returned (.int .i64 M.2)∧∃R' vv',BS w' P u1 u3 (vs++M.1) (c+cellsV M.1) base R' vv'∧Stp P R w R' w'
structure Bnd (vs:List Vl)(c:Int)(n:Int):Prop where
 l:vs.length≤900000
 c0:-900000000≤c
 c1:c≤900000000
 n0:-1000≤n
 n1:n≤1000
abbrev vput (op n p q r:Int):Vl:=⟨op,n,p,q,r,0⟩
theorem putVal_bd (w:World)(P:Nat)(u1 u3:Value)(vs:List Vl)(c:Int)(base:Nat)(R:Option Nat)(vv:Value)(v:Vl)(h:BS w P u1 u3 vs c base R vv)(hn:vs.length≤1000000)(hc0:-1000000000≤c)(hc1:c≤1000000000)(hl0:-1000000000≤v.len)(hl1:v.len≤1000000000):
  Calls Tryz.prog 231 #[.pointer (some ⟨P,0,none⟩),v.agg] w fun e w'=>Bd w P u1 u3 vs c base R ([v],(vs.length:Nat)) e w':=
 (putVal w P u1 u3 vs c base R vv v h hn hc0 hc1 hl0 hl1).mono fun e w' ⟨h1,R',vv',h2,h3⟩=>⟨h1,R',vv',by simpa[cellsV] using h2,h3⟩
theorem put_bd (w:World)(P:Nat)(u1 u3:Value)(vs:List Vl)(c:Int)(base:Nat)(R:Option Nat)(vv:Value)(op n p q r:Int)(h:BS w P u1 u3 vs c base R vv)(hn:vs.length≤1000000)(hc0:-1000000000≤c)(hc1:c≤1000000000)(hl0:-1000000000≤n)(hl1:n≤1000000000):
  Calls Tryz.prog 248 #[.pointer (some ⟨P,0,none⟩),.int .i64 op,.int .i64 n,.int .i64 p,.int .i64 q,.int .i64 r] w fun e w'=>Bd w P u1 u3 vs c base R ([vput op n p q r],(vs.length:Nat)) e w':=by
 have HX:Hid _:=putVal_bd w P u1 u3 vs c base R vv (vput op n p q r) h hn hc0 hc1 hl0 hl1
 clear h hn hc0 hc1 hl0 hl1
 go_enter Tryz.func248,Tryz.ntmps248
 go_wp2_with fail
 refine Calls.mono HX.out ?_
 rintro e w' ⟨rfl,hR⟩
 have R:Hid _:=hR
 clear hR
 go_wp2
 go_ret
 exact⟨rfl,R.out⟩
end Go.Proofs.YtgamjhpebmmjcaaGreatDoor
namespace Go.Proofs.YtgamjhpebmmjcaaGreatDoor
set_option maxRecDepth 100000
set_option maxHeartbeats 40000000
open Go.RowKit Flt
attribute [local go_sem] alloc_drewN setCell_drewN run_store_float
theorem Bd.none {w:World}{P:Nat}{u1 u3:Value}{vs:List Vl}{c:Int}{base:Nat}{R:Option Nat}{vv:Value}(h:BS w P u1 u3 vs c base R vv)(r:Int):Bd w P u1 u3 vs c base R ([],r) (.returned (.int .i64 r)) w:=
 ⟨rfl,R,vv,by simpa[cellsV] using h,StQ.refl _ _ _⟩
theorem Bd.after {w w' w'':World}{P:Nat}{u1 u3:Value}{vs a:List Vl}{c:Int}{base:Nat}{R R':Option Nat}{M:List Vl×Int}{e:Ending}(hs:Stp P R w R' w')(h:Bd w' P u1 u3 (vs++a) (c+cellsV a) base R' M e w''):Bd w P u1 u3 vs c base R (a++M.1,M.2) e w'':=by
 obtain⟨h1,R'',vv'',h2,h3⟩:=h
 refine⟨h1,R'',vv'',?_,hs.trans h3⟩
 have e2:c+cellsV (a++M.1)=c+cellsV a+cellsV M.1:=by rw[cellsV_app];omega
 show BS w'' P u1 u3 (vs++(a++M.1)) (c+cellsV (a++M.1)) base R'' vv''
 rw[e2,←List.append_assoc]
 exact h2
theorem Bd.kept {w w' w'':World}{P:Nat}{u1 u3:Value}{vs:List Vl}{c:Int}{base:Nat}{R:Option Nat}{M:List Vl×Int}{e:Ending}(k:Kept 0 0 w w')(h:Bd w' P u1 u3 vs c base R M e w''):Bd w P u1 u3 vs c base R M e w'':=by
 obtain⟨h1,R'',vv'',h2,h3⟩:=h
 exact⟨h1,R'',vv'',h2,StQ.trans ⟨k.chg,.inl rfl⟩ h3⟩
def sumM (n p q:Int)(N:Nat):List Vl×Int:=if p=-1 then ([],q) else if q=-1 then ([],p) else ([vput 2 n p q 0],N)
def difM (n p q:Int)(N:Nat):List Vl×Int:=if q=-1 then ([],p) else if p=-1 then ([vput 6 n q 0 0],N) else ([vput 3 n p q 0],N)
def chM (n d p q:Int)(N:Nat):List Vl×Int:=
 if p=-1 then (if q=-1 then ([vput 1 n 0 0 0,vput 1 n 0 0 0,vput 8 n d N ((N+1:Nat):Int)],((N+2:Nat):Int)) else ([vput 1 n 0 0 0,vput 8 n d N q],((N+1:Nat):Int)))
 else (if q=-1 then ([vput 1 n 0 0 0,vput 8 n d p N],((N+1:Nat):Int)) else ([vput 8 n d p q],(N:Int)))
theorem putDif (w:World)(P:Nat)(u1 u3:Value)(vs:List Vl)(c:Int)(base:Nat)(R:Option Nat)(vv:Value)(n p q:Int)(h:BS w P u1 u3 vs c base R vv)(b:Bnd vs c n):
  Calls Tryz.prog 245 #[.pointer (some ⟨P,0,none⟩),.int .i64 n,.int .i64 p,.int .i64 q] w fun e w'=>Bd w P u1 u3 vs c base R (difM n p q vs.length) e w':=by
 have HX:Hid (∀op x y z,_):=fun op x y z=>put_bd w P u1 u3 vs c base R vv op n x y z h (by have:=b.l;omega) (by have:=b.c0;omega) (by have:=b.c1;omega) (by have:=b.n0;omega) (by have:=b.n1;omega)
 have HB:Hid _:=h
 clear h b
 unfold difM
 by_cases hq:q=-1
 ·subst hq
  rw[if_pos rfl]
  have R0:Hid (∃R' vv',BS w P u1 u3 (vs++[]) (c+cellsV []) base R' vv'∧Stp P R w R' w):=(Bd.none HB.out p).2
  clear HX HB
  go_enter Tryz.func245,Tryz.ntmps245
  go_wp2
  go_ret
  exact⟨rfl,R0.out⟩
 ·rw[if_neg hq]
  have tq:(q==-1)=false:=beq_eq_false_iff_ne.2 hq
  by_cases hp:p=-1
  ·subst hp
   rw[if_pos rfl]
   clear hq
   go_enter Tryz.func245,Tryz.ntmps245
   go_wp2_with fail
   refine Calls.mono (HX.out 6 q 0 0) ?_
   rintro e w' ⟨rfl,hR⟩
   have R:Hid _:=hR
   clear hR
   go_wp2
   go_ret
   exact⟨rfl,R.out⟩
  ·rw[if_neg hp]
   have tp:(p==-1)=false:=beq_eq_false_iff_ne.2 hp
   clear hp hq
   go_enter Tryz.func245,Tryz.ntmps245
   go_wp2_with fail
   refine Calls.mono (HX.out 3 p q 0) ?_
   rintro e w' ⟨rfl,hR⟩
   have R:Hid _:=hR
   clear hR
   go_wp2
   go_ret
   exact⟨rfl,R.out⟩
theorem put_next {w w1:World}{P:Nat}{u1 u3:Value}{vs a:List Vl}{c:Int}{base:Nat}{R R1:Option Nat}{vv:Value}(h:BS w1 P u1 u3 (vs++a) (c+cellsV a) base R1 vv)(s:Stp P R w R1 w1)(hl:vs.length+a.length≤1000000)(h0:-1000000000≤c+cellsV a)(h1:c+cellsV a≤1000000000)(op n p q r:Int)(hn0:-1000≤n)(hn1:n≤1000):
  Calls Tryz.prog 248 #[.pointer (some ⟨P,0,none⟩),.int .i64 op,.int .i64 n,.int .i64 p,.int .i64 q,.int .i64 r] w1 fun e w'=>Bd w P u1 u3 vs c base R (a++[vput op n p q r],((vs.length+a.length:Nat):Int)) e w':=
 (put_bd w1 P u1 u3 (vs++a) (c+cellsV a) base R1 vv op n p q r h (by rw[List.length_append];exact hl) h0 h1 (by omega) (by omega)).mono fun e w' hb=>by
  rw[List.length_append] at hb
  exact Bd.after s hb
end Go.Proofs.YtgamjhpebmmjcaaGreatDoor
namespace Go.Proofs.YtgamjhpebmmjcaaGreatDoor
set_option maxRecDepth 100000
set_option maxHeartbeats 40000000
open Go.RowKit Flt
attribute [local go_sem] alloc_drewN setCell_drewN run_store_float
def mulM (v:Vl)(ta tb:Int)(N:Nat):List Vl×Int:=
 if ta=-1 then (if tb=-1 then ([],-1) else ([vput 4 v.len v.a tb 0],(N:Int)))
 else (if tb=-1 then ([vput 4 v.len ta v.b 0],(N:Int)) else ([vput 4 v.len ta v.b 0,vput 4 v.len v.a tb 0,vput 2 v.len N ((N+1:Nat):Int) 0],((N+2:Nat):Int)))
def divM (i:Int)(v:Vl)(ta tb:Int)(N:Nat):List Vl×Int:=
 if ta=-1 then (if tb=-1 then ([],-1) else ([vput 4 v.len i tb 0,vput 5 v.len N v.b 0,vput 6 v.len ((N+1:Nat):Int) 0 0],((N+2:Nat):Int)))
 else (if tb=-1 then ([vput 5 v.len ta v.b 0],(N:Int)) else ([vput 5 v.len ta v.b 0,vput 4 v.len i tb 0,vput 5 v.len ((N+1:Nat):Int) v.b 0,vput 3 v.len N ((N+2:Nat):Int) 0],((N+3:Nat):Int)))
theorem dif_next {w w1:World}{P:Nat}{u1 u3:Value}{vs a:List Vl}{c:Int}{base:Nat}{R R1:Option Nat}{vv:Value}(h:BS w1 P u1 u3 (vs++a) (c+cellsV a) base R1 vv)(s:Stp P R w R1 w1){n:Int}(b:Bnd (vs++a) (c+cellsV a) n)(p q:Int):
  Calls Tryz.prog 245 #[.pointer (some ⟨P,0,none⟩),.int .i64 n,.int .i64 p,.int .i64 q] w1 fun e w'=>Bd w P u1 u3 vs c base R (a++(difM n p q (vs.length+a.length)).1,(difM n p q (vs.length+a.length)).2) e w':=
 (putDif w1 P u1 u3 (vs++a) (c+cellsV a) base R1 vv n p q h b).mono fun e w' hb=>by
  rw[List.length_append] at hb
  exact Bd.after s hb
theorem BS.keep {w w':World}{P:Nat}{u1 u3:Value}{vs:List Vl}{c:Int}{base:Nat}{R:Option Nat}{vv:Value}(h:BS w P u1 u3 vs c base R vv)(k:Kept 0 0 w w'):BS w' P u1 u3 vs c base R vv:=
 ⟨Nat.lt_of_lt_of_le h.lt k.size,fun o=>by rw[k.frozen (p:=⟨P,o,none⟩) h.lt (by omega)];exact h.free o,kcell k h.lt h.c0,kcell k h.lt h.c1,kcell k h.lt h.c2,kcell k h.lt h.c3,own_keepJ h.own k,h.row,h.ne,Nat.le_trans h.sz k.size⟩
theorem BS.far {w:World}{P:Nat}{u1 u3:Value}{vs:List Vl}{c:Int}{base:Nat}{R:Option Nat}{vv:Value}(h:BS w P u1 u3 vs c base R vv):w.heap.size≠P∧R≠some w.heap.size:=
 ⟨by have:=h.lt;omega,fun e=>by have:=(own_blkV h.own (h.row.trans e)).2;omega⟩
theorem At.step {w w':World}{P:Nat}{R R':Option Nat}{B o:Nat}{v:Vl}(a:At w B o v)(s:Stp P R w R' w')(hB:B<w.heap.size)(hf:B≠P∧R≠some B):At w' B o v:=by
 have e:∀k,w'.cell? ⟨B,k,none⟩=w.cell? ⟨B,k,none⟩:=fun k=>s.chg.cell (p:=⟨B,k,none⟩) hB (by rintro (c|c);exact hf.1 c;exact hf.2 c)
 exact⟨by rw[e];exact a.c0,by rw[e];exact a.c1,by rw[e];exact a.c2,by rw[e];exact a.c3,by rw[e];exact a.c4,by rw[e];exact a.c5⟩
structure Bnd0 (vs:List Vl)(c:Int)(n:Int):Prop where
 l:vs.length≤800000
 c0:-800000000≤c
 c1:c≤800000000
 n0:-1000≤n
 n1:n≤1000
theorem Bd.cast {w w':World}{P:Nat}{u1 u3:Value}{vs:List Vl}{c:Int}{base:Nat}{R:Option Nat}{M M':List Vl×Int}{e:Ending}(e1:M=M')(h:Bd w P u1 u3 vs c base R M e w'):Bd w P u1 u3 vs c base R M' e w':=e1 ▸ h
theorem difM_pq {n p q:Int}{N:Nat}(hp:p≠-1)(hq:q≠-1):difM n p q N=([vput 3 n p q 0],(N:Int)):=by unfold difM;rw[if_neg hq,if_neg hp]
theorem difM_p {n p:Int}{N:Nat}:difM n p (-1) N=([],p):=by unfold difM;rw[if_pos rfl]
theorem difM_q {n q:Int}{N:Nat}(hq:q≠-1):difM n (-1) q N=([vput 6 n q 0 0],(N:Int)):=by unfold difM;rw[if_neg hq,if_pos rfl]
end Go.Proofs.YtgamjhpebmmjcaaGreatDoor
