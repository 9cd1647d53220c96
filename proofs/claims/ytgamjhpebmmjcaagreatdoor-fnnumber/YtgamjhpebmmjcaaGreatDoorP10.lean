import Derived.Test.YtgamjhpebmmjcaaGreatDoorP03
import Derived.Test.YtgamjhpebmmjcaaGreatDoorP05
import Derived.Test.YtgamjhpebmmjcaaGreatDoorP08
import Derived.Test.YtgamjhpebmmjcaaGreatDoorP09
import Derived.Test.YtgamjhpebmmjcaaGreatDoorP02
import Derived.Deep.AppendLies
import Derived.Deep.QuietTactic
import Derived.BigQuiet
import Derived.Deep.RegionWith
import Derived.Deep.RegionHeld3
namespace Go.Proofs.YtgamjhpebmmjcaaGreatDoor
set_option maxRecDepth 100000
set_option maxHeartbeats 40000000
open Go.RowKit Flt
def vlOf (s:Ste):Vl:=⟨s.op,s.len,s.a,s.b,s.c,s.k⟩
def spansOf (s:Ste):List Spn:=[⟨s.a,s.n⟩,⟨s.b,s.len⟩,⟨s.c,s.len⟩].take (cnt s.op)
def formB (ins:List Int)(s:Ste):Bool:=
 ((lenB s.len&&spareB (vlOf s))&&!(decide (cnt s.op=0)&&s.n !=0))&&
   (if s.op=0 then idxB s.a ins.length&&ins.getD s.a.toNat 0==s.len else shapeB s.op s.len s.c ([s.n,s.len,s.len].take (cnt s.op)))
def wroteB (ss:List Ste)(n:Nat)(c:Int):Bool:=(ss.take n).any fun s=>decide (s.dst≤c∧c<s.dst+s.len)
def withB (off len peak:Int):Bool:=decide (0≤off∧off≤peak-len)
def holdB (ss:List Ste)(n:Nat)(peak off len:Int):Bool:=withB off len peak&&(List.range len.toNat).all fun j=>wroteB ss n (off+(j:Nat))
def meetB (s:Ste)(p:Spn):Bool:=decide (s.dst<p.off+p.len∧p.off<s.dst+s.len)
def takeB (ss:List Ste)(i:Nat)(peak:Int)(s:Ste)(p:Spn):Bool:=holdB ss i peak p.off p.len&&!meetB s p
def stepB (ins:List Int)(ss:List Ste)(peak:Int)(i:Nat):Bool:=
 formB ins (ss.getD i Ste.zero)&&(withB (ss.getD i Ste.zero).dst (ss.getD i Ste.zero).len peak&&(spansOf (ss.getD i Ste.zero)).all (takeB ss i peak (ss.getD i Ste.zero)))
def limC (ins:List Int)(n2 n3:Nat)(peak:Int):Bool:=(((decide (ins.length≤20)&&decide (n2≤2000))&&decide (n3≤50))&&ins.all lenB)&&decide (0≤peak∧peak≤50000)
def outB (ss:List Ste)(peak:Int)(p:Spn):Bool:=lenB p.len&&holdB ss ss.length peak p.off p.len
def verM (ins:List Int)(ss:List Ste)(os:List Spn)(peak:Int):Bool:=
 (limC ins ss.length os.length peak&&(List.range ss.length).all (stepB ins ss peak))&&os.all (outB ss peak)
theorem spans_len (s:Ste):(spansOf s).length=cnt s.op:=by
 have:=cnt_le s.op
 simp[spansOf];omega
theorem form_len {ins:List Int}{s:Ste}(h:formB ins s=true):1≤s.len∧s.len≤1000:=by
 unfold formB at h
 simp only[Bool.and_eq_true] at h
 have:=h.1.1.1
 simpa[lenB] using this
theorem form_op {ins:List Int}{s:Ste}(h:formB ins s=true):0≤s.op∧s.op≤13:=by
 by_cases c:0≤s.op∧s.op≤13
 ·exact c
 ·unfold formB at h
  rw[if_neg (by omega),shape_out c] at h
  simp at h
theorem form_shape {ins:List Int}{s:Ste}(h:formB ins s=true)(h0:s.op≠0):shapeB s.op s.len s.c ([s.n,s.len,s.len].take (cnt s.op))=true:=by
 unfold formB at h
 rw[if_neg h0] at h
 simp only[Bool.and_eq_true] at h
 exact h.2
theorem form_n {ins:List Int}{s:Ste}(h:formB ins s=true)(hc:0<cnt s.op):1≤s.n∧s.n≤1000:=by
 have h0:s.op≠0:=fun e=>by rw[e] at hc;exact absurd hc (by decide)
 have hl:=form_len h
 have hs:=form_shape h h0
 have ho:=form_op h
 generalize s.op=op at hc h0 hs ho
 rcases (by omega:op=1∨op=2∨op=3∨op=4∨op=5∨op=6∨op=7∨op=8∨op=9∨op=10∨op=11∨op=12∨op=13) with rfl|rfl|rfl|rfl|rfl|rfl|rfl|rfl|rfl|rfl|rfl|rfl|rfl
 ·exact absurd hc (by decide)
 all_goals (simp[shapeB,cnt,lenB] at hs;omega)
theorem spans_lens {ins:List Int}{s:Ste}(h:formB ins s=true){p:Spn}(hp:p∈spansOf s):1≤p.len∧p.len≤1000:=by
 have hl:=form_len h
 by_cases hc:0<cnt s.op
 ·have hn:=form_n h hc
  have:=List.mem_of_mem_take hp
  simp at this
  rcases this with rfl|rfl|rfl
  ·exact hn
  ·exact hl
  ·exact hl
 ·have e:cnt s.op=0:=by omega
  unfold spansOf at hp
  rw[e] at hp
  cases hp
theorem wrote_zero (ss:List Ste)(c:Int):wroteB ss 0 c=false:=by simp[wroteB]
theorem wrote_succ {ss:List Ste}{n:Nat}(h:n<ss.length)(c:Int):wroteB ss (n+1) c=(wroteB ss n c||decide ((ss.getD n Ste.zero).dst≤c∧c<(ss.getD n Ste.zero).dst+(ss.getD n Ste.zero).len)):=by
 unfold wroteB
 rw[List.take_succ_eq_append_getElem h,List.any_append]
 have:ss.getD n Ste.zero=ss[n]:=by rw[List.getD_eq_getElem?_getD,List.getElem?_eq_getElem h];rfl
 rw[this]
 simp
end Go.Proofs.YtgamjhpebmmjcaaGreatDoor
namespace Go.Proofs.YtgamjhpebmmjcaaGreatDoor
set_option maxRecDepth 100000
set_option maxHeartbeats 40000000
open Go.RowKit Flt
attribute [local go_sem] alloc_drewN setCell_drewN run_store_float
def YB (W:World)(B:Nat)(v:Value)(bs:List Int):Prop:=W.ownsRow B 5 1 v bs.length (bs.map (Value.int .u8))
theorem YB.keepC {W W':World}{S:Nat→Prop}{B:Nat}{v:Value}{bs:List Int}(f:YB W B v bs)(k:Chg S W W')(hd:∀g,v.ownBlock=some g→¬S g):YB W' B v bs:=own_keepC f k hd
theorem YB.keep {W W':World}{B:Nat}{v:Value}{bs:List Int}(f:YB W B v bs)(k:Kept 0 0 W W'):YB W' B v bs:=own_keepJ f k
theorem YB.blk {W:World}{B:Nat}{v:Value}{bs:List Int}(f:YB W B v bs){g:Nat}(h:v.ownBlock=some g):B≤g∧g<W.heap.size:=own_blkV f h
theorem YB.nil (W:World)(B:Nat):YB W B (.slice none 0 0) []:=World.ownsRow_nil _ _ _ _
theorem newsY {w:World}{ad:Addr}{ys:List Int}(h:∀j,j<ys.length→w.cell? (ad.add j)=some (.int .u8 (ys.getD j 0))):∀j u,(ys.map (Value.int .u8))[j]? =some u→w.cell? (ad.add j)=some u:=by
 intro j u hu
 by_cases hj:j<ys.length
 ·rw[h j hj]
  rw[List.getElem?_map,List.getElem?_eq_getElem hj] at hu
  simp only[Option.map_some] at hu
  rw[←hu,List.getD_eq_getElem?_getD,List.getElem?_eq_getElem hj];rfl
 ·rw[List.getElem?_eq_none (by simp;omega)] at hu;cases hu
theorem wpList_appendY (w:World){ops:Array Oper}{rest:List Oper}{o:Oper}{a:Act}{Q:Exit→Act→World→Prop}(hgd:o.guard=none)(s x:Operand)
  (ho:o.op=.call {callee:=.builtin .append,args:=#[s,x],argTypes:=#[22,22]})
  (B:Nat) (v:Value) (bs:List Int) (hs:a.eval s=v) (hown:YB w B v bs)
  (ad:Addr) (m c:Nat) (ys:List Int) (hx:a.eval x=.slice (some ad) m c) (hl:ys.length=m) (hnews:∀j,j<ys.length→w.cell? (ad.add j)=some (.int .u8 (ys.getD j 0)))
  (hm:0<m) (h63:bs.length+m≤100000000) (hbase:B≤w.heap.size)
  (h:∀g cap n w',n=(bs++ys).length→YB w' B (.slice (some ⟨g,0,none⟩) n cap) (bs++ys)→Chg (fun b=>v.ownBlock=some b) w w'→(v.ownBlock=some g∨g=w.heap.size)→wpList Tryz.prog ops Q rest (a.put o.dst (.slice (some ⟨g,0,none⟩) n cap)) w'):wpList Tryz.prog ops Q (o::rest) a w:=by
 obtain⟨i0,hi,hz0,hz1,hz2⟩:=info_parts infoY
 refine wpList_append_lies w hgd s x 22 ho B 5 i0 (.int .u8 0) 1 1 Tryz.underlying22 hi hz0 hz1 hz2 rfl (by decide) v bs.length _ hs hown ad m c (ys.map (Value.int .u8)) hx (by rw[List.length_map,hl,Nat.mul_one]) (newsY hnews) ?_ hm (by unfold maxLen;omega) (by omega) hbase _ rfl ?_
 ·intro u hu;obtain⟨x,_,rfl⟩:=List.mem_map.1 hu;rfl
 ·intro g cap w' h1 h2 h3 _
  have e:bs.length+m=(bs++ys).length:=by rw[List.length_append,hl]
  rw[e] at h1 ⊢
  refine h g cap _ w' rfl ?_ (chg_grow h2) h3
  unfold YB
  rw[List.map_append]
  exact h1
end Go.Proofs.YtgamjhpebmmjcaaGreatDoor
namespace Go.Proofs.YtgamjhpebmmjcaaGreatDoor
set_option maxRecDepth 100000
set_option maxHeartbeats 40000000
open Go.RowKit Flt
attribute [local go_sem] alloc_drewN setCell_drewN run_store_float
theorem YB.at_ {W:World}{B:Nat}{v:Value}{bs:List Int}(f:YB W B v bs)(h:0<bs.length):∃g cap,v=.slice (some ⟨g,0,none⟩) bs.length cap∧B≤g∧g<W.heap.size∧∀j,j<bs.length→W.cell? ⟨g,j,none⟩=some (.int .u8 (bs.getD j 0)):=by
 rcases f.2 with⟨_,c⟩|⟨g,cap,cur,e,b1,b2,b3,_,b5,b6⟩
 ·omega
 ·have hg:g<W.heap.size:=by
   rcases Nat.lt_or_ge g W.heap.size with c|c
   ·exact c
   ·rw[Array.getElem?_eq_none c] at b2;cases b2
  refine⟨g,cap,e,b1,hg,fun j hj=>?_⟩
  rw[cell_of_row W g _ cur _ _ b2,←Array.getElem?_toList]
  have:(cur.toList.take (bs.length*1))[j]? =(bs.map (Value.int .u8))[j]?:=by rw[b6]
  rw[List.getElem?_take_of_lt (by omega)] at this
  rw[this,List.getElem?_map,List.getElem?_eq_getElem hj,List.getD_eq_getElem?_getD,List.getElem?_eq_getElem hj];rfl
theorem newsA (w:World)(cs:Array Value)(ys:List Int)(hc:cs.toList=ys.map (Value.int .u8)):∀j,j<ys.length→(w.alloc (.cells cs 5)).cell? ((⟨w.heap.size,0,none⟩:Addr).add j)=some (.int .u8 (ys.getD j 0)):=by
 intro j hj
 rw[add_addr,Nat.zero_add,World.cell?_alloc_new,←Array.getElem?_toList,hc,List.getElem?_map,List.getElem?_eq_getElem hj,List.getD_eq_getElem?_getD,List.getElem?_eq_getElem hj]
 rfl
end Go.Proofs.YtgamjhpebmmjcaaGreatDoor
namespace Go.Proofs.YtgamjhpebmmjcaaGreatDoor
set_option maxRecDepth 100000
set_option maxHeartbeats 40000000
open Go.RowKit Flt
attribute [local go_sem] alloc_drewN setCell_drewN run_store_float
theorem spanEnd (w:World)(p:Spn)(h:-1000000≤p.off+p.len∧p.off+p.len≤1000000):
  Calls Tryz.prog 43 #[p.agg] w fun e w'=>e=.returned (.int .i64 (p.off+p.len))∧Kept 0 0 w w':=by
 have hwr:IntKind.i64.wrap (p.off+p.len)=p.off+p.len:=by rw[IntKind.wrap_i64];omega
 go_enter Tryz.func43,Tryz.ntmps43
 go_wp2
 go_ret
 exact⟨rfl,kept_alloc _ _ _ _⟩
theorem within (w:World)(p:Spn)(c:Int)(h1:1≤p.len)(h2:p.len≤1000)(h3:0≤c)(h4:c≤1000000):
  Calls Tryz.prog 124 #[p.agg,.int .i64 c] w fun e w'=>e=.returned (.bool (withB p.off p.len c))∧Kept 0 0 w w':=by
 have hwr:IntKind.i64.wrap (c-p.len)=c-p.len:=by rw[IntKind.wrap_i64];omega
 by_cases u:0≤p.off
 ·by_cases u2:p.off≤c-p.len
  ·rw[show withB p.off p.len c=true from decide_eq_true ⟨u,u2⟩]
   go_enter Tryz.func124,Tryz.ntmps124
   go_wp2
   go_ret
   exact⟨rfl,kept_alloc _ _ _ _⟩
  ·rw[show withB p.off p.len c=false from decide_eq_false (fun c=>u2 c.2)]
   have u2':decide (p.off≤c-p.len)=false:=decide_eq_false u2
   go_enter Tryz.func124,Tryz.ntmps124
   go_wp2
   go_ret
   exact⟨rfl,kept_alloc _ _ _ _⟩
 ·rw[show withB p.off p.len c=false from decide_eq_false (fun c=>u c.1)]
  have u':decide (0≤p.off)=false:=decide_eq_false u
  go_enter Tryz.func124,Tryz.ntmps124
  go_wp2
  go_ret
  exact⟨rfl,kept_alloc _ _ _ _⟩
structure BL (w:World)(g n:Nat)(b:Nat→Bool):Prop where
 lt:g<w.heap.size
 at_:∀k,k<n→w.cell? ⟨g,k,none⟩=some (.bool (b k))
 free:∀o,w.frozen? ⟨g,o,none⟩=false
theorem BL.keep {w w':World}{g n l h:Nat}{b:Nat→Bool}(f:BL w g n b)(k:Kept l h w w')(hd:g<l∨h≤g∨h≤l):BL w' g n b:=
 ⟨Nat.lt_of_lt_of_le f.lt k.size,fun i hi=>by rw[k.cell (p:=⟨g,i,none⟩) f.lt (by show ¬(l≤g∧g<h);omega)];exact f.at_ i hi,fun o=>by rw[k.frozen (p:=⟨g,o,none⟩) f.lt (by show ¬(l≤g∧g<h);omega)];exact f.free o⟩
theorem BL.congr {w:World}{g n:Nat}{b b':Nat→Bool}(f:BL w g n b)(h:∀k,k<n→b k=b' k):BL w g n b':=⟨f.lt,fun k hk=>by rw[←h k hk];exact f.at_ k hk,f.free⟩
theorem BL.set {w:World}{g n:Nat}{b:Nat→Bool}(f:BL w g n b)(k:Nat)(hk:k<n):BL (w.setCell ⟨g,k,none⟩ (.bool true)) g n (fun j=>if j=k then true else b j):=by
 refine⟨by simpa using f.lt,fun j hj=>?_,fun o=>by simp[f.free o]⟩
 by_cases e:j=k
 ·subst e
  rw[if_pos rfl]
  exact cell_eq _ _ _ _ _ (f.at_ j hj)
 ·rw[if_neg e,cell_ne _ _ _ _ _ _ (.inr (fun c=>e c.symm))]
  exact f.at_ j hj
theorem indexFalse (w:World)(g off n cap:Nat)(b:Nat→Bool)(hn:n≤1000)(hc:∀k,k<n→w.cell? ⟨g,off+k,none⟩=some (.bool (b k))):
  Calls Tryz.prog 149 #[.slice (some ⟨g,off,none⟩) n cap,.bool false] w fun e w'=>(∃r:Int,e=.returned (.int .i64 r)∧decide (0≤r)=!((List.range n).all b))∧w=w':=by
 have HC:Hid _:=hc
 clear hc
 go_enter Tryz.func149,Tryz.ntmps149
 go_wp2_with fail
 go_loop [8] (fun i=>∃k:Nat,k≤n∧i=.int .i64 k∧Hid ((List.range k).all b=true)) (fun i=>n-(intOf i).toNat)
 case atStart=>exact⟨0,Nat.zero_le _,rfl,rfl⟩
 case round=>
  obtain⟨k,hk,rfl,hA⟩:=hrel
  by_cases hlt:k<n
  ·have c:=HC.out k hlt
   cases t:b k
   ·have R:Hid ((List.range n).all b=false):=range_bad hlt t
    rw[t] at c
    clear hA
    go_wp2
    go_ret
    exact⟨⟨k,rfl,by rw[R.out];simp⟩,rfl⟩
   ·have R:Hid _:=range_snoc hA.out t
    rw[t] at c
    clear hA
    go_wp2
    go_round
    case rel=>exact⟨k+1,by omega,by go_num,R⟩
    case measure=>simp[intOf];omega
  ·have R:Hid ((List.range n).all b=true):=by
    have:=hA.out
    rw[show k=n by omega] at this
    exact this
   clear hA
   go_wp2
   go_ret
   exact⟨⟨-1,rfl,by rw[R.out];decide⟩,rfl⟩
theorem containsFalse (w:World)(g off n cap:Nat)(b:Nat→Bool)(hn:n≤1000)(hc:∀k,k<n→w.cell? ⟨g,off+k,none⟩=some (.bool (b k))):
  Calls Tryz.prog 126 #[.slice (some ⟨g,off,none⟩) n cap,.bool false] w fun e w'=>e=.returned (.bool (!((List.range n).all b)))∧w=w':=by
 have HX:Hid _:=indexFalse w g off n cap b hn hc
 clear hc
 go_enter Tryz.func126,Tryz.ntmps126
 go_wp2_with fail
 refine Calls.mono HX.out ?_
 rintro e w2 ⟨⟨r,rfl,hr⟩,rfl⟩
 go_wp2
 go_ret
 exact⟨by rw[←hr];rfl,rfl⟩
end Go.Proofs.YtgamjhpebmmjcaaGreatDoor
namespace Go.Proofs.YtgamjhpebmmjcaaGreatDoor
set_option maxRecDepth 100000
set_option maxHeartbeats 40000000
open Go.RowKit Flt
attribute [local go_sem] alloc_drewN setCell_drewN run_store_float
theorem spn_box (w:World)(p:Spn):AtP (w.alloc p.box) w.heap.size 0 p:=by
 refine⟨?_,?_⟩
 all_goals first|(go_simp;done)|(simp;done)
theorem hold_in (w:World)(g n cap:Nat)(b:Nat→Bool)(hn:n≤50000)(hcap:n≤cap)(f:BL w g n b)(o m:Nat)(h1:1≤m)(h2:m≤1000)(h3:o+m≤n):
  Calls Tryz.prog 79 #[.slice (some ⟨g,0,none⟩) n cap,(Spn.mk (o:Int) (m:Int)).agg] w fun e w'=>e=.returned (.bool ((List.range m).all fun j=>b (o+j)))∧Kept 0 0 w w':=by
 have hK:=kept_alloc 0 0 w (Spn.mk (o:Int) (m:Int)).box
 have hB:=spn_box w (Spn.mk (o:Int) (m:Int))
 have HF:Hid _:=f.keep hK (.inr (.inr (Nat.le_refl _)))
 have HK:Hid _:=hK
 have HB:Hid _:=hB
 have HBL:Hid (w.heap.size<(w.alloc (Spn.mk (o:Int) (m:Int)).box).heap.size):=by show _<_;simp
 obtain⟨q0,q1⟩:=hB
 rw[Nat.zero_add] at q1
 have HW:Hid (∀w,Calls Tryz.prog 124 #[(Spn.mk (o:Int) (m:Int)).agg,.int .i64 (n:Int)] w fun e w'=>e=.returned (.bool true)∧Kept 0 0 w w'):=fun w=>by
  have:=within w (Spn.mk (o:Int) (m:Int)) (n:Int) (by show(1:Int)≤(m:Int);omega) (by show(m:Int)≤1000;omega) (by omega) (by omega)
  rw[show withB (o:Int) (m:Int) (n:Int)=true from decide_eq_true ⟨by omega,by omega⟩] at this
  exact this
 have HE:Hid (∀w,Calls Tryz.prog 43 #[(Spn.mk (o:Int) (m:Int)).agg] w fun e w'=>e=.returned (.int .i64 ((o:Int)+(m:Int)))∧Kept 0 0 w w'):=fun w=>spanEnd w (Spn.mk (o:Int) (m:Int)) (by show -1000000≤(o:Int)+(m:Int)∧(o:Int)+(m:Int)≤1000000;omega)
 have HC:Hid (∀w' c',Kept 0 0 (w.alloc (Spn.mk (o:Int) (m:Int)).box) w'→Calls Tryz.prog 126 #[.slice (some ⟨g,o,none⟩) m c',.bool false] w' fun e w''=>e=.returned (.bool (!((List.range m).all fun j=>b (o+j))))∧w'=w''):=fun w' c' k=>containsFalse w' g o m c' (fun j=>b (o+j)) h2 (fun j hj=>(HF.out.keep k (.inr (.inr (Nat.le_refl _)))).at_ (o+j) (by omega))
 clear f hK
 generalize ((List.range m).all fun j=>b (o+j))=z at HC ⊢
 go_enter Tryz.func79,Tryz.ntmps79
 go_wp2_with fail
 generalize w.alloc (Spn.mk (o:Int) (m:Int)).box=w1 at HF HK HB HBL HC q0 q1 ⊢
 go_region_with
  (first
   |(go_at_call 126;refine Calls.mono (HC.out _ _ kk3) ?_;rintro e w4 ⟨rfl,rfl⟩)
   |(go_at_call 43;refine Calls.mono (HE.out _) ?_;rintro e w3 ⟨rfl,k3⟩;have kk3:=Kept.trans kk2 k3;obtain⟨t0,t1⟩:=AtP.keep HB.out HBL.out kk3 (.inr (.inr (Nat.le_refl _)));rw[Nat.zero_add] at t1)
   |(go_at_call 124;refine Calls.mono (HW.out _) ?_;rintro e w2 ⟨rfl,k2⟩;have kk2:=Kept.trans (kept_drewN 0 0 w1 1) k2;obtain⟨s0,s1⟩:=AtP.keep HB.out HBL.out kk2 (.inr (.inr (Nat.le_refl _)));rw[Nat.zero_add] at s1))
 all_goals
  go_wp2
  go_ret
  exact⟨by cases z<;>rfl,Kept.trans HK.out kk3⟩
end Go.Proofs.YtgamjhpebmmjcaaGreatDoor
namespace Go.Proofs.YtgamjhpebmmjcaaGreatDoor
set_option maxRecDepth 100000
set_option maxHeartbeats 40000000
open Go.RowKit Flt
attribute [local go_sem] alloc_drewN setCell_drewN run_store_float
theorem hold_not (w:World)(g n cap:Nat)(hn:n≤50000)(p:Spn)(h1:1≤p.len)(h2:p.len≤1000)(h3:withB p.off p.len n=false):
  Calls Tryz.prog 79 #[.slice (some ⟨g,0,none⟩) n cap,p.agg] w fun e w'=>e=.returned (.bool false)∧Kept 0 0 w w':=by
 have hK:=kept_alloc 0 0 w p.box
 have hB:=spn_box w p
 have HK:Hid _:=hK
 have HB:Hid _:=hB
 have HBL:Hid (w.heap.size<(w.alloc p.box).heap.size):=by show _<_;simp
 obtain⟨q0,q1⟩:=hB
 rw[Nat.zero_add] at q1
 have HW:Hid (∀w,Calls Tryz.prog 124 #[p.agg,.int .i64 (n:Int)] w fun e w'=>e=.returned (.bool false)∧Kept 0 0 w w'):=fun w=>by
  have:=within w p (n:Int) h1 h2 (by omega) (by omega)
  rw[h3] at this
  exact this
 clear hK
 go_enter Tryz.func79,Tryz.ntmps79
 go_wp2_with fail
 generalize w.alloc p.box=w1 at HK HB HBL q0 q1 ⊢
 first|(go_region_with (go_at_call 124;refine Calls.mono (HW.out _) ?_;rintro e w2 ⟨rfl,k2⟩;have kk2:=Kept.trans (kept_drewN 0 0 w1 1) k2;obtain⟨s0,s1⟩:=AtP.keep HB.out HBL.out kk2 (.inr (.inr (Nat.le_refl _)));rw[Nat.zero_add] at s1))|fail
 all_goals
  go_wp2
  go_ret
  exact⟨rfl,Kept.trans HK.out (Kept.trans (kept_drewN 0 0 w1 1) k2)⟩
theorem hold (w:World)(g n cap:Nat)(ss:List Ste)(i:Nat)(hn:n≤50000)(hcap:n≤cap)(f:BL w g n (fun k=>wroteB ss i (k:Nat)))(p:Spn)(h1:1≤p.len)(h2:p.len≤1000):
  Calls Tryz.prog 79 #[.slice (some ⟨g,0,none⟩) n cap,p.agg] w fun e w'=>e=.returned (.bool (holdB ss i n p.off p.len))∧Kept 0 0 w w':=by
 cases h3:withB p.off p.len n
 ·have e:holdB ss i n p.off p.len=false:=by unfold holdB;rw[h3];rfl
  rw[e]
  exact hold_not w g n cap hn p h1 h2 h3
 ·have h4:=of_decide_eq_true h3
  obtain⟨off,len⟩:=p
  simp only at h1 h2 h4 ⊢
  obtain⟨o,rfl⟩:=Int.eq_ofNat_of_zero_le h4.1
  obtain⟨m,rfl⟩:=Int.eq_ofNat_of_zero_le (by omega:0≤len)
  have e:holdB ss i n (o:Int) (m:Int)=((List.range m).all fun j=>wroteB ss i ((o+j:Nat):Int)):=by
   unfold holdB
   rw[h3,Int.toNat_natCast,Bool.true_and]
   congr 1
  rw[e]
  exact hold_in w g n cap (fun k=>wroteB ss i (k:Nat)) hn hcap f o m (by omega) (by omega) (by omega)
end Go.Proofs.YtgamjhpebmmjcaaGreatDoor
namespace Go.Proofs.YtgamjhpebmmjcaaGreatDoor
set_option maxRecDepth 100000
set_option maxHeartbeats 40000000
open Go.RowKit Flt
attribute [local go_sem] alloc_drewN setCell_drewN run_store_float
theorem meets (w:World)(s p:Spn)(h1:-1000000≤s.off+s.len∧s.off+s.len≤1000000)(h2:-1000000≤p.off+p.len∧p.off+p.len≤1000000):
  Calls Tryz.prog 125 #[s.agg,p.agg] w fun e w'=>e=.returned (.bool (decide (s.off<p.off+p.len∧p.off<s.off+s.len)))∧Kept 0 0 w w':=by
 have hK:=(kept_alloc 0 0 w s.box).trans (kept_alloc 0 0 _ p.box)
 have hz:(w.alloc s.box).heap.size=w.heap.size+1:=by simp
 have hB1:=(spn_box w s).keep (by simp) (kept_alloc 0 0 (w.alloc s.box) p.box) (.inr (.inr (Nat.le_refl _)))
 have hB2:=spn_box (w.alloc s.box) p
 rw[hz] at hB2
 have HK:Hid _:=hK
 have HB1:Hid _:=hB1
 have HB2:Hid _:=hB2
 have HZ:Hid (w.heap.size+1<((w.alloc s.box).alloc p.box).heap.size):=by show _<_;simp
 have HE1:Hid (∀w,Calls Tryz.prog 43 #[s.agg] w fun e w'=>e=.returned (.int .i64 (s.off+s.len))∧Kept 0 0 w w'):=fun w=>spanEnd w s h1
 have HE2:Hid (∀w,Calls Tryz.prog 43 #[p.agg] w fun e w'=>e=.returned (.int .i64 (p.off+p.len))∧Kept 0 0 w w'):=fun w=>spanEnd w p h2
 obtain⟨q0,q1⟩:=hB1
 obtain⟨r0,r1⟩:=hB2
 rw[Nat.zero_add] at q1 r1
 clear hK hz
 by_cases u:s.off<p.off+p.len
 ·have HR:Hid (decide (s.off<p.off+p.len∧p.off<s.off+s.len)=decide (p.off<s.off+s.len)):=by
   show _=_
   rw[Bool.eq_iff_iff];simp[u]
  have u':decide (s.off<p.off+p.len)=true:=decide_eq_true u
  go_enter Tryz.func125,Tryz.ntmps125
  go_wp2_with fail
  generalize (w.alloc s.box).alloc p.box=w1 at HK HB1 HB2 HZ q0 q1 r0 r1 ⊢
  go_region_held3 (fun w'=>w'.cell? ⟨w.heap.size,0,none⟩=some (.int .i64 s.off)∧w'.cell? ⟨w.heap.size,1,none⟩=some (.int .i64 s.len)∧w'.cell? ⟨w.heap.size+1,0,none⟩=some (.int .i64 p.off)∧w'.cell? ⟨w.heap.size+1,1,none⟩=some (.int .i64 p.len)) (go_keep) (first
   |(go_at_call 43;refine Calls.mono (HE1.out _) ?_;rintro e w3 ⟨rfl,k3⟩;have kk3:=Kept.trans kk2 k3;obtain⟨m0,m1⟩:=AtP.keep HB1.out (by have:=HZ.out;omega) kk3 (.inr (.inr (Nat.le_refl _)));obtain⟨l0,l1⟩:=AtP.keep HB2.out HZ.out kk3 (.inr (.inr (Nat.le_refl _)));rw[Nat.zero_add] at m1 l1)
   |(go_at_call 43;refine Calls.mono (HE2.out _) ?_;rintro e w2 ⟨rfl,k2⟩;have kk2:=Kept.trans (kept_drewN 0 0 w1 1) k2;obtain⟨s0,s1⟩:=AtP.keep HB1.out (by have:=HZ.out;omega) kk2 (.inr (.inr (Nat.le_refl _)));obtain⟨t0,t1⟩:=AtP.keep HB2.out HZ.out kk2 (.inr (.inr (Nat.le_refl _)));rw[Nat.zero_add] at s1 t1))
  all_goals
   go_wp2
   go_ret
   exact⟨by rw[HR.out];rfl,Kept.trans HK.out kk3⟩
 ·have HR:Hid (decide (s.off<p.off+p.len∧p.off<s.off+s.len)=false):=decide_eq_false (fun c=>u c.1)
  have u':decide (s.off<p.off+p.len)=false:=decide_eq_false u
  go_enter Tryz.func125,Tryz.ntmps125
  go_wp2_with fail
  generalize (w.alloc s.box).alloc p.box=w1 at HK HB1 HB2 HZ q0 q1 r0 r1 ⊢
  first|(go_region_with (go_at_call 43;refine Calls.mono (HE2.out _) ?_;rintro e w2 ⟨rfl,k2⟩;have kk2:=Kept.trans (kept_drewN 0 0 w1 1) k2;obtain⟨s0,s1⟩:=AtP.keep HB1.out (by have:=HZ.out;omega) kk2 (.inr (.inr (Nat.le_refl _)));obtain⟨t0,t1⟩:=AtP.keep HB2.out HZ.out kk2 (.inr (.inr (Nat.le_refl _)));rw[Nat.zero_add] at s1 t1))|fail
  all_goals
   go_wp2
   go_ret
   exact⟨by rw[HR.out];rfl,Kept.trans HK.out kk2⟩
end Go.Proofs.YtgamjhpebmmjcaaGreatDoor
namespace Go.Proofs.YtgamjhpebmmjcaaGreatDoor
set_option maxRecDepth 100000
set_option maxHeartbeats 40000000
open Go.RowKit Flt
attribute [local go_sem] alloc_drewN setCell_drewN run_store_float
def fldS (s:Ste)(k:Nat):Int:=if k=0 then s.a else if k=1 then s.b else s.c
def lenT (s:Ste)(k:Nat):Int:=if k=0 then s.n else s.len
theorem spansOf_at {s:Ste}{k:Nat}(hk:k<cnt s.op):∃p,(spansOf s)[k]? =some p∧p.off=fldS s k∧p.len=lenT s k:=by
 have:=cnt_le s.op
 unfold spansOf
 rw[List.getElem?_take_of_lt hk]
 rcases (by omega:k=0∨k=1∨k=2) with rfl|rfl|rfl
 ·exact⟨_,rfl,rfl,rfl⟩
 ·exact⟨_,rfl,rfl,rfl⟩
 ·exact⟨_,rfl,rfl,rfl⟩
theorem form_spare {ins:List Int}{s:Ste}(h:spareB (vlOf s)=false):formB ins s=false:=by
 unfold formB;rw[h];simp
end Go.Proofs.YtgamjhpebmmjcaaGreatDoor
namespace Go.Proofs.YtgamjhpebmmjcaaGreatDoor
set_option maxRecDepth 100000
set_option maxHeartbeats 40000000
open Go.RowKit Flt
attribute [local go_sem] alloc_drewN setCell_drewN run_store_float
theorem ste_box (w:World)(s:Ste):AtT (w.alloc s.box) w.heap.size 0 s:=by
 refine⟨?_,?_,?_,?_,?_,?_,?_,?_⟩
 all_goals first|(go_simp;done)|(simp;done)
end Go.Proofs.YtgamjhpebmmjcaaGreatDoor
namespace Go.Proofs.YtgamjhpebmmjcaaGreatDoor
set_option maxRecDepth 100000
set_option maxHeartbeats 40000000
open Go.RowKit Flt
attribute [local go_sem] alloc_drewN setCell_drewN run_store_float
theorem valOf (w:World)(s:Ste):
  Calls Tryz.prog 80 #[s.agg] w fun e w'=>e=.returned (vlOf s).agg∧Kept 0 0 w w':=by
 go_enter Tryz.func80,Tryz.ntmps80
 go_wp2
 refine bodyPost_ret (v:=(vlOf s).agg) (by simp[results,Tryz.results80,go_sem,vlOf]) rfl ⟨rfl,?_⟩
 exact(kept_alloc 0 0 w _).trans (kept_alloc 0 0 _ _)
abbrev inAgg (s:Ste):Value:=.agg #[.int .i64 s.dst,.int .i64 s.len,.int .i64 s.a]
abbrev kAgg (s:Ste)(G n:Nat):Value:=.agg #[.int .i64 s.dst,.int .i64 s.len,.int .i64 s.op,.int .i64 s.len,.int .i64 s.a,.int .i64 s.b,.int .i64 s.c,.float .f64 s.k,.slice (some ⟨G,0,none⟩) n 3]
theorem opStep_in (w:World)(s:Ste)(h:s.op=0):
  Calls Tryz.prog 46 #[s.agg] w fun e w'=>e=.returned (.iface 147 (inAgg s))∧Kept 0 0 w w':=by
 have t:(s.op==0)=true:=beq_iff_eq.2 h
 go_enter Tryz.func46,Tryz.ntmps46
 go_wp2
 go_ret
 exact⟨rfl,(kept_alloc 0 0 w _).trans (kept_alloc 0 0 _ _)⟩
structure SB (w:World)(G n:Nat)(ps:List Spn):Prop where
 lt:G<w.heap.size
 at_:∀k,k<n→AtP w G (k*2) (ps.getD k Spn.zero)
theorem SB.keep {w w':World}{G n l h:Nat}{ps:List Spn}(f:SB w G n ps)(k:Kept l h w w')(hd:G<l∨h≤G∨h≤l):SB w' G n ps:=
 ⟨Nat.lt_of_lt_of_le f.lt k.size,fun i hi=>(f.at_ i hi).keep f.lt k hd⟩
abbrev sbox6 (s:Ste):Obj:=.cells #[.int .i64 s.a,.int .i64 s.n,.int .i64 s.b,.int .i64 s.len,.int .i64 s.c,.int .i64 s.len] 92
theorem sb_start (w:World)(s:Ste):SB (w.alloc (sbox6 s)) w.heap.size (cnt s.op) (spansOf s):=by
 refine⟨by simp,fun k hk=>?_⟩
 have hc:=cnt_le s.op
 have e:(spansOf s).getD k Spn.zero=[⟨s.a,s.n⟩,⟨s.b,s.len⟩,⟨s.c,s.len⟩].getD k Spn.zero:=by
  unfold spansOf
  rw[List.getD_eq_getElem?_getD,List.getElem?_take_of_lt hk,←List.getD_eq_getElem?_getD]
 rw[e]
 rcases (by omega:k=0∨k=1∨k=2) with rfl|rfl|rfl
 all_goals
  refine⟨?_,?_⟩
  all_goals first|(go_simp;done)|(simp;done)
theorem opStep_k (w:World)(s:Ste)(h:s.op≠0):
  Calls Tryz.prog 46 #[s.agg] w fun e w'=>∃G,e=.returned (.iface 150 (kAgg s G (cnt s.op)))∧SB w' G (cnt s.op) (spansOf s)∧w.heap.size≤G∧Kept 0 0 w w':=by
 have t:(s.op==0)=false:=beq_eq_false_iff_ne.2 h
 have hc:=cnt_le s.op
 have h1:(w.alloc s.box).heap.size=w.heap.size+1:=by simp
 have h2:((w.alloc s.box).alloc (Spn.mk s.dst s.len).box).heap.size=w.heap.size+1+1:=by simp
 have ka:=(kept_alloc 0 0 (w.alloc s.box) (Spn.mk s.dst s.len).box).trans (kept_alloc 0 0 _ (sbox6 s))
 have HK:Hid _:=(kept_alloc 0 0 w s.box).trans ka
 have HB:Hid _:=(ste_box w s).keep (by simp) ka (.inr (.inr (Nat.le_refl _)))
 have hP:=(spn_box (w.alloc s.box) (Spn.mk s.dst s.len)).keep (by simp) (kept_alloc 0 0 _ (sbox6 s)) (.inr (.inr (Nat.le_refl _)))
 rw[h1] at hP
 have HP:Hid _:=hP
 have hS:=sb_start ((w.alloc s.box).alloc (Spn.mk s.dst s.len).box) s
 rw[h2] at hS
 have HS:Hid _:=hS
 have HC:Hid (∀w,Calls Tryz.prog 75 #[.int .i64 s.op] w fun e w'=>e=.returned (.int .i64 (cnt s.op:Nat))∧w'=w):=fun w=>opCount s.op w
 have HV:Hid (∀w,Calls Tryz.prog 80 #[s.agg] w fun e w'=>e=.returned (vlOf s).agg∧Kept 0 0 w w'):=fun w=>valOf w s
 clear ka h1 h2 hP hS
 go_enter Tryz.func46,Tryz.ntmps46
 go_wp2_with fail
 have i1:(0:Int)≤((cnt s.op:Nat):Int):=by omega
 have i2:((cnt s.op:Nat):Int)≤(3:Int):=by omega
 obtain⟨d0,d1,d2,d3,d4,d5,d6,d7⟩:=HB.out
 obtain⟨q0,q1⟩:=HP.out
 simp only[Nat.zero_add] at d1 d2 d3 d4 d5 d6 d7 q1
 have HZ:Hid (w.heap.size+1+1<(((w.alloc s.box).alloc (Spn.mk s.dst s.len).box).alloc (sbox6 s)).heap.size):=HS.out.lt
 generalize ((w.alloc s.box).alloc (Spn.mk s.dst s.len).box).alloc (sbox6 s)=w1 at HK HB HP HS HZ d0 d1 d2 d3 d4 d5 d6 d7 q0 q1 ⊢
 go_region_held3 (fun w'=>w'.cell? ⟨w.heap.size,0,none⟩=some (.int .i64 s.op)∧w'.cell? ⟨w.heap.size,1,none⟩=some (.int .i64 s.len)∧w'.cell? ⟨w.heap.size,2,none⟩=some (.int .i64 s.n)∧w'.cell? ⟨w.heap.size,3,none⟩=some (.int .i64 s.dst)∧w'.cell? ⟨w.heap.size,4,none⟩=some (.int .i64 s.a)∧w'.cell? ⟨w.heap.size,5,none⟩=some (.int .i64 s.b)∧w'.cell? ⟨w.heap.size,6,none⟩=some (.int .i64 s.c)∧w'.cell? ⟨w.heap.size,7,none⟩=some (.float .f64 s.k)∧w'.cell? ⟨w.heap.size+1,0,none⟩=some (.int .i64 s.dst)∧w'.cell? ⟨w.heap.size+1,1,none⟩=some (.int .i64 s.len)) (go_keep)
  (first
   |(go_at_call 75;refine Calls.mono (HC.out _) ?_;rintro e w3 ⟨rfl,rfl⟩)
   |(go_at_call 80;refine Calls.mono (HV.out _) ?_;rintro e w2 ⟨rfl,k2⟩;have kk2:=Kept.trans (kept_drewN 0 0 w1 1) k2;obtain⟨e0,e1,e2,e3,e4,e5,e6,e7⟩:=AtT.keep HB.out (by have:=HZ.out;omega) kk2 (.inr (.inr (Nat.le_refl _)));obtain⟨r0,r1⟩:=AtP.keep HP.out (by have:=HZ.out;omega) kk2 (.inr (.inr (Nat.le_refl _)));simp only[Nat.zero_add] at e1 e2 e3 e4 e5 e6 e7 r1))
 all_goals
  go_wp2
  go_ret
  exact⟨w.heap.size+1+1,rfl,HS.out.keep kk2 (.inr (.inr (Nat.le_refl _))),by omega,Kept.trans HK.out kk2⟩
end Go.Proofs.YtgamjhpebmmjcaaGreatDoor
namespace Go.Proofs.YtgamjhpebmmjcaaGreatDoor
set_option maxRecDepth 100000
set_option maxHeartbeats 40000000
open Go.RowKit Flt
attribute [local go_sem] alloc_drewN setCell_drewN run_store_float
structure FB (W:World)(p q:Nat)(s:Ste):Prop where
 sa:AtT W p 0 s
 va:At W q 0 (vlOf s)
 lp:p<W.heap.size
 lq:q<W.heap.size
theorem FB.keep {W W':World}{p q:Nat}{s:Ste}(t:FB W p q s)(k:Kept 0 0 W W'):FB W' p q s:=
 ⟨t.sa.keep t.lp k (.inr (.inr (Nat.le_refl _))),t.va.keep t.lq k (.inr (.inr (Nat.le_refl _))),Nat.lt_of_lt_of_le t.lp k.size,Nat.lt_of_lt_of_le t.lq k.size⟩
theorem is3 (w:World)(x y z:Int)(m:Nat)(hm:m≤3):IS (w.alloc (.cells #[.int .i64 x,.int .i64 y,.int .i64 z] 3)) 0 (w.heap.size+1) (some ⟨w.heap.size,0,none⟩) m ([x,y,z].take m):=by
 refine⟨by simp;omega,.inr ⟨w.heap.size,0,rfl,Nat.zero_le _,by omega,by simp,fun k hk=>?_⟩⟩
 rw[List.getD_eq_getElem?_getD,List.getElem?_take_of_lt hk,←List.getD_eq_getElem?_getD]
 rcases (by omega:k=0∨k=1∨k=2) with rfl|rfl|rfl
 all_goals first|(go_simp;done)|(simp;done)
theorem vl_box (w:World)(v:Vl):At (w.alloc (vbox v.op v.len v.a v.b v.c v.k)) w.heap.size 0 v:=by
 refine⟨?_,?_,?_,?_,?_,?_⟩
 all_goals first|(go_simp;done)|(simp;done)
theorem fieldsFit (w:World)(lo hi:Nat)(s:Ste)(a:Option Addr)(n cap:Nat)(ins:List Int)(f:IS w lo hi a n ins):
  Calls Tryz.prog 77 #[s.agg,.slice a n cap] w fun e w'=>e=.returned (.bool (formB ins s))∧Kept 0 0 w w':=by
 have HF:Hid _:=f
 have HL:Hid (ins.length=n):=f.len
 have k0:=kept_alloc 0 0 w s.box
 have HB0:Hid _:=ste_box w s
 have hz0:w.heap.size<(w.alloc s.box).heap.size:=by simp
 have HI:Hid (∀w,Calls Tryz.prog 62 #[.int .i64 s.len] w fun e w'=>e=.returned (.bool (lenB s.len))∧w'=w):=fun w=>isLength_any s.len w
 have HS:Hid (∀w,Calls Tryz.prog 100 #[(vlOf s).agg] w fun e w'=>e=.returned (.bool (spareB (vlOf s)))∧Kept 0 0 w w'):=fun w=>spareFields w (vlOf s)
 have HC:Hid (∀w,Calls Tryz.prog 75 #[.int .i64 s.op] w fun e w'=>e=.returned (.int .i64 (cnt s.op:Nat))∧w'=w):=fun w=>opCount s.op w
 clear f
 go_enter Tryz.func77,Tryz.ntmps77
 go_wp2_with fail
 refine(valOf _ s).mono ?_
 rintro e w1 ⟨rfl,k1⟩
 have ka:=kept_alloc 0 0 w1 (vbox (vlOf s).op (vlOf s).len (vlOf s).a (vlOf s).b (vlOf s).c (vlOf s).k)
 have HB:Hid (FB (w1.alloc (vbox (vlOf s).op (vlOf s).len (vlOf s).a (vlOf s).b (vlOf s).c (vlOf s).k)) w.heap.size w1.heap.size s):=⟨HB0.out.keep hz0 (k1.trans ka) (.inr (.inr (Nat.le_refl _))),vl_box w1 (vlOf s),by have:=k1.size;simp at this ⊢;omega,by simp⟩
 have HK:Hid _:=(k0.trans k1).trans ka
 obtain⟨⟨d0,d1,d2,d3,d4,d5,d6,d7⟩,⟨v0,v1,v2,v3,v4,v5⟩,_,_⟩:=HB.out
 simp only[Nat.zero_add] at d1 d2 d3 d4 d5 d6 d7 v1 v2 v3 v4 v5
 clear k0 k1 ka HB0 hz0
 go_wp2_with fail
 generalize hQ9:w1.heap.size=Q at HB v0 v1 v2 v3 v4 v5 ⊢
 generalize w1.alloc (vbox (vlOf s).op (vlOf s).len (vlOf s).a (vlOf s).b (vlOf s).c (vlOf s).k)=w2 at HB HK d0 d1 d2 d3 d4 d5 d6 d7 v0 v1 v2 v3 v4 v5 ⊢
 clear hQ9
 refine(HI.out _).mono ?_
 rintro e w3 ⟨rfl,rfl⟩
 cases tl:lenB s.len
 ·have R:Hid (formB ins s=false):=by show _=_;unfold formB;rw[tl];simp
  go_wp2
  go_ret
  exact⟨by rw[R.out];rfl,HK.out⟩
 go_wp2_with fail
 refine(HS.out _).mono ?_
 rintro e w4 ⟨rfl,k4⟩
 replace HB:Hid _:=HB.out.keep k4
 replace HK:Hid _:=Kept.trans HK.out k4
 clear k4 d0 d1 d2 d3 d4 d5 d6 d7 v0 v1 v2 v3 v4 v5
 obtain⟨⟨d0,d1,d2,d3,d4,d5,d6,d7⟩,⟨v0,v1,v2,v3,v4,v5⟩,_,_⟩:=HB.out
 simp only[Nat.zero_add] at d1 d2 d3 d4 d5 d6 d7 v1 v2 v3 v4 v5
 cases ts:spareB (vlOf s)
 ·have R:Hid (formB ins s=false):=form_spare ts
  go_wp2
  go_ret
  exact⟨by rw[R.out];rfl,HK.out⟩
 have HQ:Hid (formB ins s=((!(decide (cnt s.op=0)&&s.n !=0))&&(if s.op=0 then idxB s.a ins.length&&ins.getD s.a.toNat 0==s.len else shapeB s.op s.len s.c ([s.n,s.len,s.len].take (cnt s.op))))):=by
  show _=_
  unfold formB
  rw[tl,ts];simp
 go_wp2_with fail
 refine(HC.out _).mono ?_
 rintro e w5 ⟨rfl,rfl⟩
 have hc3:=cnt_le s.op
 cases tc:decide (cnt s.op=0)&&s.n !=0
 case true=>
  have R:Hid (formB ins s=false):=by show _=_;rw[HQ.out,tc];rfl
  have t2:cnt s.op=0∧(s.n !=0)=true:=by
   rw[Bool.and_eq_true] at tc
   exact⟨of_decide_eq_true tc.1,tc.2⟩
  have t3:(((cnt s.op:Nat):Int)==0)=true:=by rw[t2.1];rfl
  have t4:=t2.2
  go_wp2
  go_ret
  exact⟨by rw[R.out];rfl,HK.out⟩
 have HQ2:Hid (formB ins s=(if s.op=0 then idxB s.a ins.length&&ins.getD s.a.toNat 0==s.len else shapeB s.op s.len s.c ([s.n,s.len,s.len].take (cnt s.op)))):=by
  show _=_
  rw[HQ.out,tc];rfl
 have HTC:Hid _:=tc
 clear HQ tc
 by_cases hc0:cnt s.op=0
 ·have t3:(((cnt s.op:Nat):Int)==0)=true:=by rw[hc0];rfl
  have t4:(s.n !=0)=false:=by
   have:=HTC.out
   rw[decide_eq_true hc0,Bool.true_and] at this
   exact this
  by_cases h0:s.op=0
  ·have t0:(s.op==0)=true:=beq_iff_eq.2 h0
   have HFW:Hid _:=IS.keep HF.out HK.out (.inr (.inr (Nat.le_refl _)))
   by_cases hA:0≤s.a∧s.a<n
   ·obtain⟨j,hj⟩:∃j:Nat,s.a=j:=⟨s.a.toNat,by omega⟩
    have hjn:j<n:=by omega
    have EQ:Hid (formB ins s=(ins.getD j 0==s.len)):=by
     show _=_
     rw[HQ2.out,if_pos h0,HL.out,show idxB s.a n=true from decide_eq_true hA,hj];rfl
    have hI:Hid (∀w,Calls Tryz.prog 22 #[.int .i64 (j:Int),.int .i64 (n:Int)] w fun e w'=>e=.returned (.bool true)∧w'=w):=fun w=>by
     have:=isIndex_any (j:Int) n w
     rw[show idxB (j:Int) n=true from decide_eq_true (by omega)] at this
     exact this
    rcases HFW.out.at_ with z0|⟨ga,oa,ea,z1,z2,z3,z4⟩
    ·omega
    have c0:=z4 j hjn
    subst ea
    rw[hj] at d4
    generalize ins.getD j 0=y at c0 EQ
    have j0:(0:Int)≤(j:Int):=by omega
    have j1:(j:Int)<(n:Int):=by omega
    clear z1 z2 z3 z4 hA hj
    go_wp2_with fail
    go_quiet ((go_at_call 22;exact Calls.quiet_of_same (hI.out _)))
    go_wp2
    go_ret
    exact⟨by rw[EQ.out];rfl,HK.out.trans (kept_drewN 0 0 _ _)⟩
   ·have EQ:Hid (formB ins s=false):=by
     show _=_
     rw[HQ2.out,if_pos h0,HL.out,show idxB s.a n=false from decide_eq_false hA];rfl
    have hI:Hid (∀w,Calls Tryz.prog 22 #[.int .i64 s.a,.int .i64 (n:Int)] w fun e w'=>e=.returned (.bool false)∧w'=w):=fun w=>by
     have:=isIndex_any s.a n w
     rw[show idxB s.a n=false from decide_eq_false hA] at this
     exact this
    clear hA
    go_wp2_with fail
    go_quiet ((go_at_call 22;exact Calls.quiet_of_same (hI.out _)))
    go_wp2
    go_ret
    exact⟨by rw[EQ.out];rfl,HK.out.trans (kept_drewN 0 0 _ _)⟩
  ·have t0:(s.op==0)=false:=beq_eq_false_iff_ne.2 h0
   have EQ:Hid _:=HQ2.out
   rw[if_neg h0] at EQ
   have i1:(0:Int)≤((cnt s.op:Nat):Int):=by omega
   have i2:((cnt s.op:Nat):Int)≤(3:Int):=by omega
   have ka:=kept_alloc 0 0 w5 (.cells #[.int .i64 s.n,.int .i64 s.len,.int .i64 s.len] 3)
   have HB':Hid _:=HB.out.keep ka
   have HK':Hid _:=Kept.trans HK.out ka
   obtain⟨⟨x0,x1,x2,x3,x4,x5,x6,x7⟩,⟨y0,y1,y2,y3,y4,y5⟩,_,_⟩:=HB'.out
   simp only[Nat.zero_add] at x1 x2 x3 x4 x5 x6 x7 y1 y2 y3 y4 y5
   have HI3:Hid _:=is3 w5 s.n s.len s.len (cnt s.op) hc3
   clear ka
   go_wp2_with fail
   clear d0 d1 d2 d3 d4 d5 d6 d7 v0 v1 v2 v3 v4 v5
   have HSF:Hid (∀m,Calls Tryz.prog 101 #[(vlOf s).agg,.slice (some ⟨w5.heap.size,0,none⟩) (cnt s.op) 3] ((w5.alloc (.cells #[.int .i64 s.n,.int .i64 s.len,.int .i64 s.len] 3)).drewN m) fun e w'=>e=.returned (.bool (shapeB s.op s.len s.c ([s.n,s.len,s.len].take (cnt s.op))))∧Kept 0 0 w w'∧Kept 0 0 (w5.alloc (.cells #[.int .i64 s.n,.int .i64 s.len,.int .i64 s.len] 3)) w'):=fun m=>(shapeFits _ (vlOf s).op (vlOf s).len (vlOf s).a (vlOf s).b (vlOf s).c (vlOf s).k _ _ _ _ _ _ (IS.keep HI3.out (kept_drewN 0 0 _ m) (.inr (.inr (Nat.le_refl _)))) rfl).mono fun e w' h=>⟨h.1,Kept.trans HK'.out (Kept.trans (kept_drewN 0 0 _ m) h.2),Kept.trans (kept_drewN 0 0 _ m) h.2⟩
   generalize w5.alloc (.cells #[.int .i64 s.n,.int .i64 s.len,.int .i64 s.len] 3)=w6 at HB' HK' HI3 HSF x0 x1 x2 x3 x4 x5 x6 x7 y0 y1 y2 y3 y4 y5 ⊢
   rw[hc0] at HSF EQ
   clear hc0 t3 t4 t0 h0 HQ2 HTC hc3 x0 x1 x2 x3 x4 x5 x6 x7 tl ts HI HS HC HF HL HI3 HK HB
   go_region_held3 (fun w'=>w'.cell? ⟨Q,0,none⟩=some (.int .i64 (vlOf s).op)∧w'.cell? ⟨Q,1,none⟩=some (.int .i64 (vlOf s).len)∧w'.cell? ⟨Q,2,none⟩=some (.int .i64 (vlOf s).a)∧w'.cell? ⟨Q,3,none⟩=some (.int .i64 (vlOf s).b)∧w'.cell? ⟨Q,4,none⟩=some (.int .i64 (vlOf s).c)∧w'.cell? ⟨Q,5,none⟩=some (.float .f64 (vlOf s).k)) (go_keep) (first|(go_at_call 101;refine Calls.mono (HSF.out 1) ?_;rintro e w7 ⟨rfl,k7,k8⟩;obtain⟨_,⟨z0,z1,z2,z3,z4,z5⟩,_,_⟩:=FB.keep HB'.out k8;simp only[Nat.zero_add] at z1 z2 z3 z4 z5))
   all_goals
    go_wp2
    go_ret
    exact⟨by rw[EQ.out];rfl,k7⟩
 ·have t3:(((cnt s.op:Nat):Int)==0)=false:=by rw[beq_eq_false_iff_ne];omega
  have h0:s.op≠0:=fun e=>hc0 (by rw[e];rfl)
  have t0:(s.op==0)=false:=beq_eq_false_iff_ne.2 h0
  have EQ:Hid _:=HQ2.out
  rw[if_neg h0] at EQ
  have i1:(0:Int)≤((cnt s.op:Nat):Int):=by omega
  have i2:((cnt s.op:Nat):Int)≤(3:Int):=by omega
  have ka:=kept_alloc 0 0 w5 (.cells #[.int .i64 s.n,.int .i64 s.len,.int .i64 s.len] 3)
  have HB':Hid _:=HB.out.keep ka
  have HK':Hid _:=Kept.trans HK.out ka
  obtain⟨⟨x0,x1,x2,x3,x4,x5,x6,x7⟩,⟨y0,y1,y2,y3,y4,y5⟩,_,_⟩:=HB'.out
  simp only[Nat.zero_add] at x1 x2 x3 x4 x5 x6 x7 y1 y2 y3 y4 y5
  have HI3:Hid _:=is3 w5 s.n s.len s.len (cnt s.op) hc3
  clear ka
  go_wp2_with fail
  clear d0 d1 d2 d3 d4 d5 d6 d7 v0 v1 v2 v3 v4 v5
  have HSF:Hid (∀m,Calls Tryz.prog 101 #[(vlOf s).agg,.slice (some ⟨w5.heap.size,0,none⟩) (cnt s.op) 3] ((w5.alloc (.cells #[.int .i64 s.n,.int .i64 s.len,.int .i64 s.len] 3)).drewN m) fun e w'=>e=.returned (.bool (shapeB s.op s.len s.c ([s.n,s.len,s.len].take (cnt s.op))))∧Kept 0 0 w w'∧Kept 0 0 (w5.alloc (.cells #[.int .i64 s.n,.int .i64 s.len,.int .i64 s.len] 3)) w'):=fun m=>(shapeFits _ (vlOf s).op (vlOf s).len (vlOf s).a (vlOf s).b (vlOf s).c (vlOf s).k _ _ _ _ _ _ (IS.keep HI3.out (kept_drewN 0 0 _ m) (.inr (.inr (Nat.le_refl _)))) rfl).mono fun e w' h=>⟨h.1,Kept.trans HK'.out (Kept.trans (kept_drewN 0 0 _ m) h.2),Kept.trans (kept_drewN 0 0 _ m) h.2⟩
  generalize w5.alloc (.cells #[.int .i64 s.n,.int .i64 s.len,.int .i64 s.len] 3)=w6 at HB' HK' HI3 HSF x0 x1 x2 x3 x4 x5 x6 x7 y0 y1 y2 y3 y4 y5 ⊢
  clear hc0 t3 t0 h0 HQ2 HTC hc3 x0 x1 x2 x3 x4 x5 x6 x7 tl ts HI HS HC HF HL HI3 HK HB
  go_region_held3 (fun w'=>w'.cell? ⟨Q,0,none⟩=some (.int .i64 (vlOf s).op)∧w'.cell? ⟨Q,1,none⟩=some (.int .i64 (vlOf s).len)∧w'.cell? ⟨Q,2,none⟩=some (.int .i64 (vlOf s).a)∧w'.cell? ⟨Q,3,none⟩=some (.int .i64 (vlOf s).b)∧w'.cell? ⟨Q,4,none⟩=some (.int .i64 (vlOf s).c)∧w'.cell? ⟨Q,5,none⟩=some (.float .f64 (vlOf s).k)) (go_keep) (first|(go_at_call 101;refine Calls.mono (HSF.out 1) ?_;rintro e w7 ⟨rfl,k7,k8⟩;obtain⟨_,⟨z0,z1,z2,z3,z4,z5⟩,_,_⟩:=FB.keep HB'.out k8;simp only[Nat.zero_add] at z1 z2 z3 z4 z5))
  all_goals
   go_wp2
   go_ret
   exact⟨by rw[EQ.out];rfl,k7⟩
end Go.Proofs.YtgamjhpebmmjcaaGreatDoor
