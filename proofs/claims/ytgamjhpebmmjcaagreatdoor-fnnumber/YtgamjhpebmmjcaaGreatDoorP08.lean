import Derived.Test.YtgamjhpebmmjcaaGreatDoorP07
import Derived.Test.YtgamjhpebmmjcaaGreatDoorP05
import Derived.Deep.AppendSrc
import Derived.Test.YtgamjhpebmmjcaaGreatDoorP03
import Derived.Deep.RegionWith
import Derived.Deep.RegionHeld3
import Derived.Test.YtgamjhpebmmjcaaGreatDoorP06
import Derived.Shelf.Abstract
import Derived.Deep.DeepCutAuto
namespace Go.Proofs.YtgamjhpebmmjcaaGreatDoor
set_option maxRecDepth 100000
set_option maxHeartbeats 40000000
open Go.RowKit Flt
attribute [local go_sem] alloc_drewN setCell_drewN run_store_float
theorem VS.at_idx {w:World}{lo hi:Nat}{a:Option Addr}{n:Nat}{vs:List Vl}(f:VS w lo hi a n vs){i:Nat}(h:i<n):∃g off,a=some ⟨g,off,none⟩∧g<w.heap.size∧g<hi∧lo≤g∧At w g (off+i*6) (vs.getD i Vl.zero):=by
 rcases f.at_ with z|⟨g,off,e,z1,z2,z3,z4⟩
 ·omega
 ·exact⟨g,off,e,z3,z2,z1,z4 i h⟩
theorem IS.keepC {w w':World}{S:Nat→Prop}{lo hi:Nat}{a:Option Addr}{n:Nat}{xs:List Int}(f:IS w lo hi a n xs)(k:Chg S w w')(hd:∀g,lo≤g→g<hi→¬S g):IS w' lo hi a n xs:=
 ⟨f.len,by
  rcases f.at_ with z|⟨g,off,e,z1,z2,z3,z4⟩
  ·exact .inl z
  ·exact .inr ⟨g,off,e,z1,z2,Nat.lt_of_lt_of_le z3 k.size,fun j hj=>by rw[k.cell (p:=⟨g,off+j,none⟩) z3 (hd g z1 z2)];exact z4 j hj⟩⟩
theorem opsOf_fld (v:Vl){q:Nat}(hq:q<cnt v.op):(opsOf v).getD q 0=fld v q:=by
 have:=cnt_le v.op
 unfold opsOf
 rw[List.getD_eq_getElem?_getD,List.getElem?_take_of_lt hq]
 rcases (by omega:q=0∨q=1∨q=2) with rfl|rfl|rfl<;>rfl
theorem own_keepC {base e size n:Nat}{v:Value}{xs:List Value}{W W':World}{S:Nat→Prop}(o:W.ownsRow base e size v n xs)(k:Chg S W W')(hd:∀g,v.ownBlock=some g→¬S g):W'.ownsRow base e size v n xs:=by
 refine⟨o.1,o.2.imp id ?_⟩
 rintro⟨g,cap,cur,e1,b1,b2,b3⟩
 refine⟨g,cap,cur,e1,b1,?_,b3⟩
 have hg:g<W.heap.size:=by
  rcases Nat.lt_or_ge g W.heap.size with c|c
  ·exact c
  ·rw[Array.getElem?_eq_none c] at b2;cases b2
 rw[k.block g hg (hd g (by rw[e1];rfl))]
 exact b2
theorem chg_grow {w w':World}{row:Option Nat}(h:w.grownBy w' row):Chg (fun b=>row=some b) w w':=
 ⟨h.os,h.tape,h.output,h.size,fun k hk hn=>h.block k hk (fun c=>hn c.symm)⟩
theorem isO_take {outs:List Int}{i k:Nat}(hk:k<outs.length)(h:(outs.take k).any (fun o=>o==(i:Int))=false)(t:(outs.getD k 0==(i:Int))=false):(outs.take (k+1)).any (fun o=>o==(i:Int))=false:=by
 rw[List.take_succ_eq_append_getElem hk,List.any_append,h]
 rw[List.getD_eq_getElem?_getD,List.getElem?_eq_getElem hk] at t
 simpa using t
end Go.Proofs.YtgamjhpebmmjcaaGreatDoor
namespace Go.Proofs.YtgamjhpebmmjcaaGreatDoor
set_option maxRecDepth 100000
set_option maxHeartbeats 40000000
open Go.RowKit Flt
attribute [local go_sem] alloc_drewN setCell_drewN run_store_float
theorem add_addr (g off j:Nat):(⟨g,off,none⟩:Addr).add j=⟨g,off+j,none⟩:=by
 simp[Addr.add_lit]
end Go.Proofs.YtgamjhpebmmjcaaGreatDoor
namespace Go.Proofs.YtgamjhpebmmjcaaGreatDoor
set_option maxRecDepth 100000
set_option maxHeartbeats 40000000
open Go.RowKit Flt
def usesB (v:Vl)(i:Nat):Bool:=(List.range (cnt v.op)).any fun k=>fld v k==(i:Int)
def lastTo (vs:List Vl)(i:Nat):Nat→Int
 |0=>-1
 |m+1=>if usesB (vs.getD (i+1+m) Vl.zero) i=true then ((i+1+m:Nat):Int) else lastTo vs i m
def lastM (vs:List Vl)(outs:List Int)(i:Nat):Int:=if isO outs i=true then (vs.length:Int) else lastTo vs i (vs.length-(i+1))
def hitB (vs:List Vl)(outs:List Int)(ps:List Int)(i:Nat)(n a:Int)(j:Nat):Bool:=decide ((i:Int)≤lastM vs outs j)&&(decide (ps.getD j 0<a+n)&&decide (a<ps.getD j 0+(vs.getD j Vl.zero).len))
def freeB (vs:List Vl)(outs:List Int)(ps:List Int)(i:Nat)(n a:Int):Bool:=(List.range i).all fun j=>!hitB vs outs ps i n a j
def placeM (vs:List Vl)(outs:List Int)(ps:List Int)(i:Nat):Int:=(((List.range 60000).find? fun (a:Nat)=>freeB vs outs ps i (vs.getD i Vl.zero).len (a:Int)).getD 0:Nat)
def plTo (vs:List Vl)(outs:List Int):Nat→List Int
 |0=>[]
 |i+1=>plTo vs outs i++[placeM vs outs (plTo vs outs i) i]
theorem plTo_len (vs:List Vl)(outs:List Int):∀i,(plTo vs outs i).length=i
 |0=>rfl
 |i+1=>by rw[plTo,List.length_append,plTo_len vs outs i];rfl
theorem plTo_lt (vs:List Vl)(outs:List Int){i j:Nat}(h:j<i):(plTo vs outs (i+1)).getD j 0=(plTo vs outs i).getD j 0:=by
 rw[plTo,List.getD_eq_getElem?_getD,List.getElem?_append_left (by rw[plTo_len];exact h),←List.getD_eq_getElem?_getD]
theorem plTo_at (vs:List Vl)(outs:List Int)(i:Nat):(plTo vs outs (i+1)).getD i 0=placeM vs outs (plTo vs outs i) i:=by
 rw[plTo,List.getD_eq_getElem?_getD,List.getElem?_append_right (by rw[plTo_len];exact Nat.le_refl _),plTo_len,Nat.sub_self];rfl
theorem find_least {p:Nat→Bool}:∀{B a:Nat},a<B→p a=true→(∀b,b<a→p b=false)→(List.range B).find? p=some a:=fun {B a} h1 h2 h3=>by
 rw[List.find?_eq_some_iff_getElem]
 refine⟨h2,a,by simpa using h1,by simp,fun j hj=>?_⟩
 simp[h3 j hj]
theorem place_eq {vs:List Vl}{outs:List Int}{ps:List Int}{i:Nat}{a:Nat}(h:freeB vs outs ps i (vs.getD i Vl.zero).len (a:Int)=true)(hm:∀b:Nat,b<a→freeB vs outs ps i (vs.getD i Vl.zero).len (b:Int)=false)(ha:a<60000):placeM vs outs ps i=(a:Int):=by
 unfold placeM
 rw[find_least (p:=fun (a:Nat)=>freeB vs outs ps i (vs.getD i Vl.zero).len (a:Int)) ha h hm]
 rfl
def sumL (vs:List Vl):Nat→Int
 |0=>0
 |i+1=>sumL vs i+(vs.getD i Vl.zero).len
theorem sumL_mono {vs:List Vl}{n:Nat}(hl:∀k,k<n→1≤(vs.getD k Vl.zero).len){i j:Nat}(hij:i≤j)(hj:j≤n):sumL vs i≤sumL vs j:=by
 induction j with
 |zero=>obtain rfl:i=0:=by omega
        exact Int.le_refl _
 |succ j ih=>
  by_cases e:i=j+1
  ·subst e;exact Int.le_refl _
  ·have h1:=ih (by omega) (by omega)
   have h2:=hl j (by omega)
   rw[sumL];omega
theorem sumL_cells (vs:List Vl):∀i,i≤vs.length→sumL vs i=cellsV (vs.take i)
 |0,_=>by simp[sumL,cellsV]
 |i+1,h=>by rw[sumL,sumL_cells vs i (by omega),cellsV_take (by omega)]
theorem exists_least {p:Nat→Bool}:∀{B:Nat},p B=true→∃a,a≤B∧p a=true∧∀b,b<a→p b=false:=fun {B} h=>by
 induction B using Nat.strongRecOn with
 |ind B ih=>
  by_cases hb:∃b,b<B∧p b=true
  ·obtain⟨b,h1,h2⟩:=hb
   obtain⟨a,h3,h4,h5⟩:=ih b h1 h2
   exact⟨a,by omega,h4,h5⟩
  ·refine⟨B,Nat.le_refl _,h,fun b hlt=>?_⟩
   cases hp:p b
   ·rfl
   ·exact absurd ⟨b,hlt,hp⟩ hb
theorem pl_bound {vs:List Vl}{outs:List Int}{n:Nat}(hl:∀k,k<n→1≤(vs.getD k Vl.zero).len)(hs:sumL vs n≤50000):∀i,i≤n→∀j,j<i→0≤(plTo vs outs i).getD j 0∧(plTo vs outs i).getD j 0+(vs.getD j Vl.zero).len≤sumL vs (j+1):=fun i=>by
 induction i with
 |zero=>intro _ j hj;omega
 |succ i ih=>
  intro hi j hj
  by_cases e:j<i
  ·rw[plTo_lt _ _ e];exact ih (by omega) j e
  ·obtain rfl:j=i:=by omega
   have ih':=ih (by omega)
   have hs0:0≤sumL vs j:=by have:=sumL_mono hl (i:=0) (j:=j) (by omega) (by omega);simpa[sumL] using this
   have hsn:=sumL_mono hl (i:=j) (j:=n) (by omega) (by omega)
   obtain⟨S,hS⟩:=Int.eq_ofNat_of_zero_le hs0
   have hfree:freeB vs outs (plTo vs outs j) j (vs.getD j Vl.zero).len (S:Int)=true:=by
    unfold freeB
    rw[List.all_eq_true]
    intro q hq
    have hq':=List.mem_range.1 hq
    have h1:=ih' q hq'
    have h2:=sumL_mono hl (i:=q+1) (j:=j) (by omega) (by omega)
    unfold hitB
    rw[decide_eq_false (show ¬((S:Int)<(plTo vs outs j).getD q 0+(vs.getD q Vl.zero).len) by omega)]
    simp
   obtain⟨a,ha1,ha2,ha3⟩:=exists_least (p:=fun (a:Nat)=>freeB vs outs (plTo vs outs j) j (vs.getD j Vl.zero).len (a:Int)) hfree
   rw[plTo_at,place_eq ha2 ha3 (by omega),sumL]
   omega
theorem pl_least {vs:List Vl}{outs:List Int}{n:Nat}(hl:∀k,k<n→1≤(vs.getD k Vl.zero).len)(hs:sumL vs n≤50000){i:Nat}(hi:i<n):∃a:Nat,placeM vs outs (plTo vs outs i) i=a∧(a:Int)≤sumL vs i∧freeB vs outs (plTo vs outs i) i (vs.getD i Vl.zero).len (a:Int)=true∧∀b:Nat,b<a→freeB vs outs (plTo vs outs i) i (vs.getD i Vl.zero).len (b:Int)=false:=by
 have ih':=pl_bound (outs:=outs) hl hs i (by omega)
 have hs0:0≤sumL vs i:=by have:=sumL_mono hl (i:=0) (j:=i) (by omega) (by omega);simpa[sumL] using this
 have hsn:=sumL_mono hl (i:=i) (j:=n) (by omega) (by omega)
 obtain⟨S,hS⟩:=Int.eq_ofNat_of_zero_le hs0
 have hfree:freeB vs outs (plTo vs outs i) i (vs.getD i Vl.zero).len (S:Int)=true:=by
  unfold freeB
  rw[List.all_eq_true]
  intro q hq
  have hq':=List.mem_range.1 hq
  have h1:=ih' q hq'
  have h2:=sumL_mono hl (i:=q+1) (j:=i) (by omega) (by omega)
  unfold hitB
  rw[decide_eq_false (show ¬((S:Int)<(plTo vs outs i).getD q 0+(vs.getD q Vl.zero).len) by omega)]
  simp
 obtain⟨a,ha1,ha2,ha3⟩:=exists_least (p:=fun (a:Nat)=>freeB vs outs (plTo vs outs i) i (vs.getD i Vl.zero).len (a:Int)) hfree
 exact⟨a,place_eq ha2 ha3 (by omega),by omega,ha2,ha3⟩
end Go.Proofs.YtgamjhpebmmjcaaGreatDoor
namespace Go.Proofs.YtgamjhpebmmjcaaGreatDoor
set_option maxRecDepth 100000
set_option maxHeartbeats 40000000
open Go.RowKit Flt
def inS (s:Spn)(c:Int):Prop:=s.off≤c∧c<s.off+s.len
def RunsF:Int→List Spn→Prop
 |_,[]=>True
 |lo,s::r=>lo≤s.off∧1≤s.len∧RunsF (s.off+s.len+1) r
theorem RunsF.mono {lo lo':Int}(h:lo'≤lo):∀{l:List Spn},RunsF lo l→RunsF lo' l
 |[],_=>trivial
 |_::_,f=>⟨Int.le_trans h f.1,f.2.1,f.2.2⟩
theorem RunsF.mem {lo:Int}:∀{l:List Spn},RunsF lo l→∀s∈l,lo≤s.off∧1≤s.len
 |[],_,_,h=>by cases h
 |t::r,f,s,h=>by
  rcases List.mem_cons.1 h with rfl|h
  ·exact⟨f.1,f.2.1⟩
  ·have:=RunsF.mem f.2.2 s h
   have:=f.1
   have:=f.2.1
   omega
structure FL (N:Int)(l:List Spn)(H:Int→Prop):Prop where
 runs:RunsF 0 l
 free:∀c,0≤c→c<N→(¬H c↔∃s∈l,inS s c)
 top:∀s∈l,s.off+s.len≤N
theorem run_one {lo:Int}:∀{l:List Spn},RunsF lo l→∀{a:Int} {n:Nat},(∀k:Nat,k≤n→∃s∈l,inS s (a+k))→∃s∈l,s.off≤a∧a+n<s.off+s.len
 |[],_,a,n,h=>by
  obtain⟨s,hs,_⟩:=h 0 (Nat.zero_le _)
  cases hs
 |t::r,f,a,n,h=>by
  by_cases c:inS t a
  ·refine⟨t,List.mem_cons_self,c.1,?_⟩
   have key:∀k:Nat,k≤n→a+k<t.off+t.len:=by
    intro k
    induction k with
    |zero=>intro _;have:=c.2;omega
    |succ k ih=>
     intro hk
     have h1:=ih (by omega)
     obtain⟨s,hs,h2⟩:=h (k+1) hk
     rcases List.mem_cons.1 hs with rfl|hs
     ·have:=h2.2;omega
     ·have h3:=RunsF.mem f.2.2 s hs
      have h4:=h2.1
      omega
   have:=key n (Nat.le_refl _)
   omega
  ·by_cases c2:t.off+t.len≤a
   ·obtain⟨s,hs,h1,h2⟩:=run_one f.2.2 (a:=a) (n:=n) (fun k hk=>by
     obtain⟨s,hs,h2⟩:=h k hk
     rcases List.mem_cons.1 hs with rfl|hs
     ·have:=h2.2;omega
     ·exact⟨s,hs,h2⟩)
    exact⟨s,List.mem_cons_of_mem _ hs,h1,h2⟩
   ·
    obtain⟨s,hs,h2⟩:=h 0 (Nat.zero_le _)
    have h20:inS s a:=by
     have e:a+((0:Nat):Int)=a:=by omega
     rw[e] at h2;exact h2
    rcases List.mem_cons.1 hs with rfl|hs
    ·exact absurd h20 c
    ·have h3:=RunsF.mem f.2.2 s hs
     have h4:=h20.1
     unfold inS at c
     omega
theorem runs_lt {lo:Int}:∀{l:List Spn},RunsF lo l→∀{i j:Nat},i<j→j<l.length→(l.getD i Spn.zero).off+(l.getD i Spn.zero).len<(l.getD j Spn.zero).off
 |[],_,i,j,_,hj=>by simp at hj
 |t::r,f,0,j+1,_,hj=>by
  have hj':j<r.length:=by simpa using hj
  have hm:r.getD j Spn.zero∈r:=by
   rw[List.getD_eq_getElem?_getD,List.getElem?_eq_getElem hj'];exact List.getElem_mem _
  have h:=RunsF.mem f.2.2 _ hm
  show t.off+t.len<(r.getD j Spn.zero).off
  omega
 |t::r,f,i+1,j+1,hij,hj=>runs_lt f.2.2 (i:=i) (j:=j) (by omega) (by simpa using hj)
def firstFit (n:Int):List Spn→Option Nat
 |[]=>none
 |s::r=>if n≤s.len then some 0 else (firstFit n r).map (· +1)
theorem fit_some {n:Int}:∀{l:List Spn} {k:Nat},firstFit n l=some k→k<l.length∧n≤(l.getD k Spn.zero).len∧∀j,j<k→(l.getD j Spn.zero).len<n
 |[],k,h=>by cases h
 |s::r,k,h=>by
  unfold firstFit at h
  by_cases c:n≤s.len
  ·rw[if_pos c] at h
   injection h with h
   subst h
   exact⟨by simp,c,fun j hj=>by omega⟩
  ·rw[if_neg c] at h
   cases hr:firstFit n r with
   |none=>rw[hr] at h;cases h
   |some q=>
    rw[hr] at h
    simp only[Option.map_some] at h
    injection h with h
    subst h
    obtain⟨h1,h2,h3⟩:=fit_some hr
    refine⟨by simpa using h1,h2,fun j hj=>?_⟩
    cases j with
    |zero=>show s.len<n;omega
    |succ j=>exact h3 j (by omega)
theorem fit_none {n:Int}:∀{l:List Spn},firstFit n l=none→∀s∈l,s.len<n
 |[],_,s,hs=>by cases hs
 |t::r,h,s,hs=>by
  unfold firstFit at h
  by_cases c:n≤t.len
  ·rw[if_pos c] at h;cases h
  ·rw[if_neg c] at h
   have hr:firstFit n r=none:=by
    cases hr:firstFit n r with
    |none=>rfl
    |some q=>rw[hr] at h;cases h
   rcases List.mem_cons.1 hs with rfl|hs
   ·omega
   ·exact fit_none hr s hs
theorem fit_least {N:Int}{l:List Spn}{H:Int→Prop}(f:FL N l H){n:Nat}(hn:1≤n){k:Nat}(hk:firstFit n l=some k):
  (∀c,(l.getD k Spn.zero).off≤c→c<(l.getD k Spn.zero).off+n→¬H c)∧∀a:Int,0≤a→a+n≤N→(∀c,a≤c→c<a+n→¬H c)→(l.getD k Spn.zero).off≤a:=by
 obtain⟨h1,h2,h3⟩:=fit_some hk
 have hm:l.getD k Spn.zero∈l:=by
  rw[List.getD_eq_getElem?_getD,List.getElem?_eq_getElem h1];exact List.getElem_mem _
 have hr:=RunsF.mem f.runs _ hm
 have ht:=f.top _ hm
 refine⟨fun c c1 c2=>(f.free c (by omega) (by omega)).2 ⟨_,hm,c1,by omega⟩,fun a ha1 ha2 ha3=>?_⟩
 obtain⟨s,hs,g1,g2⟩:=run_one f.runs (a:=a) (n:=n-1) (fun q hq=>(f.free (a+q) (by omega) (by omega)).1 (ha3 (a+q) (by omega) (by omega)))
 obtain⟨j,hj,e⟩:=List.getElem_of_mem hs
 have e':l.getD j Spn.zero=s:=by rw[List.getD_eq_getElem?_getD,List.getElem?_eq_getElem hj];exact e
 rcases Nat.lt_trichotomy j k with c|c|c
 ·have:=h3 j c
  rw[e'] at this
  omega
 ·subst c
  rw[e'];omega
 ·have:=runs_lt f.runs c hj
  rw[e'] at this
  omega
theorem fit_there {N:Int}{l:List Spn}{H:Int→Prop}(f:FL N l H){n:Nat}(hn:1≤n){a:Int}(ha1:0≤a)(ha2:a+n≤N)(ha3:∀c,a≤c→c<a+n→¬H c):∃k,firstFit n l=some k:=by
 obtain⟨s,hs,g1,g2⟩:=run_one f.runs (a:=a) (n:=n-1) (fun q hq=>(f.free (a+q) (by omega) (by omega)).1 (ha3 (a+q) (by omega) (by omega)))
 cases hk:firstFit n l with
 |some k=>exact⟨k,rfl⟩
 |none=>
  have:=fit_none hk s hs
  omega
end Go.Proofs.YtgamjhpebmmjcaaGreatDoor
namespace Go.Proofs.YtgamjhpebmmjcaaGreatDoor
set_option maxRecDepth 100000
set_option maxHeartbeats 40000000
open Go.RowKit Flt
def lastE (lo:Int):List Spn→Int
 |[]=>lo
 |s::r=>lastE (s.off+s.len+1) r
theorem runs_app {lo:Int}:∀(p q:List Spn),RunsF lo (p++q)↔RunsF lo p∧RunsF (lastE lo p) q
 |[],q=>by simp[RunsF,lastE]
 |s::r,q=>by
  have ih:=runs_app (lo:=s.off+s.len+1) r q
  constructor
  ·intro h
   have h':lo≤s.off∧1≤s.len∧RunsF (s.off+s.len+1) (r++q):=h
   exact⟨⟨h'.1,h'.2.1,(ih.1 h'.2.2).1⟩,(ih.1 h'.2.2).2⟩
  ·intro h
   have h1:lo≤s.off∧1≤s.len∧RunsF (s.off+s.len+1) r:=h.1
   show lo≤s.off∧1≤s.len∧RunsF (s.off+s.len+1) (r++q)
   exact⟨h1.1,h1.2.1,ih.2 ⟨h1.2.2,h.2⟩⟩
theorem lastE_app {lo:Int}:∀(p:List Spn) (s:Spn),lastE lo (p++[s])=s.off+s.len+1
 |[],_=>rfl
 |_::r,s=>lastE_app r s
def cutS (s:Spn)(n:Int):List Spn:=if n<s.len then[⟨s.off+n,s.len-n⟩] else[]
theorem fl_take {N:Int}{p r:List Spn}{s:Spn}{H:Int→Prop}(f:FL N (p++s::r) H){n:Int}(hn:1≤n)(hs:n≤s.len):FL N (p++cutS s n++r) (fun c=>H c∨(s.off≤c∧c<s.off+n)):=by
 have hruns:=(runs_app p (s::r)).1 f.runs
 obtain⟨hp,h1,h2,h3⟩:=hruns
 have hsm:s∈p++s::r:=List.mem_append_right _ List.mem_cons_self
 have htop:=f.top s hsm
 refine⟨?_,?_,?_⟩
 ·rw[List.append_assoc,runs_app]
  refine⟨hp,?_⟩
  unfold cutS
  split
  ·refine⟨?_,?_,?_⟩
   ·show lastE 0 p≤s.off+n;omega
   ·show 1≤s.len-n;omega
   ·have e:(s.off+n)+(s.len-n)+1=s.off+s.len+1:=by omega
    show RunsF ((s.off+n)+(s.len-n)+1) r
    rw[e];exact h3
  ·exact RunsF.mono (by omega) h3
 ·intro c c0 cN
  have hf:=f.free c c0 cN
  constructor
  ·intro hh
   have hH:¬H c:=fun h=>hh (.inl h)
   have hns:¬(s.off≤c∧c<s.off+n):=fun h=>hh (.inr h)
   obtain⟨t,ht,hc⟩:=hf.1 hH
   rcases List.mem_append.1 ht with ht|ht
   ·exact⟨t,List.mem_append_left _ (List.mem_append_left _ ht),hc⟩
   ·rcases List.mem_cons.1 ht with rfl|ht
    ·have:=hc.1
     have:=hc.2
     refine⟨⟨t.off+n,t.len-n⟩,List.mem_append_left _ (List.mem_append_right _ ?_),?_⟩
     ·unfold cutS
      rw[if_pos (by omega)]
      exact List.mem_singleton.2 rfl
     ·unfold inS
      simp only
      omega
    ·exact⟨t,List.mem_append_right _ ht,hc⟩
  ·rintro⟨t,ht,hc⟩ hh
   have key:∃t',t'∈p++s::r∧inS t' c:=by
    rcases List.mem_append.1 ht with ht|ht
    ·rcases List.mem_append.1 ht with ht|ht
     ·exact⟨t,List.mem_append_left _ ht,hc⟩
     ·unfold cutS at ht
      split at ht
      ·rw[List.mem_singleton] at ht
       subst ht
       refine⟨s,hsm,?_⟩
       unfold inS at hc ⊢
       simp only at hc
       omega
      ·cases ht
    ·exact⟨t,List.mem_append_right _ (List.mem_cons_of_mem _ ht),hc⟩
   rcases hh with hh|hh
   ·exact(hf.2 key) hh
   ·rcases List.mem_append.1 ht with ht|ht
    ·rcases List.mem_append.1 ht with ht|ht
     ·
      have e:∀(q:List Spn) (lo:Int),RunsF lo q→t∈q→t.off+t.len+1≤lastE lo q:=by
       intro q
       induction q with
       |nil=>intro lo _ hm;cases hm
       |cons u v ih=>
        intro lo hr hm
        rcases List.mem_cons.1 hm with rfl|hm
        ·show t.off+t.len+1≤lastE (t.off+t.len+1) v
         have mono:∀(q:List Spn) (lo:Int),RunsF lo q→lo≤lastE lo q:=by
          intro q
          induction q with
          |nil=>intro lo _;exact Int.le_refl _
          |cons a b ih2=>
           intro lo h
           have h1:=ih2 _ h.2.2
           have h2:=h.1
           have h3:=h.2.1
           show lo≤lastE (a.off+a.len+1) b
           omega
         exact mono v _ hr.2.2
        ·exact ih _ hr.2.2 hm
      have:=e p 0 hp ht
      have:=hc.2
      omega
     ·unfold cutS at ht
      split at ht
      ·rw[List.mem_singleton] at ht
       subst ht
       unfold inS at hc
       simp only at hc
       omega
      ·cases ht
    ·have:=RunsF.mem h3 t ht
     have:=hc.1
     omega
 ·intro t ht
  rcases List.mem_append.1 ht with ht|ht
  ·rcases List.mem_append.1 ht with ht|ht
   ·exact f.top t (List.mem_append_left _ ht)
   ·unfold cutS at ht
    split at ht
    ·rw[List.mem_singleton] at ht
     subst ht
     show(s.off+n)+(s.len-n)≤N
     omega
    ·cases ht
  ·exact f.top t (List.mem_append_right _ (List.mem_cons_of_mem _ ht))
def joinF (s:Spn):List Spn→List Spn
 |[]=>[s]
 |t::r=>if s.off+s.len=t.off then⟨s.off,s.len+t.len⟩::r else s::t::r
def relF (p:List Spn)(x:Spn)(r:List Spn):List Spn:=
 match p.getLast? with
 |some q=>if q.off+q.len=x.off then p.dropLast++(match joinF x r with|[]=>[]|y::r'=>⟨q.off,q.len+y.len⟩::r') else p++joinF x r
 |none=>joinF x r
theorem joinF_pos {x t:Spn}{r:List Spn}(e:x.off+x.len=t.off):joinF x (t::r)=⟨x.off,x.len+t.len⟩::r:=by
 show(if x.off+x.len=t.off then _ else _)=_
 rw[if_pos e]
theorem joinF_neg {x t:Spn}{r:List Spn}(e:¬x.off+x.len=t.off):joinF x (t::r)=x::t::r:=by
 show(if x.off+x.len=t.off then _ else _)=_
 rw[if_neg e]
theorem joinF_runs {lo:Int}{x:Spn}{r:List Spn}(h0:lo≤x.off)(h1:1≤x.len)(hr:RunsF (x.off+x.len) r):RunsF lo (joinF x r):=by
 cases r with
 |nil=>exact⟨h0,h1,trivial⟩
 |cons t r=>
  have hr':x.off+x.len≤t.off∧1≤t.len∧RunsF (t.off+t.len+1) r:=hr
  show RunsF lo (if x.off+x.len=t.off then⟨x.off,x.len+t.len⟩::r else x::t::r)
  by_cases e:x.off+x.len=t.off
  ·rw[if_pos e]
   refine⟨h0,?_,?_⟩
   ·show 1≤x.len+t.len
    omega
   ·have e2:x.off+(x.len+t.len)+1=t.off+t.len+1:=by omega
    show RunsF (x.off+(x.len+t.len)+1) r
    rw[e2];exact hr'.2.2
  ·rw[if_neg e]
   exact⟨h0,h1,by omega,hr'.2.1,hr'.2.2⟩
theorem joinF_cells {x:Spn}{r:List Spn}(hx:1≤x.len)(hr:RunsF (x.off+x.len) r)(c:Int):(∃s∈joinF x r,inS s c)↔inS x c∨∃s∈r,inS s c:=by
 cases r with
 |nil=>simp[joinF]
 |cons t r=>
  have hr':x.off+x.len≤t.off∧1≤t.len∧RunsF (t.off+t.len+1) r:=hr
  show(∃s∈(if x.off+x.len=t.off then⟨x.off,x.len+t.len⟩::r else x::t::r),inS s c)↔_
  by_cases e:x.off+x.len=t.off
  ·rw[if_pos e]
   simp only[List.mem_cons,exists_eq_or_imp]
   have k:inS ⟨x.off,x.len+t.len⟩ c↔inS x c∨inS t c:=by
    unfold inS;simp only;omega
   rw[k,or_assoc]
  ·rw[if_neg e]
   simp only[List.mem_cons,exists_eq_or_imp]
theorem joinF_form (x:Spn)(r:List Spn):∃y r',joinF x r=y::r'∧y.off=x.off:=by
 cases r with
 |nil=>exact⟨x,[],rfl,rfl⟩
 |cons t r=>
  by_cases e:x.off+x.len=t.off
  ·rw[joinF_pos e];exact⟨_,_,rfl,rfl⟩
  ·rw[joinF_neg e];exact⟨_,_,rfl,rfl⟩
theorem joinF_top {N:Int}{x:Spn}{r:List Spn}(h:x.off+x.len≤N)(hr:∀s∈r,s.off+s.len≤N):∀s∈joinF x r,s.off+s.len≤N:=by
 cases r with
 |nil=>intro s hs;simp[joinF] at hs;subst hs;exact h
 |cons t r=>
  have ht:=hr t List.mem_cons_self
  by_cases e:x.off+x.len=t.off
  ·rw[joinF_pos e]
   intro s hs
   rcases List.mem_cons.1 hs with rfl|hs
   ·show x.off+(x.len+t.len)≤N;omega
   ·exact hr s (List.mem_cons_of_mem _ hs)
  ·rw[joinF_neg e]
   intro s hs
   rcases List.mem_cons.1 hs with rfl|hs
   ·exact h
   ·exact hr s hs
theorem RunsF.from {lo b:Int}{r:List Spn}(h:RunsF lo r)(hb:∀s∈r,b≤s.off):RunsF b r:=by
 cases r with
 |nil=>trivial
 |cons t r=>exact⟨hb t List.mem_cons_self,h.2.1,h.2.2⟩
theorem fl_release {N:Int}{p r:List Spn}{x:Spn}{H:Int→Prop}(f:FL N (p++r) H)(h1:1≤x.len)(h0:0≤x.off)(hN:x.off+x.len≤N)(hx:∀c,inS x c→H c)(hp:∀s∈p,s.off<x.off)(hr:∀s∈r,x.off≤s.off):FL N (relF p x r) (fun c=>H c∧¬inS x c):=by
 have hruns:=(runs_app p r).1 f.runs
 have hall:=RunsF.mem f.runs
 have hfree:∀s∈p++r,∀c,inS s c→¬inS x c:=fun s hs c hc hxc=>by
  have h2:=hall s hs
  have h3:=f.top s hs
  unfold inS at hc
  exact(f.free c (by omega) (by omega)).2 ⟨s,hs,hc⟩ (hx c hxc)
 have hrx:RunsF (x.off+x.len) r:=RunsF.from hruns.2 (fun s hs=>by
  have h2:=hall s (List.mem_append_right _ hs)
  have h3:=hr s hs
  have h4:=hfree s (List.mem_append_right _ hs) s.off ⟨Int.le_refl _,by omega⟩
  unfold inS at h4
  omega)
 have hpx:∀s∈p,s.off+s.len≤x.off:=fun s hs=>by
  have h2:=hall s (List.mem_append_left _ hs)
  have h3:=hp s hs
  by_cases c:s.off+s.len≤x.off
  ·exact c
  ·exact absurd (⟨by omega,by omega⟩:inS x x.off) (hfree s (List.mem_append_left _ hs) x.off ⟨by omega,by omega⟩)
 have htr:∀s∈r,s.off+s.len≤N:=fun s hs=>f.top s (List.mem_append_right _ hs)
 have cells:∀c,0≤c→c<N→(¬(H c∧¬inS x c)↔inS x c∨∃s∈p++r,inS s c):=fun c c0 cN=>by
  have hf:=f.free c c0 cN
  constructor
  ·intro h
   by_cases hi:inS x c
   ·exact .inl hi
   ·exact .inr (hf.1 fun hh=>h ⟨hh,hi⟩)
  ·rintro (h|h) ⟨h3,h4⟩
   ·exact h4 h
   ·exact hf.2 h h3
 rcases List.eq_nil_or_concat p with rfl|⟨p',q,rfl⟩
 ·show FL N (joinF x r) _
  refine⟨joinF_runs h0 h1 hrx,fun c c0 cN=>?_,joinF_top hN htr⟩
  rw[cells c c0 cN,joinF_cells h1 hrx]
  simp
 ·rw[List.concat_eq_append] at*
  have hq:q∈p'++[q]:=List.mem_append_right _ (List.mem_singleton.2 rfl)
  have hqx:=hpx q hq
  have hq1:=(hall q (List.mem_append_left _ hq)).2
  obtain⟨hp',hq2,_,_⟩:=(runs_app p' [q]).1 hruns.1
  have e:relF (p'++[q]) x r=if q.off+q.len=x.off then p'++(match joinF x r with|[]=>[]|y::r'=>⟨q.off,q.len+y.len⟩::r') else p'++[q]++joinF x r:=by
   unfold relF
   rw[List.getLast?_append]
   simp
  rw[e]
  by_cases c:q.off+q.len=x.off
  ·rw[if_pos c]
   obtain⟨y,r',ej,ey⟩:=joinF_form x r
   rw[ej]
   have hj:=joinF_runs (lo:=x.off) (Int.le_refl _) h1 hrx
   have hjt:=joinF_top hN htr
   have hjc:=joinF_cells h1 hrx
   rw[ej] at hj hjt hjc
   have hj':x.off≤y.off∧1≤y.len∧RunsF (y.off+y.len+1) r':=hj
   refine⟨?_,fun d d0 dN=>?_,?_⟩
   ·rw[runs_app]
    refine⟨hp',hq2,?_,?_⟩
    ·show 1≤q.len+y.len;omega
    ·have e2:q.off+(q.len+y.len)+1=y.off+y.len+1:=by omega
     show RunsF (q.off+(q.len+y.len)+1) r'
     rw[e2];exact hj'.2.2
   ·rw[cells d d0 dN]
    have k:inS ⟨q.off,q.len+y.len⟩ d↔inS q d∨inS y d:=by
     unfold inS;simp only;omega
    have kj:=hjc d
    simp only[List.mem_cons,exists_eq_or_imp] at kj
    simp only[List.mem_append,List.mem_cons,List.not_mem_nil,or_false]
    constructor
    ·rintro (h|⟨t,ht,hc⟩)
     ·rcases kj.2 (.inl h) with h|⟨t,ht,hc⟩
      ·exact⟨_,.inr (.inl rfl),k.2 (.inr h)⟩
      ·exact⟨t,.inr (.inr ht),hc⟩
     ·rcases ht with (ht|ht)|ht
      ·exact⟨t,.inl ht,hc⟩
      ·subst ht
       exact⟨_,.inr (.inl rfl),k.2 (.inl hc)⟩
      ·rcases kj.2 (.inr ⟨t,ht,hc⟩) with h|⟨t',ht',hc'⟩
       ·exact⟨_,.inr (.inl rfl),k.2 (.inr h)⟩
       ·exact⟨t',.inr (.inr ht'),hc'⟩
    ·rintro⟨t,ht|ht|ht,hc⟩
     ·exact .inr ⟨t,.inl (.inl ht),hc⟩
     ·subst ht
      rcases k.1 hc with h|h
      ·exact .inr ⟨q,.inl (.inr rfl),h⟩
      ·rcases kj.1 (.inl h) with h|⟨t',ht',hc'⟩
       ·exact .inl h
       ·exact .inr ⟨t',.inr ht',hc'⟩
     ·rcases kj.1 (.inr ⟨t,ht,hc⟩) with h|⟨t',ht',hc'⟩
      ·exact .inl h
      ·exact .inr ⟨t',.inr ht',hc'⟩
   ·intro t ht
    rcases List.mem_append.1 ht with ht|ht
    ·exact f.top t (List.mem_append_left _ (List.mem_append_left _ ht))
    ·rcases List.mem_cons.1 ht with rfl|ht
     ·have:=hjt y List.mem_cons_self
      show q.off+(q.len+y.len)≤N
      omega
     ·exact hjt t (List.mem_cons_of_mem _ ht)
  ·rw[if_neg c]
   refine⟨?_,fun d d0 dN=>?_,?_⟩
   ·rw[runs_app,lastE_app]
    exact⟨hruns.1,joinF_runs (by omega) h1 hrx⟩
   ·rw[cells d d0 dN]
    have kj:=joinF_cells h1 hrx d
    constructor
    ·rintro (h|⟨t,ht,hc⟩)
     ·obtain⟨t,ht,hc⟩:=kj.2 (.inl h)
      exact⟨t,List.mem_append_right _ ht,hc⟩
     ·rcases List.mem_append.1 ht with ht|ht
      ·exact⟨t,List.mem_append_left _ ht,hc⟩
      ·obtain⟨t',ht',hc'⟩:=kj.2 (.inr ⟨t,ht,hc⟩)
       exact⟨t',List.mem_append_right _ ht',hc'⟩
    ·rintro⟨t,ht,hc⟩
     rcases List.mem_append.1 ht with ht|ht
     ·exact .inr ⟨t,List.mem_append_left _ ht,hc⟩
     ·rcases kj.1 ⟨t,ht,hc⟩ with h|⟨t',ht',hc'⟩
      ·exact .inl h
      ·exact .inr ⟨t',List.mem_append_right _ ht',hc'⟩
   ·intro t ht
    rcases List.mem_append.1 ht with ht|ht
    ·exact f.top t (List.mem_append_left _ ht)
    ·exact joinF_top hN htr t ht
end Go.Proofs.YtgamjhpebmmjcaaGreatDoor
namespace Go.Proofs.YtgamjhpebmmjcaaGreatDoor
set_option maxRecDepth 100000
set_option maxHeartbeats 40000000
open Go.RowKit Flt
attribute [local go_sem] alloc_drewN setCell_drewN run_store_float
def cmpI (x y:Int):Int:=if x<y then -1 else if y<x then 1 else 0
theorem isNaNi (x:Int)(w:World):Calls Tryz.prog 144 #[.int .i64 x] w fun e w'=>e=.returned (.bool false)∧w'=w:=by
 have h:(x !=x)=false:=by simp
 go_enter Tryz.func144,Tryz.ntmps144
 go_wp2
 go_ret
 exact⟨rfl,rfl⟩
theorem cmpInt (x y:Int)(w:World):Calls Tryz.prog 117 #[.int .i64 x,.int .i64 y] w fun e w'=>e=.returned (.int .i64 (cmpI x y))∧w'=w:=by
 have HN:Hid (∀x w,_):=fun x w=>isNaNi x w
 rcases Int.lt_trichotomy x y with h|h|h
 ·rw[show cmpI x y=-1 by unfold cmpI;rw[if_pos h]]
  go_enter Tryz.func117,Tryz.ntmps117
  go_wp2_with (first|(go_at_call 144;refine Calls.mono (HN.out _ _) ?_;rintro e w2 ⟨rfl,rfl⟩)|fail)
  go_ret
  exact⟨rfl,rfl⟩
 ·subst h
  rw[show cmpI x x=0 by unfold cmpI;rw[if_neg (by omega),if_neg (by omega)]]
  have h1:¬x<x:=by omega
  go_enter Tryz.func117,Tryz.ntmps117
  go_wp2_with (first|(go_at_call 144;refine Calls.mono (HN.out _ _) ?_;rintro e w2 ⟨rfl,rfl⟩)|fail)
  go_ret
  exact⟨rfl,rfl⟩
 ·rw[show cmpI x y=1 by unfold cmpI;rw[if_neg (by omega),if_pos h]]
  have h1:¬x<y:=by omega
  go_enter Tryz.func117,Tryz.ntmps117
  go_wp2_with (first|(go_at_call 144;refine Calls.mono (HN.out _ _) ?_;rintro e w2 ⟨rfl,rfl⟩)|fail)
  go_ret
  exact⟨rfl,rfl⟩
theorem byOff (s t:Spn)(w:World):Calls Tryz.prog 116 #[s.agg,t.agg] w fun e w'=>e=.returned (.int .i64 (cmpI s.off t.off))∧Kept 0 0 w w':=by
 have HC:Hid (∀w,_):=fun w=>cmpInt s.off t.off w
 have k:=(kept_alloc 0 0 w s.box).trans (kept_alloc 0 0 _ t.box)
 go_enter Tryz.func116,Tryz.ntmps116
 go_wp2_with fail
 refine Calls.mono (HC.out _) ?_
 rintro e w2 ⟨rfl,rfl⟩
 go_wp2_with fail
 go_ret
 exact⟨rfl,k⟩
theorem longF (s:Spn)(w:World)(g:Nat)(n:Int)(hg:g<w.heap.size)(hc:w.cell? ⟨g,0,none⟩=some (.int .i64 n)):Calls Tryz.prog 119 #[s.agg,.pointer (some ⟨g,0,none⟩)] w fun e w'=>e=.returned (.bool (decide (n≤s.len)))∧Kept 0 0 w w':=by
 have k:=kept_alloc 0 0 w s.box
 have hc2:(w.alloc s.box).cell? ⟨g,0,none⟩=some (.int .i64 n):=by rw[k.cell (p:=⟨g,0,none⟩) hg (by omega)];exact hc
 go_enter Tryz.func119,Tryz.ntmps119
 go_wp2_with fail
 go_ret
 exact⟨rfl,k⟩
theorem indexF (w:World)(lo hi:Nat)(a:Option Addr)(m c:Nat)(l:List Spn)(g:Nat)(n:Int)(hg:g<w.heap.size)(hc:w.cell? ⟨g,0,none⟩=some (.int .i64 n))(f:PS w lo hi a m l)(hm:m≤1000000)(k:Nat)(hk:firstFit n l=some k):
  Calls Tryz.prog 121 #[.slice a m c,.func (.func 119) #[] #[.pointer (some ⟨g,0,none⟩)]] w fun e w'=>e=.returned (.int .i64 (k:Int))∧Kept 0 0 w w':=by
 obtain⟨h1,h2,h3⟩:=fit_some hk
 have HF:Hid _:=f
 have HC:Hid _:=hc
 have HL:Hid (l.length=m):=f.len
 have hkm:k<m:=by rw[f.len] at h1;exact h1
 have HH:Hid (n≤(l.getD k Spn.zero).len∧∀j,j<k→(l.getD j Spn.zero).len<n):=⟨h2,h3⟩
 clear f hc h1 h2 h3 hk
 go_enter Tryz.func121,Tryz.ntmps121
 go_wp2_with fail
 go_loopw [8] (fun i W=>∃j:Nat,j≤k∧i=.int .i64 j∧Hid (Kept 0 0 w W)) (fun i _=>m-(intOf i).toNat)
 case atStart=>exact⟨0,Nat.zero_le _,rfl,Kept.refl _ _ _⟩
 case round=>
  obtain⟨j,hj,rfl,hK⟩:=hrel
  have hjm:j<m:=by omega
  rcases (HF.out.keep hK.out (.inr (.inr (Nat.le_refl _)))).at_ with z|⟨ga,off,rfl,z1,z2,z3,z4⟩
  ·omega
  have hat:=z4 j hjm
  have HG:Hid (g<wr.heap.size∧wr.cell? ⟨g,0,none⟩=some (.int .i64 n)):=⟨Nat.lt_of_lt_of_le hg hK.out.size,by rw[hK.out.cell (p:=⟨g,0,none⟩) hg (by omega)];exact HC.out⟩
  by_cases he:j=k
  ·subst he
   have hl:=HH.out.1
   generalize l.getD j Spn.zero=s at hat hl
   have HX:Hid _:=longF s wr g n HG.out.1 HG.out.2
   rw[decide_eq_true hl] at HX
   obtain⟨y0,y1⟩:=hat
   clear z1 z2 z3 z4 hl
   go_wp2_with fail
   refine Calls.mono HX.out ?_
   rintro e w2 ⟨rfl,k2⟩
   have R:Hid _:=hK.out.trans k2
   clear k2 y0 y1
   go_wp2_with fail
   go_ret
   exact⟨rfl,R.out⟩
  ·have hl:=HH.out.2 j (by omega)
   generalize l.getD j Spn.zero=s at hat hl
   have HX:Hid _:=longF s wr g n HG.out.1 HG.out.2
   rw[decide_eq_false (by omega)] at HX
   obtain⟨y0,y1⟩:=hat
   clear z1 z2 z3 z4 hl
   go_wp2_with fail
   refine Calls.mono HX.out ?_
   rintro e w2 ⟨rfl,k2⟩
   have R:Hid _:=hK.out.trans k2
   clear k2 y0 y1
   go_wp2_with fail
   go_roundw
   case rel=>exact⟨j+1,by omega,by go_num,R⟩
   case measure=>simp[intOf];omega
end Go.Proofs.YtgamjhpebmmjcaaGreatDoor
namespace Go.Proofs.YtgamjhpebmmjcaaGreatDoor
set_option maxRecDepth 100000
set_option maxHeartbeats 40000000
open Go.RowKit Flt
attribute [local go_sem] alloc_drewN setCell_drewN run_store_float
def prtM (i:Int)(v:Vl)(la:Int)(k:Nat)(d:Int)(N:Nat):List Vl×Int:=
 if v.op=2 then ([],d)
 else if v.op=3 then (if k=0 then ([],d) else ([vput 6 v.len d 0 0],N))
 else if v.op=4 then (if k=0 then ([vput 4 v.len d v.b 0],N) else ([vput 4 v.len d v.a 0],N))
 else if v.op=5 then (if k=0 then ([vput 5 v.len d v.b 0],N) else ([vput 4 v.len d i 0,vput 5 v.len N v.b 0,vput 6 v.len ((N+1:Nat):Int) 0 0],((N+2:Nat):Int)))
 else if v.op=6 then ([vput 6 v.len d 0 0],N)
 else if v.op=13 then ([vput 4 v.len d i 0],N)
 else if v.op=8 then (if k=1 then ([vput 1 v.len 0 0 0,vput 8 v.len v.a d N],((N+1:Nat):Int)) else ([vput 1 v.len 0 0 0,vput 8 v.len v.a N d],((N+1:Nat):Int)))
 else if v.op=7 then (if k=0 then ([vput 3 v.len v.a v.b 0,vput 1 v.len 0 0 0,vput 8 v.len N d ((N+1:Nat):Int)],((N+2:Nat):Int)) else ([vput 3 v.len v.a v.b 0,vput 1 v.len 0 0 0,vput 8 v.len N ((N+1:Nat):Int) d],((N+2:Nat):Int)))
 else if v.op=9 then ([vput 10 la d 0 0],N)
 else if v.op=10 then ([vput 9 1 d 0 0],N)
 else if v.op=11 then ([vput 12 la d 0 v.c],N)
 else ([vput 11 1 d 0 v.c],N)
def prtB (v:Vl)(k:Nat):Bool:=!(v.op==8&&k==0)
structure Same (lo hi:Nat)(W0 W:World):Prop where
 le:hi≤W0.heap.size
 size:W0.heap.size≤W.heap.size
 blk:∀b,lo≤b→b<hi→W.heap[b]? =W0.heap[b]?
theorem Same.cell {lo hi:Nat}{W0 W:World}(s:Same lo hi W0 W){b o:Nat}(h1:lo≤b)(h2:b<hi):W.cell? ⟨b,o,none⟩=W0.cell? ⟨b,o,none⟩:=World.cell?_of_block (s.blk b h1 h2)
def Pre (vs0 us:List Vl):Prop:=∃r,us=vs0++r
theorem Pre.at_ {vs0 us:List Vl}(h:Pre vs0 us){j:Nat}(hj:j<vs0.length):us.getD j Vl.zero=vs0.getD j Vl.zero∧j<us.length:=by
 obtain⟨r,rfl⟩:=h
 refine⟨?_,by rw[List.length_append];omega⟩
 rw[List.getD_eq_getElem?_getD,List.getElem?_append_left hj,←List.getD_eq_getElem?_getD]
end Go.Proofs.YtgamjhpebmmjcaaGreatDoor
namespace Go.Proofs.YtgamjhpebmmjcaaGreatDoor
set_option maxRecDepth 100000
set_option maxHeartbeats 40000000
open Go.RowKit Flt
theorem Same.trans {lo hi lo' hi':Nat}{W0 W1 W:World}(a:Same lo hi W0 W1)(b:Same lo' hi' W1 W)(h1:lo'≤lo)(h2:hi≤hi'):Same lo hi W0 W:=
 ⟨a.le,Nat.le_trans a.size b.size,fun x l h=>(b.blk x (by omega) (by omega)).trans (a.blk x l h)⟩
end Go.Proofs.YtgamjhpebmmjcaaGreatDoor
namespace Go.Proofs.YtgamjhpebmmjcaaGreatDoor
set_option maxRecDepth 100000
set_option maxHeartbeats 40000000
open Go.RowKit Flt
theorem run_store_func {P:Program}{w:World}{a:Addr}{m:Mode}(f:Fn)(r c:Array Value):(store a (.func f r c) m).run P w=stored P w a (.func f r c) m:=run_store P w a _ m rfl
attribute [local go_sem] alloc_drewN setCell_drewN run_store_float run_store_func
end Go.Proofs.YtgamjhpebmmjcaaGreatDoor
