import Derived.Test.YtdpbpcnldpkljaaGreatP07
namespace Go.Proofs.Z
open Tryz
set_option maxRecDepth 1000000
set_option maxHeartbeats 0
section
open Go.RowKit Flt
attribute [local go_sem] eD eB eA
variable {S:Nat->Prop} {w1 w9 w w':World} {base e n m b off:Nat} {v u:Value} {xs:List Value}
structure Chg (S:Nat->Prop)(w w':World):Prop where
 os:w'.os=w.os
 tape:w'.tape=w.tape
 output:w'.output=w.output
 size:w.heap.size<=w'.heap.size
 block:∀k,k<w.heap.size->¬S k->w'.heap[k]? =w.heap[k]?
theorem Chg.cell (h:Chg S w w'){p:Addr}(hp:p.block<w.heap.size)(hn:¬S p.block):w'.cell? p=w.cell? p:=World.cell?_of_block (w:=w) (h.block p.block hp hn)
theorem Chg.frozen (h:Chg S w w'){p:Addr}(hp:p.block<w.heap.size)(hn:¬S p.block):w'.frozen? p=w.frozen? p:=World.frozen?_of_block (w:=w) (h.block p.block hp hn)
theorem Kept.chg (h:Kept 0 0 w w'):Chg S w w':=⟨h.os,h.tape,h.output,h.size,λk hk _=>h.block k hk xaa⟩
theorem Chg.kept {w0:World}(k:Kept 0 0 w0 w)(h:Chg S w w')(hS:∀i,S i->w0.heap.size<=i):Kept 0 0 w0 w':=
 ⟨h.os.trans k.os,h.tape.trans k.tape,h.output.trans k.output,yan k.size h.size,λi hi _=>(h.block i (yaj hi k.size) (λc=>by have:=hS i c;omega)).trans (k.block i hi xaa)⟩
def fp:List Vl->List Value
 |[]=>[]
 |v::r=>v.cells++fp r
theorem jf (a b:List Vl):fp (a++b)=fp a++fp b:=by
 induction a with
 |nil=>rfl
 |cons x r ih=>simp[fp,ih]
theorem kz (v:Vl):fp [v]=v.cells:=by simp[fp]
theorem mR (a:List Vl):(fp a).length=a.length*6:=by
 induction a with
 |nil=>rfl
 |cons x r ih=>simp only[fp,yak,ih,yap];simp only[Vl.cells,yap,List.length_nil];omega
theorem oG:∀(a:List Vl) (k j:Nat),k<a.length->j<6->(fp a)[k*6+j]? =(a.getD k Vl.zero).cells[j]?
 |[],k,j,hk,_=>by simp at hk
 |x::r,0,j,_,hj=>by
  have:(x::r).getD 0 Vl.zero=x:=rfl
  rw[this,fp,yas (by simp only[Vl.cells,yap,List.length_nil];omega),Nat.zero_mul,Nat.zero_add]
 |x::r,k+1,j,hk,hj=>by
  have:(x::r).getD (k+1) Vl.zero=r.getD k Vl.zero:=rfl
  rw[this,fp,yar (by simp only[Vl.cells,yap,List.length_nil];omega)]
  have e:(k+1)*6+j-x.cells.length=k*6+j:=by simp only[Vl.cells,yap,List.length_nil];omega
  rw[e]
  exact oG r k j (by simpa using hk) hj
theorem kr {W:World}{vs:List Vl}(h:W.ownsRow base 35 6 v n (fp vs))(hn:0<n)(hl:vs.length=n):
  ∃g cap,v=.slice (some ⟨g,0,none⟩) n cap/\base<=g/\g<W.heap.size/\n<=cap/\VA W g n vs:=by
 rcases h.2 with⟨_,c⟩|⟨g,cap,cur,rfl,b1,b2,b3,_,b5,b6⟩
 ·omega
 ·have hg:g<W.heap.size:=by
   exact xbf
  have key:∀k j,k<n->j<6->W.cell? ⟨g,k*6+j,none⟩=(vs.getD k Vl.zero).cells[j]?:=λk j hk hj=>by
   rw[cell_of_row W g _ cur _ _ b2,<-Array.getElem?_toList]
   have:(cur.toList.take (n*6))[k*6+j]? =(fp vs)[k*6+j]?:=by rw[b6]
   rw[List.getElem?_take_of_lt xaa] at this
   rw[this]
   exact oG vs k j xaa hj
  refine⟨g,cap,rfl,b1,hg,b3,hl,hg,λk hk=>?_,λo=>frozen_of_row W g o _ _ b2⟩
  exact⟨key k 0 hk xaa,key k 1 hk xaa,key k 2 hk xaa,key k 3 hk xaa,key k 4 hk xaa,key k 5 hk xaa⟩
structure StQ (Q:Nat->Prop)(R:Option Nat)(w:World)(R':Option Nat)(w':World):Prop where
 chg:Chg (λi=>Q i\/R=some i) w w'
 row:R'=R\/∃r,R'=some r/\w.heap.size<=r
theorem StQ.refl (Q:Nat->Prop)(R:Option Nat)(w:World):StQ Q R w R w:=⟨⟨rfl,rfl,rfl,yad,λ_ _ _=>rfl⟩,.inl rfl⟩
theorem eG {size:Nat}{W:World}(h:W.ownsRow base e size v n xs){k:Nat}(hk:v.ownBlock=some k):base<=k/\k<W.heap.size:=by
 rcases h.2 with⟨rfl,_⟩|⟨g,cap,cur,rfl,b1,b2,_⟩
 ·simp[Value.ownBlock] at hk
 ·have e:g=k:=by simpa[Value.ownBlock] using hk
  subst e
  refine⟨b1,?_⟩
  exact xbf
theorem lA (w:World)(v:Vl):At (w.alloc (fX v.op v.len v.a v.b v.c v.k)) w.heap.size 0 v:=by
 exact xjj
theorem jK {size:Nat}{W:World}(h:W.ownsRow base e size v n xs)(m:Nat)(o:Obj):((W.alloc o).drewN m).ownsRow base e size v n xs:=h.alloc o
theorem sV (w:World)(o:Obj):(w.alloc o).heap[w.heap.size]? =some o:=by
 unfold World.alloc
 simp
theorem qn (w:World)(v:Vl)(m:Nat):∀j u,v.cells[j]? =some u->((w.alloc (.cells #[.int .i64 v.op,.int .i64 v.len,.int .i64 v.a,.int .i64 v.b,.int .i64 v.c,.float .f64 v.k] 35)).drewN m).cell? ((⟨w.heap.size,0,none⟩:Addr).add j)=some u:=λj u hu=>
 World.news_of_block (w:=w.alloc (.cells #[.int .i64 v.op,.int .i64 v.len,.int .i64 v.a,.int .i64 v.b,.int .i64 v.c,.float .f64 v.k] 35)) (t:=35) (fr:=(0,0)) (cs:=#[.int .i64 v.op,.int .i64 v.len,.int .i64 v.a,.int .i64 v.b,.int .i64 v.c,.float .f64 v.k]) (sV _ _) j u hu
theorem jC {o:Obj}{row:Option Nat}(hg:((w1.alloc o).drewN m).grownBy w9 row)(hb:b<w1.heap.size)(hr:row≠some b)(hc:w1.cell? ⟨b,off,none⟩=some u):w9.cell? ⟨b,off,none⟩=some u:=by
 have hb':b<((w1.alloc o).drewN m).heap.size:=by show b<(w1.alloc o).heap.size;simp;omega
 rw[hg.cell_far ⟨b,off,none⟩ hb' (λc=>hr c.symm)]
 exact jN (ez 0 0 w1 o) hb hc
theorem far2 {o:Obj}{row:Option Nat}(hg:((w1.alloc o).drewN m).grownBy w9 row)(hb:b<w1.heap.size)(hr:row≠some b)(hc:w1.frozen? ⟨b,off,none⟩=false):w9.frozen? ⟨b,off,none⟩=false:=by
 have hb':b<((w1.alloc o).drewN m).heap.size:=by show b<(w1.alloc o).heap.size;simp;omega
 rw[hg.frozen_far ⟨b,off,none⟩ hb' (λc=>hr c.symm)]
 show(w1.alloc o).frozen? _=_
 rw[(ez 0 0 w1 o).frozen (p:=⟨b,off,none⟩) hb xaa]
 exact hc
theorem eH {size P o:Nat}{W:World}(h:W.ownsRow base e size v n xs)(hP:v.ownBlock≠some P):(W.setCell ⟨P,o,none⟩ u).ownsRow base e size v n xs:=by
 refine⟨h.1,h.2.imp id ?_⟩
 rintro⟨g,cap,cur,e1,b1,b2,b3⟩
 refine⟨g,cap,cur,e1,b1,?_,b3⟩
 rw[Below.heap_setCell W ⟨P,o,none⟩ u g (λc=>hP (by rw[e1,c];rfl))]
 exact b2
theorem uK (v:Vl):∀u∈v.cells,u.oneCell'=true:=λu hu=>by
 simp only[Vl.cells,List.mem_cons,List.not_mem_nil,or_false] at hu
 rcases hu with rfl|rfl|rfl|rfl|rfl|rfl<;>rfl
end
section
open Go.RowKit Flt
variable {ins outs:List Int} {v:Vl} {vs us:List Vl} {k i:Nat}
def cv (v:Vl):Vl:=⟨v.op,v.len,v.a,v.b,v.c,fb v.k⟩
def Lk (us vs:List Vl):Prop:=us.map cv=vs.map cv
theorem Lk.len (h:Lk us vs):us.length=vs.length:=by
 have:=congrArg List.length h
 simpa using this
theorem Lk.refl (us:List Vl):Lk us us:=rfl
def rnm (tq:List Int)(v:Vl):Vl:=
 ⟨v.op,v.len,if 0<cnt v.op then tq.getD v.a.toNat 0 else v.a,if 1<cnt v.op then tq.getD v.b.toNat 0 else v.b,if 2<cnt v.op then tq.getD v.c.toNat 0 else v.c,v.k⟩
theorem qo (tq:List Int)(v:Vl):eN (rnm tq v)=(eN v).map λo=>tq.getD o.toNat 0:=by
 have h:=gX v.op
 unfold eN rnm
 simp only
 rcases (by omega:cnt v.op=0\/cnt v.op=1\/cnt v.op=2\/cnt v.op=3) with e|e|e|e<;>simp[e]
theorem yZ {j:Nat}(h:okV ins vs i=true)(r:Int->Int)(hop:(us.getD j Vl.zero).op=(vs.getD i Vl.zero).op)(hlen:(us.getD j Vl.zero).len=(vs.getD i Vl.zero).len)
  (ha:cnt (vs.getD i Vl.zero).op<1->(us.getD j Vl.zero).a=(vs.getD i Vl.zero).a) (hb:cnt (vs.getD i Vl.zero).op<2->(us.getD j Vl.zero).b=(vs.getD i Vl.zero).b) (hc:cnt (vs.getD i Vl.zero).op<3->(us.getD j Vl.zero).c=(vs.getD i Vl.zero).c)
  (hops:eN (us.getD j Vl.zero)=(eN (vs.getD i Vl.zero)).map r) (hr:∀o∈eN (vs.getD i Vl.zero),0<=o->o<i->(0<=r o/\r o<j)/\(us.getD (r o).toNat Vl.zero).len=(vs.getD o.toNat Vl.zero).len):okV ins us j=true:=by
 unfold okV at h ⊢
 generalize us.getD j Vl.zero=u at*
 generalize vs.getD i Vl.zero=v at*
 rw[Bool.and_eq_true,Bool.and_eq_true] at h
 obtain⟨⟨h1,h2⟩,h3⟩:=h
 have s2:f9 u=true:=by
  rw[<-h2]
  unfold f9
  rw[hop]
  by_cases c1:cnt v.op<1
  ·rw[ha c1,hb xaa,hc xaa]
  ·by_cases c2:cnt v.op<2
   ·rw[hb c2,hc xaa];simp[c1]
   ·by_cases c3:cnt v.op<3
    ·rw[hc c3];simp[c1,c2]
    ·simp[c1,c2,c3]
 rw[hlen,h1,s2,hop]
 simp only[Bool.true_and]
 by_cases h0:v.op=0
 ·have c0:cnt v.op<1:=by rw[h0];decide
  rw[if_pos h0] at h3 ⊢
  rw[ha c0];exact h3
 ·rw[if_neg h0] at h3 ⊢
  rw[Bool.and_eq_true] at h3 ⊢
  have key:∀o∈eN v,(0<=r o/\r o<j)/\(us.getD (r o).toNat Vl.zero).len=(vs.getD o.toNat Vl.zero).len:=λo ho=>by
   have:=of_decide_eq_true (List.all_eq_true.1 h3.1 o ho)
   exact hr o ho this.1 this.2
  rw[hops]
  refine⟨?_,?_⟩
  ·rw[List.all_map,List.all_eq_true]
   intro o ho
   exact decide_eq_true (key o ho).1
  ·have e:((eN v).map r).map (λo=>(us.getD o.toNat Vl.zero).len)=(eN v).map λo=>(vs.getD o.toNat Vl.zero).len:=by
    rw[List.map_map]
    apply List.map_congr_left
    intro o ho
    exact(key o ho).2
   rw[e]
   by_cases c3:cnt v.op<3
   ·rw[hc c3];exact h3.2
   ·have h8:v.op=8:=by
     unfold cnt at c3
     split at c3
     ·omega
     ·split at c3
      ·omega
      ·split at c3
       ·assumption
       ·omega
    rw[h8] at h3 ⊢
    simpa[eQ] using h3.2
theorem oH (hi:i<vs.length)(h:okV ins vs i=true):okV ins (vs++[v]) i=true:=by
 have e:∀k,k<vs.length->(vs++[v]).getD k Vl.zero=vs.getD k Vl.zero:=λk hk=>by
  exact xij
 refine yZ h id ?_ ?_ ?_ ?_ ?_ ?_ ?_
 ·rw[e i hi]
 ·rw[e i hi]
 ·intro _;rw[e i hi]
 ·intro _;rw[e i hi]
 ·intro _;rw[e i hi]
 ·rw[e i hi];simp
 ·intro o _ h0 h1
  refine⟨⟨h0,h1⟩,?_⟩
  rw[e _ (by simp only[id];omega)];rfl
theorem mx (vs:List Vl)(v:Vl):(vs++[v]).getD vs.length Vl.zero=v:=by
 exact xdn
theorem nD (vs:List Vl)(v:Vl)(hk:k<vs.length):(vs++[v]).getD k Vl.zero=vs.getD k Vl.zero:=by
 exact xij
theorem jz (h:okV ins vs i=true):∀o∈eN (vs.getD i Vl.zero),0<=o/\o<i:=by
 intro o ho
 unfold okV at h
 generalize vs.getD i Vl.zero=v at*
 rw[Bool.and_eq_true] at h
 have h3:=h.2
 by_cases h0:v.op=0
 ·have c0:cnt v.op=0:=by rw[h0];rfl
  unfold eN at ho
  rw[c0] at ho
  simp at ho
 ·rw[if_neg h0,Bool.and_eq_true] at h3
  exact of_decide_eq_true (List.all_eq_true.1 h3.1 o ho)
theorem oI (h:1<=cnt v.op):v.a∈eN v:=by
 have:=gX v.op
 unfold eN
 rcases (by omega:cnt v.op=1\/cnt v.op=2\/cnt v.op=3) with e|e|e<;>simp[e]
theorem vX (h:2<=cnt v.op):v.b∈eN v:=by
 have:=gX v.op
 unfold eN
 rcases (by omega:cnt v.op=2\/cnt v.op=3) with e|e<;>simp[e]
theorem vY (h:3<=cnt v.op):v.c∈eN v:=by
 have:=gX v.op
 unfold eN
 simp[(by omega:cnt v.op=3)]
def jZ (tq:List Int)(outs:List Int):List Int:=outs.map λo=>tq.getD o.toNat 0
theorem iQ (h:okG ins vs outs=true):(ins.length<=20/\vs.length<=2000/\outs.length<=50)/\ins.all lenB=true/\(∀j,j<vs.length->okV ins vs j=true)/\(∀o∈outs,0<=o/\o<vs.length)/\eX vs<=50000:=by
 unfold okG at h
 simp only[Bool.and_eq_true] at h
 obtain⟨h1,h2,h3,h4,h5⟩:=h
 exact⟨of_decide_eq_true h1,h2,λj hj=>List.all_eq_true.1 h3 j (List.mem_range.2 hj),λo ho=>of_decide_eq_true (List.all_eq_true.1 h4 o ho),of_decide_eq_true h5⟩
theorem y7 (h1:ins.length<=20/\vs.length<=2000/\outs.length<=50)(h2:ins.all lenB=true)(h3:∀j,j<vs.length->okV ins vs j=true)(h4:∀o∈outs,0<=o/\o<vs.length)(h5:eX vs<=50000):okG ins vs outs=true:=by
 unfold okG
 simp only[Bool.and_eq_true]
 exact⟨decide_eq_true h1,h2,List.all_eq_true.2 λj hj=>h3 j (List.mem_range.1 hj),List.all_eq_true.2 λo ho=>decide_eq_true (h4 o ho),decide_eq_true h5⟩
theorem qp:∀(us vs:List Vl),us.length=vs.length->(∀j,j<us.length->(us.getD j Vl.zero).len=(vs.getD j Vl.zero).len)->eX us=eX vs
 |[],[],_,_=>rfl
 |u::us,v::vs,hl,h=>by
  have h0:=h 0 xac
  have:=qp us vs (by simpa using hl) (λj hj=>by
   have:=h (j+1) yaf
   simpa using this)
  simp only[eX,this]
  have h0':u.len=v.len:=by simpa using h0
  rw[h0']
def Kb (vs:List Vl):Prop:=∀v∈vs,v.k<18446744073709551616
theorem Kb.at_ (h:Kb vs)(k:Nat):(vs.getD k Vl.zero).k<18446744073709551616:=by
 rw[yah]
 by_cases hk:k<vs.length
 ·rw[yal hk];exact h _ (List.getElem_mem _)
 ·rw[List.getElem?_eq_none xaa];exact(by decide:Vl.zero.k<18446744073709551616)
theorem Kb.app (h:Kb vs)(hv:v.k<18446744073709551616):Kb (vs++[v]):=by
 intro u hu
 simp only[List.mem_append,List.mem_singleton] at hu
 rcases hu with c|rfl
 ·exact h u c
 ·exact hv
theorem sW (h:okV ins vs i=true):lenB (vs.getD i Vl.zero).len=true:=by
 unfold okV at h
 simp only[Bool.and_eq_true] at h
 exact h.1.1
def fJ (F:List Bool)(os:List Int):List Bool:=os.foldl (λF o=>F.set o.toNat true) F
theorem iw (os:List Int):∀F,(fJ F os).length=F.length:=by
 induction os with
 |nil=>intro F;rfl
 |cons o r ih=>intro F;show(fJ (F.set o.toNat true) r).length=_;rw[ih];simp
theorem gV (os:List Int)(i:Nat):∀F:List Bool,i<F.length->(fJ F os).getD i false=(F.getD i false||os.any λo=>o.toNat==i):=by
 induction os with
 |nil=>intro F _;simp[fJ]
 |cons o r ih=>
  intro F hi
  show(fJ (F.set o.toNat true) r).getD i false=_
  rw[ih _ (by simp;exact hi)]
  have e:(F.set o.toNat true).getD i false=(F.getD i false||o.toNat==i):=by
   rw[yah,List.getElem?_set,yah]
   by_cases c:o.toNat=i
   ·subst c;simp[hi]
   ·simp[c]
  rw[e,List.any_cons,Bool.or_assoc]
def isO (outs:List Int)(i:Nat):Bool:=outs.any λo=>o==(i:Int)
def ndI (vs:List Vl)(outs:List Int):Nat->List Bool
 |0=>fJ (List.replicate vs.length false) outs
 |k+1=>if (ndI vs outs k).getD (vs.length-1-k) false=true then fJ (ndI vs outs k) (eN (vs.getD (vs.length-1-k) Vl.zero)) else ndI vs outs k
def ndG (outs:List Int)(G:List Bool)(i:Nat):List Bool:=G.set i (G.getD i false||isO outs i)
def ndS (vs:List Vl)(outs:List Int):Nat->List Bool
 |0=>List.replicate vs.length false
 |k+1=>if (ndG outs (ndS vs outs k) (vs.length-1-k)).getD (vs.length-1-k) false=true then fJ (ndG outs (ndS vs outs k) (vs.length-1-k)) (eN (vs.getD (vs.length-1-k) Vl.zero)) else ndG outs (ndS vs outs k) (vs.length-1-k)
theorem ja (vs:List Vl)(outs:List Int):∀k,(ndI vs outs k).length=vs.length
 |0=>by simp[ndI,iw]
 |k+1=>by
  rw[ndI]
  split
  ·rw[iw];exact ja vs outs k
  ·exact ja vs outs k
theorem lX (vs:List Vl)(outs:List Int):∀k,(ndS vs outs k).length=vs.length
 |0=>by simp[ndS]
 |k+1=>by
  rw[ndS]
  split
  ·rw[iw];simp[ndG,lX vs outs k]
  ·simp[ndG,lX vs outs k]
theorem rD (G:List Bool)(j:Nat)(b:Bool)(i:Nat)(hi:i<G.length):(G.set j b).getD i false=if j=i then b else G.getD i false:=by
 exact xhh
theorem vZ (vs:List Vl)(outs:List Int)(ho:∀o∈outs,0<=o/\o<vs.length):∀k,k<=vs.length->∀i,i<vs.length->(ndI vs outs k).getD i false=((ndS vs outs k).getD i false||isO outs i)
 |0,_,i,hi=>by
  rw[ndI,gV _ _ _ (by simpa using hi),ndS]
  congr 1
  unfold isO
  rw[Bool.eq_iff_iff,List.any_eq_true,List.any_eq_true]
  constructor
  ·rintro⟨o,h1,h2⟩
   have:=ho o h1
   have h2':o.toNat=i:=by simpa using h2
   exact⟨o,h1,by rw[beq_iff_eq];omega⟩
  ·rintro⟨o,h1,h2⟩
   rw[beq_iff_eq] at h2
   exact⟨o,h1,by rw[beq_iff_eq];omega⟩
 |k+1,hk,i,hi=>by
  have ih:=vZ vs outs ho k xaa
  have l1:=ja vs outs k
  have l2:=lX vs outs k
  have hj:vs.length-1-k<vs.length:=xaa
  rw[ndI,ndS]
  generalize vs.length-1-k=j at*
  have l3:(ndG outs (ndS vs outs k) j).length=vs.length:=by simp[ndG,l2]
  have g:∀i,i<vs.length->(ndG outs (ndS vs outs k) j).getD i false=if j=i then ((ndS vs outs k).getD j false||isO outs j) else (ndS vs outs k).getD i false:=λi hi=>by
   unfold ndG;rw[rD _ _ _ _ (by rw[l2];exact hi)]
  have e0:(ndG outs (ndS vs outs k) j).getD j false=(ndI vs outs k).getD j false:=by
   rw[g j hj,if_pos rfl,ih j hj]
  have key:(ndI vs outs k).getD i false=((ndG outs (ndS vs outs k) j).getD i false||isO outs i):=by
   rw[g i hi,ih i hi]
   by_cases c:j=i
   ·subst c;rw[if_pos rfl,Bool.or_assoc,Bool.or_self]
   ·rw[if_neg c]
  rw[e0]
  by_cases c:(ndI vs outs k).getD j false=true
  ·rw[if_pos c,if_pos c,gV _ _ _ (by rw[l1];exact hi),gV _ _ _ (by rw[l3];exact hi),key,Bool.or_assoc,Bool.or_assoc,Bool.or_comm (isO outs i)]
  ·rw[if_neg c,if_neg c];exact key
theorem v6 (vs:List Vl)(outs:List Int):∀k,k<=vs.length->∀i,vs.length-k<=i->i<vs.length->isO outs i=true->(ndS vs outs k).getD i false=true
 |0,_,i,h1,h2,_=>by omega
 |k+1,hk,i,h1,h2,h3=>by
  have ih:=v6 vs outs k xaa i
  have l2:=lX vs outs k
  rw[ndS]
  have hj:vs.length-1-k<vs.length:=xaa
  have hjk:vs.length-k=(vs.length-1-k)+1:=xaa
  have hjk':vs.length-(k+1)=vs.length-1-k:=xaa
  rw[hjk] at ih
  rw[hjk'] at h1
  generalize vs.length-1-k=j at*
  have l3:(ndG outs (ndS vs outs k) j).length=vs.length:=by simp[ndG,l2]
  have g:(ndG outs (ndS vs outs k) j).getD i false=true:=by
   unfold ndG;rw[rD _ _ _ _ (by rw[l2];exact h2)]
   by_cases c:j=i
   ·subst c;rw[if_pos rfl,h3,Bool.or_true]
   ·rw[if_neg c];exact ih xaa h2 h3
  split
  ·rw[gV _ _ _ (by rw[l3];exact h2),g,Bool.true_or]
  ·exact g
theorem Hq (vs:List Vl)(outs:List Int)(ho:∀o∈outs,0<=o/\o<vs.length):ndS vs outs vs.length=ndI vs outs vs.length:=by
 have l1:=ja vs outs vs.length
 have l2:=lX vs outs vs.length
 apply List.ext_getElem (by rw[l1,l2])
 intro i h1 h2
 have a:=vZ vs outs ho vs.length yad i xaa
 rw[yah,yal h2,yah,yal h1] at a
 simp only[Option.getD_some] at a
 rw[a]
 cases hq:isO outs i
 ·simp
 ·have b:=v6 vs outs vs.length yad i xaa xaa hq
  rw[yah,yal h1] at b
  simp only[Option.getD_some] at b
  rw[b];rfl
theorem mS (h:(ndI vs outs k).getD i false=true):(ndI vs outs (k+1)).getD i false=true:=by
 have hi:i<(ndI vs outs k).length:=by
  rcases Nat.lt_or_ge i (ndI vs outs k).length with c|c
  ·exact c
  ·exact xgt
 rw[ndI]
 split
 ·rw[gV _ _ _ hi,h,Bool.true_or]
 ·exact h
theorem kQ {ins:List Int}{vs:List Vl}{outs:List Int}(hv:∀j,j<vs.length->okV ins vs j=true):∀k,k<=vs.length->∀i,vs.length-k<=i->i<vs.length->(ndI vs outs k).getD i false=true->∀o∈eN (vs.getD i Vl.zero),(ndI vs outs k).getD o.toNat false=true
 |0,_,i,h1,h2,_,_,_=>by omega
 |k+1,hk,i,h1,h2,h3,o,ho=>by
  have l1:=ja vs outs k
  have hb:=jz (hv i h2) o ho
  by_cases c:vs.length-k<=i
  ·refine mS (kQ hv k xaa i c h2 ?_ o ho)
   rw[ndI] at h3
   split at h3
   ·rw[gV _ _ _ (by rw[l1];exact h2),Bool.or_eq_true] at h3
    rcases h3 with h3|h3
    ·exact h3
    ·exfalso
     rw[List.any_eq_true] at h3
     obtain⟨q,q1,q2⟩:=h3
     have:=jz (hv _ xaa) q q1
     rw[beq_iff_eq] at q2
     omega
   ·exact h3
  ·have ei:i=vs.length-1-k:=xaa
   rw[ndI] at h3 ⊢
   rw[<-ei] at h3 ⊢
   by_cases d:(ndI vs outs k).getD i false=true
   ·rw[if_pos d,gV _ _ _ (by rw[l1];omega),Bool.or_eq_true]
    right
    rw[List.any_eq_true]
    exact⟨o,ho,by rw[beq_iff_eq]⟩
   ·rw[if_neg d] at h3
    exact absurd h3 d
theorem pl {vs:List Vl}{outs:List Int}(ho:∀o∈outs,0<=o/\o<vs.length):∀k,∀o∈outs,(ndI vs outs k).getD o.toNat false=true
 |0,o,h=>by
  have:=ho o h
  rw[ndI,gV _ _ _ yaf,Bool.or_eq_true]
  right
  rw[List.any_eq_true]
  exact⟨o,h,by rw[beq_iff_eq]⟩
 |k+1,o,h=>mS (pl ho k o h)
def fL (F:List Bool)(vs:List Vl):Nat->List Vl×List Int
 |0=>([],List.replicate vs.length 0)
 |i+1=>if F.getD i false=true then ((fL F vs i).1++[rnm ((fL F vs i).2.set i (fL F vs i).1.length) (vs.getD i Vl.zero)],(fL F vs i).2.set i (fL F vs i).1.length) else fL F vs i
def fY (vs:List Vl)(outs:List Int):List Vl×List Int:=((fL (ndI vs outs vs.length) vs vs.length).1,jZ (fL (ndI vs outs vs.length) vs vs.length).2 outs)
structure DkI (ins:List Int)(F:List Bool)(vs:List Vl)(i:Nat)(S:List Vl×List Int):Prop where
 l2:S.2.length=vs.length
 l1:S.1.length<=i
 to0:∀j,j<i->F.getD j false=true->0<=S.2.getD j 0/\S.2.getD j 0<S.1.length
 tlen:∀j,j<i->F.getD j false=true->(S.1.getD (S.2.getD j 0).toNat Vl.zero).len=(vs.getD j Vl.zero).len
 ok:∀j,j<S.1.length->okV ins S.1 j=true
 cells:eX S.1<=eX (vs.take i)
theorem rE (G:List Int)(j:Nat)(b:Int)(i:Nat)(hi:i<G.length):(G.set j b).getD i 0=if j=i then b else G.getD i 0:=by
 exact xhh
theorem oJ {ins:List Int}{F:List Bool}{vs:List Vl}(hv:∀j,j<vs.length->okV ins vs j=true)(hF:∀i,i<vs.length->F.getD i false=true->∀o∈eN (vs.getD i Vl.zero),F.getD o.toNat false=true):∀i,i<=vs.length->DkI ins F vs i (fL F vs i)
 |0,_=>⟨by simp[fL],yad,by intro j hj;omega,by intro j hj;omega,by intro j hj;simp[fL] at hj,by simp[fL]⟩
 |i+1,hi=>by
  have D:=oJ hv hF i xaa
  have hlen:1<=(vs.getD i Vl.zero).len:=by
   have:=sW (hv i xaa)
   have:=of_decide_eq_true this
   omega
  rw[fL]
  by_cases c:F.getD i false=true
  ·rw[if_pos c]
   generalize hS:fL F vs i=S at*
   have tt:∀j,j<vs.length->(S.2.set i S.1.length).getD j 0=if i=j then (S.1.length:Int) else S.2.getD j 0:=λj hj=>rE _ _ _ _ (by rw[D.l2];exact hj)
   have okN:okV ins (S.1++[rnm (S.2.set i S.1.length) (vs.getD i Vl.zero)]) S.1.length=true:=by
    have el:=mx S.1 (rnm (S.2.set i S.1.length) (vs.getD i Vl.zero))
    refine yZ (hv i xaa) (λo=>(S.2.set i S.1.length).getD o.toNat 0) ?_ ?_ ?_ ?_ ?_ ?_ ?_
    ·rw[el];rfl
    ·rw[el];rfl
    ·intro c;rw[el];unfold rnm;simp only;rw[if_neg xaa]
    ·intro c;rw[el];unfold rnm;simp only;rw[if_neg xaa]
    ·intro c;rw[el];unfold rnm;simp only;rw[if_neg xaa]
    ·rw[el];exact qo _ _
    ·intro o ho h0 h1
     have hFo:=hF i xaa c o ho
     have t:=D.to0 o.toNat xaa hFo
     rw[tt _ xaa,if_neg xaa]
     refine⟨t,?_⟩
     rw[nD _ _ xaa]
     exact D.tlen o.toNat xaa hFo
   refine⟨by simp[D.l2],by simp;have:=D.l1;omega,?_,?_,?_,?_⟩
   ·intro j hj hFj
    simp only
    rw[tt _ xaa]
    rw[yak,List.length_singleton]
    by_cases e:i=j
    ·rw[if_pos e];omega
    ·rw[if_neg e]
     have:=D.to0 j xaa hFj
     omega
   ·intro j hj hFj
    simp only
    rw[tt _ xaa]
    by_cases e:i=j
    ·subst e
     rw[if_pos rfl,Int.toNat_natCast,mx];rfl
    ·rw[if_neg e]
     have:=D.to0 j xaa hFj
     rw[nD _ _ xaa]
     exact D.tlen j xaa hFj
   ·intro j hj
    simp only at hj ⊢
    rw[yak,List.length_singleton] at hj
    by_cases e:j<S.1.length
    ·exact oH e (D.ok j e)
    ·have:j=S.1.length:=xaa
     subst this
     exact okN
   ·simp only
    rw[ml,j4 xaa]
    have:=D.cells
    have e:(rnm (S.2.set i S.1.length) (vs.getD i Vl.zero)).len=(vs.getD i Vl.zero).len:=rfl
    omega
  ·rw[if_neg c]
   refine⟨D.l2,by have:=D.l1;omega,?_,?_,D.ok,?_⟩
   ·intro j hj hFj
    by_cases e:j=i
    ·subst e;exact absurd hFj c
    ·exact D.to0 j xaa hFj
   ·intro j hj hFj
    by_cases e:j=i
    ·subst e;exact absurd hFj c
    ·exact D.tlen j xaa hFj
   ·rw[j4 xaa]
    have:=D.cells
    omega
theorem y8 (h:okG ins vs outs=true):okG ins (fY vs outs).1 (fY vs outs).2=true:=by
 obtain⟨h1,h2,h3,h4,h5⟩:=iQ h
 have D:=oJ (F:=ndI vs outs vs.length) h3 (λi hi hF o ho=>kQ h3 vs.length yad i xaa hi hF o ho) vs.length yad
 have l1:=D.l1
 unfold fY
 refine y7 ⟨h1.1,by simp only;omega,by simp[jZ];exact h1.2.2⟩ h2 D.ok ?_ ?_
 ·intro o ho
  simp only[jZ,List.mem_map] at ho
  obtain⟨q,hq,rfl⟩:=ho
  have hb:=h4 q hq
  exact D.to0 q.toNat xaa (pl h4 _ q hq)
 ·have:=D.cells
  rw[yao yad] at this
  simp only
  omega
end
section
open Go.RowKit Flt
attribute [local go_sem] eD eB eA
variable {S:Nat->Prop} {w w':World}
structure IBk (w:World)(g n:Nat)(xs:List Int):Prop where
 len:xs.length=n
 lt:g<w.heap.size
 at_:∀k,k<n->w.cell? ⟨g,k,none⟩=some (.int .i64 (xs.getD k 0))
 free:∀o,w.frozen? ⟨g,o,none⟩=false
theorem IBk.keep {g n l h:Nat}{xs:List Int}(f:IBk w g n xs)(k:Kept l h w w')(hd:g<l\/h<=g\/h<=l):IBk w' g n xs:=
 ⟨f.len,yaj f.lt k.size,λj hj=>by rw[k.cell (p:=⟨g,j,none⟩) f.lt (by show ¬(l<=g/\g<h);omega)];exact f.at_ j hj,λo=>by rw[k.frozen (p:=⟨g,o,none⟩) f.lt (by show ¬(l<=g/\g<h);omega)];exact f.free o⟩
theorem IBk.put {w:World}{g n:Nat}{xs:List Int}(f:IBk w g n xs)(j:Nat)(hj:j<n)(x:Int):IBk (w.setCell ⟨g,j,none⟩ (.int .i64 x)) g n (xs.set j x) where
 len:=by rw[List.length_set];exact f.len
 lt:=by simpa using f.lt
 at_:=λk hk=>by
  rw[yah,List.getElem?_set]
  by_cases e:j=k
  ·subst e
   rw[if_pos rfl,if_pos (by rw[f.len];exact hj)]
   exact fR _ _ _ _ _ (f.at_ j hj)
  ·rw[if_neg e,eW _ _ _ _ _ _ (.inr e),<-yah]
   exact f.at_ k hk
 free:=λo=>by simp[f.free o]
def IZ (w:World)(g:Nat)(a:Option Addr)(n:Nat)(xs:List Int):Prop:=n=0\/(a=some ⟨g,0,none⟩/\IBk w g n xs)
def VZ (w:World)(g:Nat)(a:Option Addr)(n:Nat)(vs:List Vl):Prop:=n=0\/(a=some ⟨g,0,none⟩/\VA w g n vs)
theorem G0.keepT {W W':World}{p l h:Nat}{b0 b1 b2:Value}(t:G0 W p b0 b1 b2)(k:Kept l h W W')(hd:p<l\/h<=p\/h<=l):G0 W' p b0 b1 b2:=by
 have e:∀o,W'.cell? ⟨p,o,none⟩=W.cell? ⟨p,o,none⟩:=λo=>k.cell (p:=⟨p,o,none⟩) t.sz (by show ¬(l<=p/\p<h);omega)
 exact⟨yaj t.sz k.size,by rw[e];exact t.q0,by rw[e];exact t.q1,by rw[e];exact t.q2⟩
theorem Kept.chg1 {g:Nat}(k:Kept g (g+1) w w')(h:S g):Chg S w w':=
 ⟨k.os,k.tape,k.output,k.size,λi hi hn=>k.block i hi λc=>hn ((show g=i by omega) ▸ h)⟩
theorem Chg.andThen {a b c:World}(h:Chg S a b)(k:Chg S b c):Chg S a c:=
 ⟨k.os.trans h.os,k.tape.trans h.tape,k.output.trans h.output,yan h.size k.size,λi hi hn=>(k.block i (yaj hi h.size) hn).trans (h.block i hi hn)⟩
