import Derived.Test.YtbhmhdllnfkjhaaGreatP06
namespace Go.Proofs.Z
variable{Zp:Prop}
open Tryz
set_option maxRecDepth 1000000
set_option maxHeartbeats 0
section
open Go.RowKit Flt
attribute[local go_sem] eG eE eD
variable{S:Nat->Prop}{aO bg w I:World}{base e n m b off:Nat}{v u:Value}{xs:List Value}
structure Chg(S:Nat->Prop)(w w':World):Prop where
 os:w'.os=w.os
 tape:w'.tape=w.tape
 output:w'.output=w.output
 size:w.heap.size<=w'.heap.size
 block:∀k,k<w.heap.size->¬S k->w'.heap[k]? =w.heap[k]?
theorem Chg.cell(h:Chg S w I){p}(aK:p.block<w.heap.size)(hn:¬S p.block):I.cell? p=w.cell? p:=World.cell?_of_block (w:=w) (h.block p.block aK hn)
theorem Chg.frozen(h:Chg S w I){p}(aK:p.block<w.heap.size)(hn:¬S p.block):I.frozen? p=w.frozen? p:=World.frozen?_of_block (w:=w) (h.block p.block aK hn)
theorem Kept.chg(h:Kept 0 0 w I):Chg S w I:=⟨h.os,h.tape,h.output,h.size,λk N _=>h.block k N xaa⟩
theorem Chg.kept{H}(k:Kept 0 0 H w)(h:Chg S w I)(aZ:∀i,S i->H.heap.size<=i):Kept 0 0 H I:=
 ⟨h.os.trans k.os,h.tape.trans k.tape,h.output.trans k.output,yao k.size h.size,λi hi _=>(h.block i (yak hi k.size) (λc=>by grind)).trans (k.block i hi xaa)⟩
def fK:List Vl->List Value
 |[]=>[]
 |v::r=>v.cells++fK r
theorem kC(a b):fK (a++b)=fK a++fK b:=by
 induction a<;>grind[fK]
theorem mV(v):fK [v]=v.cells:=by simp[fK]
theorem qB(a):(fK a).length=a.length*6:=by
 induction a<;>grind[fK,yaq,Vl.cells]
theorem sJ:∀(a:List Vl) (k j:Nat),k<a.length->j<6->(fK a)[k*6+j]? =(a.getD k hI).cells[j]?
 |[],k,j,N,_=>by simp at N
 |x::r,0,j,_,hj=>by
  grind[fK,Vl.cells]
 |x::r,k+1,j,N,hj=>by
  have:(x::r).getD (k+1) hI=r.getD k _:=rfl
  rw[this,fK,yas (by grind[Vl.cells,yaq])]
  have e:(k+1)*6+j-x.cells.length=k*6+j:=by grind[Vl.cells]
  rw[e]
  exact sJ r k j (by grind) hj
theorem mh{W vs}(h:W.ownsRow base 60 6 v n (fK vs))(hn:0<n)(ab:vs.length=n):
  ∃g cap,v=hC g n cap/\base<=g/\g<W.heap.size/\n<=cap/\VA W g n vs:=by
 rcases h.2 with⟨_,c⟩|⟨g,cap,H,rfl,O,ax,Z,_,cj,bG⟩
 ·omega
 have aR:g<W.heap.size:=by grind
 have au:∀k j,k<n->j<6->W.cell? _=(vs.getD k _).cells[j]?:=λk j N hj=>by
  rw[cell_of_row W g _ _ _ _ ax,<-Array.getElem?_toList]
  have:(H.toList.take (n*6))[k*6+j]? =(fK vs)[k*6+j]?:=by rw[bG]
  rw[List.getElem?_take_of_lt xaa]at this
  rw[this]
  exact sJ vs k j xaa hj
 refine⟨g,_,rfl,O,aR,Z,ab,aR,λk N=>?_,λo=>frozen_of_row W g o _ _ ax⟩;exact⟨au k 0 N xaa,au k 1 N xaa,au k 2 N xaa,au k 3 N xaa,au k 4 N xaa,au k 5 N xaa⟩
structure StQ(Q:Nat->Prop)(R:Option Nat)(w:World)(R':Option Nat)(w':World):Prop where
 chg:Chg (λi=>Q i\/R=some i) w w'
 row:R'=R\/∃r,R'=some r/\w.heap.size<=r
theorem StQ.refl(Q U w):StQ Q U w U w:=⟨⟨rfl,rfl,rfl,yad,λ_ _ _=>rfl⟩,.inl rfl⟩
theorem eH{size}{W:World}(h:W.ownsRow base e size v n xs){k}(N:v.ownBlock=some k):base<=k/\k<W.heap.size:=by
 rcases h.2 with⟨rfl,_⟩|⟨g,cap,H,rfl,O,ax,_⟩<;>grind[Value.ownBlock]
theorem i5(w:World)(v):At (w.alloc (fB v.op v.len v.a v.b v.c v.k)) w.heap.size 0 v:=by
 exact xfs
theorem me{size}{W:World}(h:W.ownsRow base e size v n xs)(m o):((W.alloc o).drewN m).ownsRow base e size v n xs:=h.alloc o
theorem yy(w:World)(o):(w.alloc o).heap[w.heap.size]? =some o:=by
 unfold World.alloc;simp
theorem vg(w:World)(v:Vl)(m):∀j u,v.cells[j]? =some u->((w.alloc (.cells #[hD v.op,hD v.len,hD v.a,hD v.b,hD v.c,.float .f64 v.k] 60)).drewN m).cell? ((⟨w.heap.size,0,none⟩:Addr).add j)=some u:=λj u aH=>
 World.news_of_block (w:=w.alloc (.cells #[hD v.op,hD v.len,hD v.a,hD v.b,hD v.c,.float .f64 v.k] 60)) (t:=60) (fr:=(0,0)) (cs:=#[hD v.op,hD v.len,hD v.a,hD v.b,hD v.c,.float .f64 v.k]) (yy _ _) j u aH
theorem lJ{o Q}(aR:((aO.alloc o).drewN m).grownBy bg Q)(hb:b<aO.heap.size)(av:Q≠some b)(ad:aO.cell? ⟨b,off,none⟩=some u):bg.cell? ⟨b,off,none⟩=some u:=by
 have y:b<((aO.alloc o).drewN m).heap.size:=by show b<(aO.alloc o).heap.size;simp;omega
 rw[aR.cell_far _ y (λc=>av c.symm)];exact iF (ez 0 0 _ o) hb ad
theorem far2{o Q}(aR:((aO.alloc o).drewN m).grownBy bg Q)(hb:b<aO.heap.size)(av:Q≠some b)(ad:aO.frozen? ⟨b,off,none⟩=false):bg.frozen? ⟨b,off,none⟩=false:=by
 have y:b<((aO.alloc o).drewN m).heap.size:=by show b<(aO.alloc o).heap.size;simp;omega
 rw[aR.frozen_far _ y (λc=>av c.symm)];show(aO.alloc o).frozen? _=_;rw[(ez 0 0 _ o).frozen hb xaa];exact ad
theorem eJ{size P o}{W:World}(h:W.ownsRow base e size v n xs)(hP:v.ownBlock≠some P):(W.setCell ⟨P,o,none⟩ u).ownsRow base e size v n xs:=by
 refine⟨h.1,h.2.imp id ?_⟩;rintro⟨g,cap,H,e1,O,ax,Z⟩;refine⟨g,_,_,e1,O,?_,Z⟩;rw[Below.heap_setCell W _ u g (λc=>hP (by rw[e1,c];rfl))];exact ax
theorem AD(v:Vl):∀u∈v.cells,u.oneCell'=true:=λu aH=>by
 simp only[Vl.cells,List.mem_cons,List.not_mem_nil,or_false]at aH
 rcases aH with rfl|rfl|rfl|rfl|rfl|rfl<;>rfl
end
section
open Go.RowKit Flt
variable{ins outs:List Int}{us vs:List Vl}{u v:Vl}{k i:Nat}{S:List Vl×List Int}
theorem Fj(x):fb (fb x)=fb x:=by
 cases h:(f64.read x).isNaN
 ·rw[rn h,rn h]
 rw[mS h];decide
theorem fb_zero:fb 0=0:=xab
def cv(v:Vl):Vl:=⟨v.op,v.len,v.a,v.b,v.c,fb v.k⟩
def Lk(us vs:List Vl):Prop:=us.map cv=vs.map cv
theorem cv_zero:cv hI=hI:=by simp[cv,hI,fb_zero]
theorem lT(vs:List Vl)(k):(vs.map cv).getD k hI=cv (vs.getD k hI):=by
 rw[yai,yai,List.getElem?_map];cases vs[k]? with
 |none=>exact cv_zero.symm
 |some x=>rfl
theorem Lk.len(h:Lk us vs):us.length=vs.length:=by
 have:=congrArg List.length h;simpa using this
theorem Lk.at_(h:Lk us vs)(k):cv (us.getD k hI)=cv (vs.getD k hI):=by
 rw[<-lT,<-lT,h]
theorem Lk.refl(us):Lk us us:=rfl
theorem Lk.symm(h:Lk us vs):Lk vs us:=Eq.symm h
theorem Lk.trans{au}(h:Lk us vs)(h':Lk vs au):Lk us au:=Eq.trans h h'
theorem Lk.app(h:Lk us vs)(h':cv u=cv v):Lk (us++[u]) (vs++[v]):=by
 unfold Lk at*;simp[h,h']
theorem MA(ins vs i):okV ins (vs.map cv) i=okV ins vs i:=by
 unfold okV;rw[lT];have e:∀o:Int,((vs.map cv).getD _ _).len=(vs.getD o.toNat _).len:=λo=>by rw[lT];rfl
 simp only[e];rfl
theorem CZ(vs):fd (vs.map cv)=fd vs:=by
 induction vs with
 |nil=>rfl
 |cons v r aa=>simp[fd,aa,cv]
theorem Fk(ins vs outs):okG ins (vs.map cv) outs=okG ins vs outs:=by
 unfold okG;rw[CZ,List.length_map];have:=funext (MA ins vs);rw[this]
theorem Lk.okG(h:Lk us vs):okG ins us outs=okG ins vs outs:=by
 rw[<-Fk _ _,<-Fk _ vs,h]
def rnm(tq:List Int)(v:Vl):Vl:=
 ⟨v.op,v.len,if 0<cnt v.op then tq.getD v.a.toNat 0 else v.a,if 1<cnt v.op then tq.getD v.b.toNat 0 else v.b,if 2<cnt v.op then tq.getD v.c.toNat 0 else v.c,v.k⟩
theorem Fl(tq v):cv (rnm tq v)=rnm tq (cv v):=rfl
theorem ry(tq v):eQ (rnm tq v)=(eQ v).map λo=>tq.getD o.toNat 0:=by
 have h:=f9 v.op;unfold eQ rnm;simp only;rcases (by omega:cnt v.op=0\/cnt v.op=1\/cnt v.op=2\/cnt v.op=3) with e|e|e|e<;>simp[e]
theorem tD{j}(h:okV ins vs i=true)(r)(bD:(us.getD j hI).op=(vs.getD i hI).op)(b9:(us.getD j hI).len=(vs.getD i hI).len)
  (F:cnt (vs.getD i hI).op<1->(us.getD j hI).a=(vs.getD i hI).a) (hb:cnt (vs.getD i hI).op<2->(us.getD j hI).b=(vs.getD i hI).b) (ad:cnt (vs.getD i hI).op<3->(us.getD j hI).c=(vs.getD i hI).c)
  (bX:eQ (us.getD j hI)=(eQ (vs.getD i hI)).map r) (av:∀o∈eQ (vs.getD i hI),0<=o->o<i->(0<=r o/\r o<j)/\(us.getD (r o).toNat hI).len=(vs.getD o.toNat hI).len):okV ins us j=true:=by
 unfold okV at h⊢;generalize us.getD j _=u at*;generalize vs.getD i _=v at*;rw[Bool.and_eq_true,Bool.and_eq_true]at h;obtain⟨⟨B,J⟩,h3⟩:=h;have aG:gg u=true:=by grind[gg]
 rw[b9,B,aG,bD];simp only[Bool.true_and];by_cases ae:v.op=0
 ·grind[cnt]
 rw[hF ae]at h3⊢;rw[Bool.and_eq_true]at h3⊢
 have au:∀o∈eQ v,(0<=r o/\r o<j)/\(us.getD _ _).len=(vs.getD o.toNat _).len:=λo al=>by
  have:=of_decide_eq_true (List.all_eq_true.1 h3.1 o al)
  exact av o al this.1 this.2
 rw[bX];refine⟨?_,?_⟩
 ·rw[List.all_map,List.all_eq_true];intro o al;exact decide_eq_true (au o al).1
 have e:((eQ v).map r).map (λo=>(us.getD o.toNat hI).len)=(eQ v).map λo=>(vs.getD o.toNat hI).len:=by
  rw[List.map_map];apply List.map_congr_left;intro o al;exact(au o al).2
 grind[cnt,eY]
theorem nw(hi:i<vs.length)(h:okV ins vs i=true):okV ins (vs++[v]) i=true:=by
 have e:∀k,k<vs.length->(vs++[v]).getD k hI=vs.getD k hI:=λk N=>by
  exact xfe
 refine tD h id ?_ ?_ ?_ ?_ ?_ ?_ ?_
 ·rw[e i hi]
 ·rw[e i hi]
 ·intro _;rw[e i hi]
 ·intro _;rw[e i hi]
 ·intro _;rw[e i hi]
 ·rw[e i hi];simp
 intro o _ ae B;refine⟨⟨ae,B⟩,?_⟩;rw[e _ (by simp only[id];omega)];rfl
theorem ij(vs v):(vs++[v]).getD vs.length hI=v:=by
 exact xfc
theorem gX(vs v)(N:k<vs.length):(vs++[v]).getD k hI=vs.getD k hI:=by
 exact xfe
theorem nz(xs)(x:Int):(xs++[x]).getD xs.length 0=x:=by
 exact xfc
theorem pq(xs)(x:Int)(N:k<xs.length):(xs++[x]).getD k 0=xs.getD k 0:=by
 exact xfe
def f8(u v:Vl):Bool:=(u.op==v.op&&(u.len==v.len&&(u.a==v.a&&(u.b==v.b&&u.c==v.c))))&&(u.op !=1||fb u.k==fb v.k)
def isC(vs:List Vl)(i:Int)(k:Nat):Bool:=(vs.getD i.toNat hI).op==1&&fb (vs.getD i.toNat hI).k==k
def fQ(p:Int)(news:List Vl)(v:Vl)(i:Nat):Int:=
 if p=1 then (news.findIdx (f8 · v):Int)
 else if p=3 then (if v.op=6/\(news.getD v.a.toNat hI).op=6 then (news.getD v.a.toNat hI).a else i)
 else if (v.op=4\/v.op=5)/\isC news v.b 4607182418800017408=true then v.a
 else if v.op=4/\isC news v.a 4607182418800017408=true then v.b
 else if v.op=3/\isC news v.b 0=true then v.a
 else if v.op=2/\isC news v.b 9223372036854775808=true then v.a
 else if v.op=2/\isC news v.a 9223372036854775808=true then v.b
 else i
def fA(p:Int)(vs:List Vl):Nat->List Vl×List Int
 |0=>([],[])
 |i+1=>((fA p vs i).1++[rnm (fA p vs i).2 (vs.getD i hI)],(fA p vs i).2++[fQ p (fA p vs i).1 (rnm (fA p vs i).2 (vs.getD i hI)) i])
theorem Fm(u v):f8 (cv u) (cv v)=f8 u v:=by
 unfold f8 cv;simp[Fj]
theorem MB(vs i k):isC (vs.map cv) i k=isC vs i k:=by
 unfold isC;rw[lT];simp[cv,Fj]
theorem C4(p ao v i):fQ p (ao.map cv) (cv v) i=fQ p ao v i:=by
 unfold fQ
 have e:(ao.map cv).findIdx (f8 · (cv v))=ao.findIdx (f8 · v):=by
  rw[List.findIdx_map];congr 1;funext u;exact Fm u v
 rw[e];simp only[MB,lT];rfl
theorem wS(p vs):∀i,(fA p (vs.map cv) i)=((fA p vs i).1.map cv,(fA p vs i).2)
 |0=>rfl
 |i+1=>by
  have aa:=wS p vs i
  unfold fA
  rw[aa]
  simp only
  rw[lT,<-Fl,C4]
  simp
theorem qC(p vs):∀i,(fA p vs i).1.length=i/\(fA p vs i).2.length=i
 |0=>⟨rfl,rfl⟩
 |i+1=>by
  have aa:=qC p vs i
  unfold fA
  simp[aa.1,aa.2]
structure EqI(ins:List Int)(vs:List Vl)(i:Nat)(S:List Vl×List Int):Prop where
 l1:S.1.length=i
 l2:S.2.length=i
 to0:∀j,j<i->0<=S.2.getD j 0/\S.2.getD j 0<=j
 root:∀j,j<i->S.2.getD (S.2.getD j 0).toNat 0=S.2.getD j 0
 tlen:∀j,j<i->(S.1.getD (S.2.getD j 0).toNat hI).len=(vs.getD j hI).len
 len:∀j,j<i->(S.1.getD j hI).len=(vs.getD j hI).len
 ok:∀j,j<i->okV ins S.1 j=true
 opr:∀j,j<i->∀o∈eQ (S.1.getD j hI),(0<=o/\o<j)/\S.2.getD o.toNat 0=o
theorem i6(h:okV ins vs i=true):∀o∈eQ (vs.getD i hI),0<=o/\o<i:=by
 intro o al;unfold okV at h;generalize vs.getD i _=v at*;rw[Bool.and_eq_true]at h;have h3:=h.2;by_cases ae:v.op=0
 ·have c0:cnt v.op=0:=by rw[ae];rfl
  unfold eQ at al;rw[c0]at al;simp at al
 rw[hF ae,Bool.and_eq_true]at h3;exact of_decide_eq_true (List.all_eq_true.1 h3.1 o al)
theorem qD(h:okV ins vs i=true)(Z:(vs.getD i hI).op=2\/(vs.getD i hI).op=3\/(vs.getD i hI).op=4\/(vs.getD i hI).op=5\/(vs.getD i hI).op=6):∀o∈eQ (vs.getD i hI),(vs.getD o.toNat hI).len=(vs.getD i hI).len:=by
 intro o al;unfold okV at h;generalize vs.getD i _=v at*;rw[Bool.and_eq_true]at h;have h3:=h.2;rw[hF xaa,Bool.and_eq_true]at h3;have a0:=h3.2;unfold eY at a0;rw[hF xaa,hF xaa,hF xaa,hF xaa,hG xaa]at a0;have:=List.all_eq_true.1 a0 _ (List.mem_map_of_mem al);exact beq_iff_eq.1 this
theorem gm(h:1<=cnt v.op):v.a∈eQ v:=by
 have:=f9 v.op;unfold eQ;rcases (by omega:cnt v.op=1\/cnt v.op=2\/cnt v.op=3) with e|e|e<;>simp[e]
theorem jd(h:2<=cnt v.op):v.b∈eQ v:=by
 have:=f9 v.op;unfold eQ;rcases (by omega:cnt v.op=2\/cnt v.op=3) with e|e<;>simp[e]
theorem lU(h:3<=cnt v.op):v.c∈eQ v:=by
 have:=f9 v.op;unfold eQ;simp[(by omega:cnt v.op=3)]
theorem uM{op}(h:op=2\/op=3\/op=4\/op=5):cnt op=2:=by
 rcases h with rfl|rfl|rfl|rfl<;>decide
theorem C5(h:f8 u v=true):u.len=v.len:=by
 unfold f8 at h;simp only[Bool.and_eq_true,beq_iff_eq]at h;exact h.1.2.1
theorem Fo(h:f8 u v=true)(x):f8 x u=f8 x v:=by
 unfold f8 at h⊢;simp only[Bool.and_eq_true,beq_iff_eq,Bool.or_eq_true]at h;obtain⟨⟨aL,aJ,bS,au,ck⟩,J⟩:=h;rw[aL,aJ,bS,au,ck];rcases J with J|J
 ·rw[aL]at J;by_cases aH:x.op=v.op
  ·simp[aH,J]
  have:=yan aH;simp[this]
 rw[J]
theorem dF.qfd(h:Zp:=by
 refine tD h (λo=>S.2.getD o.toNat 0) ?_ ?_ ?_ ?_ ?_ ?_ ?_
 ·rw[af];rfl
 ·rw[af];rfl
 ·intro c;rw[af];unfold rnm;simp only;rw[hF xaa]
 ·intro c;rw[af];unfold rnm;simp only;rw[hF xaa]
 ·intro c;rw[af];unfold rnm;simp only;rw[hF xaa]
 ·rw[af];exact ry _ _
 intro o _ ae B;have t:=E.to0 o.toNat xaa;refine⟨⟨t.1,by omega⟩,?_⟩;rw[gX _ _ (by rw[E.l1];omega)];exact E.tlen _ xaa):Zp:=h
open dF in
theorem AE(E:EqI ins vs i S)(h:okV ins vs i=true):okV ins (S.1++[rnm S.2 (vs.getD i hI)]) i=true:=by
 exact qfc
theorem pr(E:EqI ins vs i S)(h:okV ins vs i=true):∀o∈eQ (rnm S.2 (vs.getD i hI)),(0<=o/\o<i)/\S.2.getD o.toNat 0=o:=by
 intro o al;rw[ry]at al;obtain⟨q,am,rfl⟩:=List.mem_map.1 al;have hb:=i6 h q am;have t:=E.to0 q.toNat xaa;exact⟨⟨t.1,by omega⟩,E.root _ xaa⟩
theorem cN.qct(h:Zp:=by
 refine⟨by omega,?_,?_⟩
 ·rw[Int.toNat_natCast];refine Or.elim (f _ hj ?_) id (λc=>absurd aV c);congr 1;funext u;rw[a6,Fo bu u]
 rw[Int.toNat_natCast,a6];rw[C5 bu];exact b9):Zp:=h
theorem cN.qfd(h:Zp:=by
 have b9:(rnm S.2 _).len=(vs.getD i hI).len:=rfl
 have g:((rnm S.2 (vs.getD i hI)).op=2\/(rnm S.2 (vs.getD i hI)).op=3\/(rnm S.2 (vs.getD i hI)).op=4\/(rnm S.2 (vs.getD i hI)).op=5\/(rnm S.2 (vs.getD i hI)).op=6)->∀o∈eQ (rnm S.2 (vs.getD i hI)),(S.1.getD o.toNat hI).len=(vs.getD i hI).len:=by
  intro Z o al;have:=qD bN (hO af Z) o (hO af al);rw[af,b9,gX _ _ (by rw[E.l1];have:=(bD o al).1;omega)]at this;exact this
 generalize aD:rnm S.2 _=v at*
 have e:∀o,o∈eQ v->(v.op=2\/v.op=3\/v.op=4\/v.op=5\/v.op=6)->(0<=o/\o<i)/\S.2.getD _ 0=o/\(S.1.getD o.toNat _).len=(vs.getD i _).len:=
  λo al Z=>⟨(bD o al).1,(bD o al).2,g Z o al⟩
 unfold fQ;by_cases aV:p=1
 ·rw[hG aV];by_cases a9:S.1.findIdx (f8 · v)<S.1.length
  ·right;exact qcs
  exact xid
 rw[hF aV];by_cases z:p=3
 ·rw[hG z];by_cases c:v.op=6/\(S.1.getD v.a.toNat hI).op=6
  ·rw[hG c];right;have aA:1<=cnt v.op:=by rw[c.1];decide
   have B:=e _ (gm aA) xaa;have hj:v.a.toNat<i:=xaa;have T:1<=cnt (S.1.getD v.a.toNat hI).op:=by rw[c.2];decide
   have J:=E.opr _ hj _ (gm T);have h3:=qD (E.ok _ hj) xaa _ (gm T);exact⟨⟨J.1.1,by omega⟩,J.2,hO h3 B.2.2⟩
  rw[hF c];left;rfl
 rw[hF z];by_cases c:(v.op=4\/v.op=5)/\isC S.1 v.b 4607182418800017408=true
 ·exact xfq
 rw[hF c];clear c;by_cases c:v.op=4/\isC S.1 v.a 4607182418800017408=true
 ·exact xiz
 rw[hF c];clear c;by_cases c:v.op=3/\isC S.1 v.b 0=true
 ·exact xfq
 rw[hF c];clear c;by_cases c:v.op=2/\isC S.1 v.b 9223372036854775808=true
 ·exact xfq
 rw[hF c];clear c;by_cases c:v.op=2/\isC S.1 v.a 9223372036854775808=true
 ·exact xiz
 rw[hF c];left;rfl):Zp:=h
open cN in
theorem C6(E:EqI ins vs i S)(h:okV ins vs i=true)(p)(f:∀j,j<i->(S.1.findIdx (f8 · (S.1.getD j hI))=j->S.2.getD j 0=j\/p≠1)):
  (fQ p S.1 (rnm S.2 (vs.getD i hI)) i=i)\/((0<=fQ p S.1 (rnm S.2 (vs.getD i hI)) i/\fQ p S.1 (rnm S.2 (vs.getD i hI)) i<i)/\S.2.getD (fQ p S.1 (rnm S.2 (vs.getD i hI)) i).toNat 0=fQ p S.1 (rnm S.2 (vs.getD i hI)) i/\(S.1.getD (fQ p S.1 (rnm S.2 (vs.getD i hI)) i).toNat hI).len=(vs.getD i hI).len):=by
 have bD:=pr E h;have bN:=AE E h;exact qfc
theorem tE(vs):∀i j,j<i->(fA 1 vs i).1.findIdx (f8 · ((fA 1 vs i).1.getD j hI))=j->(fA 1 vs i).2.getD j 0=j
 |0,j,hj,_=>by omega
 |i+1,j,hj,a9=>by
  have ab:=qC 1 vs i
  have e:fA 1 _ (i+1)=((fA 1 vs i).1++[rnm (fA 1 _ i).2 _],(fA 1 _ i).2++[fQ 1 _ _ i]):=rfl
  rw[e]at a9⊢
  simp only at a9⊢
  by_cases x:j<i
  ·rw[pq _ _ (hO ab.2 x)]
   rw[gX _ _ (hO ab.1 x),List.findIdx_append]at a9
   by_cases ad:(fA 1 vs i).1.findIdx (f8 · ((fA 1 vs i).1.getD j hI))<(fA 1 vs i).1.length
   ·rw[hG ad]at a9
    exact tE _ i j x a9
   ·rw[hF ad]at a9
    rw[ab.1]at a9 ad
    omega
  ·have t:j=i:=xaa
   subst t
   have e1:((fA 1 vs j).2++[fQ 1 (fA 1 vs j).1 (rnm (fA 1 vs j).2 (vs.getD j hI)) j]).getD j 0=fQ 1 (fA 1 vs j).1 (rnm (fA 1 vs j).2 (vs.getD j hI)) j:=by
    have:=nz (fA 1 vs j).2 (fQ 1 (fA 1 vs j).1 (rnm (fA 1 vs j).2 (vs.getD j hI)) j);rw[ab.2]at this
    exact this
   have e2:((fA 1 vs j).1++[rnm (fA 1 vs j).2 (vs.getD j hI)]).getD j hI=rnm (fA 1 vs j).2 (vs.getD j hI):=by
    have:=ij (fA 1 vs j).1 (rnm (fA 1 vs j).2 (vs.getD j hI));rw[ab.1]at this
    exact this
   rw[e1]
   rw[e2,List.findIdx_append]at a9
   unfold fQ
   rw[hG rfl]
   by_cases ad:(fA 1 vs j).1.findIdx (f8 · (rnm (fA 1 vs j).2 (vs.getD j hI)))<(fA 1 vs j).1.length
   ·rw[hG ad]at a9
    rw[a9]
   ·have:=List.findIdx_le_length (p:=(f8 · (rnm (fA 1 vs j).2 (vs.getD j hI)))) (xs:=(fA 1 vs j).1)
    rw[ab.1]at this ad;omega
theorem Fp(E:EqI ins vs i S)(h:okV ins vs i=true)(s:Int)(ar:s=i\/((0<=s/\s<i)/\S.2.getD s.toNat 0=s/\(S.1.getD s.toNat hI).len=(vs.getD i hI).len)):
  EqI ins vs (i+1) (S.1++[rnm S.2 (vs.getD i hI)],S.2++[s]):=by
 have bN:=AE E h;have bD:=pr E h;have bF:∀k,k<i->(S.1++[rnm S.2 (vs.getD i hI)]).getD k _=S.1.getD k _:=λk N=>gX _ _ (by rw[E.l1];exact N)
 have a9:(S.1++[rnm S.2 (vs.getD i hI)]).getD i hI=rnm S.2 (vs.getD i hI):=by
  exact xem
 have bf:∀k,k<i->(S.2++[s]).getD k 0=S.2.getD k 0:=λk N=>pq _ _ (by rw[E.l2];exact N)
 have aP:(S.2++[s]).getD i 0=s:=by
  have:=nz S.2 s;rw[E.l2]at this;exact this
 refine⟨by simp[E.l1],by simp[E.l2],?_,?_,?_,?_,?_,?_⟩
 ·intro j hj;simp only;by_cases c:j<i
  ·rw[bf j c];exact E.to0 j c
  have:j=i:=xaa;subst this;rw[aP];omega
 ·intro j hj;simp only;by_cases c:j<i
  ·have:=E.to0 j c;rw[bf j c,bf _ xaa];exact E.root j c
  have:j=i:=xaa;subst this;rw[aP];rcases ar with ar|⟨c9,cg,_⟩
  ·have e:s.toNat=j:=xaa;rw[e,aP]
  rw[bf _ xaa];exact cg
 ·intro j hj;simp only;by_cases c:j<i
  ·have:=E.to0 j c;rw[bf j c,bF _ xaa];exact E.tlen j c
  have:j=i:=xaa;subst this;rw[aP];rcases ar with ar|⟨c9,_,g⟩
  ·have e:s.toNat=j:=xaa;rw[e,a9];rfl
  rw[bF _ xaa];exact g
 ·intro j hj;simp only;by_cases c:j<i
  ·rw[bF j c];exact E.len j c
  have:j=i:=xaa;subst this;rw[a9];rfl
 ·intro j hj;simp only;by_cases c:j<i
  ·exact nw (by rw[E.l1];exact c) (E.ok j c)
  have:j=i:=xaa;subst this;exact bN
 intro j hj o al;simp only at al⊢;by_cases c:j<i
 ·rw[bF j c]at al;have:=E.opr j c o al;exact⟨this.1,by rw[bf _ xaa];exact this.2⟩
 have:j=i:=xaa;subst this;rw[a9]at al;have:=bD o al;exact⟨this.1,by rw[bf _ xaa];exact this.2⟩
theorem lV(ins vs p):∀i,(∀j,j<i->okV ins vs j=true)->EqI ins vs i (fA p vs i)
 |0,_=>⟨rfl,rfl,by intro j hj;omega,by intro j hj;omega,by intro j hj;omega,by intro j hj;omega,by intro j hj;omega,by intro j hj;omega⟩
 |i+1,h=>by
  have E:=lV _ _ p i (λj hj=>h j xaa)
  refine Fp E (h i xaa) _ (C6 E (h i xaa) p ?_)
  intro j hj a9
  by_cases aK:p=1
  ·subst aK
   exact .inl (tE _ i j hj a9)
  ·exact .inr aK
def kH(tq:List Int)(outs:List Int):List Int:=outs.map λo=>tq.getD o.toNat 0
def eqM(p:Int)(vs:List Vl)(outs:List Int):List Vl×List Int:=((fA p vs vs.length).1,kH (fA p vs vs.length).2 outs)
theorem fW(h:okG ins vs outs=true):(ins.length<=20/\vs.length<=2000/\outs.length<=50)/\ins.all lenB=true/\(∀j,j<vs.length->okV ins vs j=true)/\(∀o∈outs,0<=o/\o<vs.length)/\fd vs<=50000:=by
 unfold okG at h;simp only[Bool.and_eq_true]at h;obtain⟨B,J,h3,a0,bz⟩:=h;exact⟨of_decide_eq_true B,J,λj hj=>List.all_eq_true.1 h3 j (List.mem_range.2 hj),λo al=>of_decide_eq_true (List.all_eq_true.1 a0 o al),of_decide_eq_true bz⟩
theorem qE(B:ins.length<=20/\vs.length<=2000/\outs.length<=50)(J:ins.all lenB=true)(h3:∀j,j<vs.length->okV ins vs j=true)(a0:∀o∈outs,0<=o/\o<vs.length)(bz:fd vs<=50000):okG ins vs outs=true:=by
 unfold okG;simp only[Bool.and_eq_true];exact⟨decide_eq_true B,J,List.all_eq_true.2 λj hj=>h3 j (List.mem_range.1 hj),List.all_eq_true.2 λo al=>decide_eq_true (a0 o al),decide_eq_true bz⟩
theorem pt:∀(us vs:List Vl),us.length=vs.length->(∀j,j<us.length->(us.getD j hI).len=(vs.getD j hI).len)->fd us=fd vs
 |[],[],_,_=>rfl
 |u::us,v::vs,ab,h=>by
  have ae:=h 0 xac
  have:=pt _ _ (by simpa using ab) (λj hj=>by
   have:=h (j+1) yag
   simpa using this)
  simp only[fd,this]
  have ai:u.len=v.len:=by simpa using ae
  rw[ai]
theorem Fq(p)(h:okG ins vs outs=true):okG ins (eqM p vs outs).1 (eqM p vs outs).2=true:=by
 obtain⟨B,J,h3,a0,bz⟩:=fW h;have E:=lV _ _ p _ h3;have b1:=E.l1;unfold eqM;refine qE ⟨B.1,hO b1 B.2.1,by simp[kH];exact B.2.2⟩ J (λj hj=>E.ok j (hQ b1 hj)) ?_ ?_
 ·intro o al;simp only[kH,List.mem_map]at al;obtain⟨q,am,rfl⟩:=al;have hb:=a0 q am;have:=E.to0 q.toNat xaa;rw[b1];omega
 rw[pt _ _ b1 (λj hj=>E.len j (hQ b1 hj))];exact bz
theorem MC(p)(h:Lk us vs):Lk (eqM p us outs).1 (eqM p vs outs).1/\(eqM p us outs).2=(eqM p vs outs).2:=by
 have a:=wS p us us.length;have b:=wS p vs us.length;rw[h]at a;rw[a]at b;unfold eqM;rw[<-h.len];exact⟨congrArg Prod.fst b,by rw[congrArg Prod.snd b]⟩
def Kb(vs:List Vl):Prop:=∀v∈vs,v.k<18446744073709551616
theorem Kb.at_(h:Kb vs)(k):(vs.getD k hI).k<18446744073709551616:=by
 rw[yai];by_cases N:k<vs.length
 ·exact xju
 rw[List.getElem?_eq_none xaa];exact(by decide:hI.k<18446744073709551616)
theorem Kb.app(h:Kb vs)(aD:v.k<18446744073709551616):Kb (vs++[v]):=by
 intro u aH;simp only[List.mem_append,List.mem_singleton]at aH;rcases aH with c|rfl
 ·exact h u c
 exact aD
theorem jB(h:okV ins vs i=true):lenB (vs.getD i hI).len=true:=by
 grind[okV]
def ik(F:List Bool)(os:List Int):List Bool:=os.foldl (λF o=>F.set o.toNat true) F
theorem lg(s):∀F,(ik F s).length=F.length:=by
 induction s with
 |nil=>intro F;rfl
 |cons o r aa=>intro F;show(ik (F.set o.toNat true) r).length=_;rw[aa];simp
theorem jK(s i):∀F:List Bool,i<F.length->(ik F s).getD i false=(F.getD i false||s.any λo=>o.toNat==i):=by
 induction s with
 |nil=>intro F _;simp[ik]
 |cons o r aa=>
  intro F hi;show(ik (F.set o.toNat true) r).getD i false=_;rw[aa _ (by simp;exact hi)]
  have e:(F.set o.toNat true).getD i false=(F.getD i false||o.toNat==i):=by
   rw[yai,List.getElem?_set,yai];by_cases c:o.toNat=i
   ·subst c;simp[hi]
   simp[c]
  rw[e,List.any_cons,Bool.or_assoc]
def isO(outs:List Int)(i:Nat):Bool:=outs.any λo=>o==(i:Int)
def ndI(vs:List Vl)(outs:List Int):Nat->List Bool
 |0=>ik (List.replicate vs.length false) outs
 |k+1=>if (ndI vs outs k).getD (vs.length-1-k) false=true then ik (ndI vs outs k) (eQ (vs.getD (vs.length-1-k) hI))else ndI vs outs k
def ndG(outs:List Int)(G:List Bool)(i:Nat):List Bool:=G.set i (G.getD i false||isO outs i)
def ndS(vs:List Vl)(outs:List Int):Nat->List Bool
 |0=>List.replicate vs.length false
 |k+1=>if (ndG outs (ndS vs outs k) (vs.length-1-k)).getD (vs.length-1-k) false=true then ik (ndG outs (ndS vs outs k) (vs.length-1-k)) (eQ (vs.getD (vs.length-1-k) hI))else ndG outs (ndS vs outs k) (vs.length-1-k)
theorem mG(vs outs):∀k,(ndI vs outs k).length=vs.length
 |0=>by simp[ndI,lg]
 |k+1=>by
  rw[ndI]
  split
  ·rw[lg];exact mG _ _ k
  ·exact mG _ _ k
theorem pu(vs outs):∀k,(ndS vs outs k).length=vs.length
 |0=>by simp[ndS]
 |k+1=>by
  rw[ndS]
  split
  ·rw[lg];simp[ndG,pu vs outs k]
  ·simp[ndG,pu vs outs k]
theorem wU(G:List Bool)(j b i)(hi:i<G.length):(G.set j b).getD i false=if j=i then b else G.getD i false:=by
 exact xgr
theorem BO(vs outs)(al:∀o∈outs,0<=o/\o<vs.length):∀k,k<=vs.length->∀i,i<vs.length->(ndI vs outs k).getD i false=((ndS vs outs k).getD i false||isO outs i)
 |0,_,i,hi=>by
  rw[ndI,jK _ _ _ (by simpa using hi),ndS]
  congr 1
  unfold isO
  rw[Bool.eq_iff_iff,List.any_eq_true,List.any_eq_true]
  constructor
  ·rintro⟨o,B,J⟩
   have:=al o B
   have b3:o.toNat=i:=by simpa using J
   exact⟨o,B,by rw[beq_iff_eq];omega⟩
  ·rintro⟨o,B,J⟩
   rw[beq_iff_eq]at J
   exact⟨o,B,by rw[beq_iff_eq];omega⟩
 |k+1,N,i,hi=>by
  have aa:=BO _ _ al k xaa
  have b1:=mG vs outs k
  have ce:=pu vs outs k
  have hj:vs.length-1-k<vs.length:=xaa
  rw[ndI,ndS]
  generalize vs.length-1-k=j at*
  have a9:(ndG outs (ndS vs outs k) j).length=vs.length:=by simp[ndG,ce]
  have g:∀i,i<vs.length->(ndG _ _ j).getD i _=if j=i then ((ndS _ _ k).getD j _||isO outs j)else (ndS _ _ k).getD i _:=λi hi=>by
   unfold ndG;rw[wU _ _ _ _ (hO ce hi)]
  have bc:(ndG outs (ndS vs outs k) j).getD j false=(ndI vs outs k).getD j false:=by
   rw[g j hj,hG rfl,aa j hj]
  have au:(ndI vs outs k).getD i false=((ndG outs (ndS vs outs k) j).getD i false||isO outs i):=by
   rw[g i hi,aa i hi];by_cases c:j=i
   ·subst c;rw[hG rfl,Bool.or_assoc,Bool.or_self]
   ·rw[hF c]
  rw[bc]
  by_cases c:(ndI vs outs k).getD j false=true
  ·rw[hG c,hG c,jK _ _ _ (hO b1 hi),jK _ _ _ (hO a9 hi),au,Bool.or_assoc,Bool.or_assoc,Bool.or_comm (isO _ i)]
  ·rw[hF c,hF c];exact au
theorem BP(vs outs):∀k,k<=vs.length->∀i,vs.length-k<=i->i<vs.length->isO outs i=true->(ndS vs outs k).getD i false=true
 |0,_,i,B,J,_=>by omega
 |k+1,N,i,B,J,h3=>by
  have aa:=BP vs outs k xaa i
  have ce:=pu vs outs k
  rw[ndS]
  have hj:vs.length-1-k<vs.length:=xaa
  have e:vs.length-k=(vs.length-1-k)+1:=xaa
  have f:vs.length-(k+1)=vs.length-1-k:=xaa
  rw[e]at aa
  rw[f]at B
  generalize vs.length-1-k=j at*
  have a9:(ndG outs (ndS vs outs k) j).length=vs.length:=by simp[ndG,ce]
  have g:(ndG outs (ndS vs outs k) j).getD i false=true:=by
   unfold ndG;rw[wU _ _ _ _ (hO ce J)];by_cases c:j=i
   ·subst c;rw[hG rfl,h3,Bool.or_true]
   ·rw[hF c];exact aa xaa J h3
  split
  ·rw[jK _ _ _ (hO a9 J),g,Bool.true_or]
  ·exact g
theorem OV(vs outs)(al:∀o∈outs,0<=o/\o<vs.length):ndS vs outs vs.length=ndI vs outs vs.length:=by
 have b1:=mG vs outs vs.length;have ce:=pu vs outs vs.length;apply List.ext_getElem (by rw[b1,ce]);intro i B J;have a:=BO _ _ al _ yad i xaa;rw[yai,yam J,yai,yam B]at a;simp only[Option.getD_some]at a;rw[a];cases am:isO outs i
 ·simp
 have b:=BP vs _ _ yad i xaa xaa am;rw[yai,yam B]at b;simp only[Option.getD_some]at b;rw[b];rfl
theorem yz(h:(ndI vs outs k).getD i false=true):(ndI vs outs (k+1)).getD i false=true:=by
 have hi:i<(ndI vs outs k).length:=by
  rcases Nat.lt_or_ge i (ndI vs outs k).length with c|c
  ·exact c
  exact xjg
 rw[ndI];split
 ·rw[jK _ _ _ hi,h,Bool.true_or]
 exact h
theorem nC{ins vs outs}(aD:∀j,j<vs.length->okV ins vs j=true):∀k,k<=vs.length->∀i,vs.length-k<=i->i<vs.length->(ndI vs outs k).getD i false=true->∀o∈eQ (vs.getD i hI),(ndI vs outs k).getD o.toNat false=true
 |0,_,i,B,J,_,_,_=>by omega
 |k+1,N,i,B,J,h3,o,al=>by
  have b1:=mG vs outs k
  have hb:=i6 (aD i J) o al
  by_cases c:vs.length-k<=i
  ·refine yz (nC aD k xaa i c J ?_ o al)
   rw[ndI]at h3
   split at h3
   ·rw[jK _ _ _ (hO b1 J),Bool.or_eq_true]at h3
    rcases h3 with h3|h3
    ·exact h3
    ·exfalso
     rw[List.any_eq_true]at h3
     obtain⟨q,aL,aJ⟩:=h3
     have:=i6 (aD _ xaa) q aL
     rw[beq_iff_eq]at aJ
     omega
   ·exact h3
  ·have e:i=vs.length-1-k:=xaa
   rw[ndI]at h3⊢
   rw[<-e]at h3⊢
   by_cases d:(ndI vs outs k).getD i false=true
   ·rw[hG d,jK _ _ _ (hR b1),Bool.or_eq_true]
    right
    rw[List.any_eq_true]
    exact⟨o,al,by rw[beq_iff_eq]⟩
   ·rw[hF d]at h3
    exact absurd h3 d
theorem tF{vs outs}(al:∀o∈outs,0<=o/\o<vs.length):∀k,∀o∈outs,(ndI vs outs k).getD o.toNat false=true
 |0,o,h=>by
  have:=al o h
  rw[ndI,jK _ _ _ yag,Bool.or_eq_true]
  right
  rw[List.any_eq_true]
  exact⟨o,h,by rw[beq_iff_eq]⟩
 |k+1,o,h=>yz (tF al k o h)
def gI(F:List Bool)(vs:List Vl):Nat->List Vl×List Int
 |0=>([],List.replicate vs.length 0)
 |i+1=>if F.getD i false=true then ((gI F vs i).1++[rnm ((gI F vs i).2.set i (gI F vs i).1.length) (vs.getD i hI)],(gI F vs i).2.set i (gI F vs i).1.length)else gI F vs i
def kU(vs:List Vl)(outs:List Int):List Vl×List Int:=((gI (ndI vs outs vs.length) vs vs.length).1,kH (gI (ndI vs outs vs.length) vs vs.length).2 outs)
theorem AF(vs outs):∀k,ndI (vs.map cv) outs k=ndI vs outs k
 |0=>by simp[ndI]
 |k+1=>by
  rw[ndI,ndI,AF _ _ k,List.length_map,lT]
  rfl
theorem wV(F vs):∀i,gI F (vs.map cv) i=((gI F vs i).1.map cv,(gI F vs i).2)
 |0=>by simp[gI]
 |i+1=>by
  rw[gI,gI,wV F _ i]
  simp only[List.length_map]
  split
  ·rw[lT,<-Fl]
   simp
  ·rfl
theorem Fr(h:Lk us vs):Lk (kU us outs).1 (kU vs outs).1/\(kU us outs).2=(kU vs outs).2:=by
 have e:ndI us outs us.length=ndI vs outs us.length:=by rw[<-AF _,<-AF vs,h]
 unfold kU;rw[<-h.len,e];have a:=wV (ndI vs outs us.length) us us.length;have b:=wV (ndI vs outs us.length) vs us.length;rw[h]at a;rw[a]at b;exact⟨congrArg Prod.fst b,by rw[congrArg Prod.snd b]⟩
structure DkI(ins:List Int)(F:List Bool)(vs:List Vl)(i:Nat)(S:List Vl×List Int):Prop where
 l2:S.2.length=vs.length
 l1:S.1.length<=i
 to0:∀j,j<i->F.getD j false=true->0<=S.2.getD j 0/\S.2.getD j 0<S.1.length
 tlen:∀j,j<i->F.getD j false=true->(S.1.getD (S.2.getD j 0).toNat hI).len=(vs.getD j hI).len
 ok:∀j,j<S.1.length->okV ins S.1 j=true
 cells:fd S.1<=fd (vs.take i)
theorem wW(G:List Int)(j b i)(hi:i<G.length):(G.set j b).getD i 0=if j=i then b else G.getD i 0:=by
 exact xgr
theorem sK{ins F vs}(aD:∀j,j<vs.length->okV ins vs j=true)(bp:∀i,i<vs.length->F.getD i false=true->∀o∈eQ (vs.getD i hI),F.getD o.toNat false=true):∀i,i<=vs.length->DkI ins F vs i (gI F vs i)
 |0,_=>⟨by simp[gI],yad,by intro j hj;omega,by intro j hj;omega,by intro j hj;simp[gI]at hj,by simp[gI]⟩
 |i+1,hi=>by
  have D:=sK aD bp i xaa
  have b9:1<=(vs.getD i hI).len:=by
   have:=jB (aD i xaa);have:=of_decide_eq_true this
   omega
  rw[gI]
  by_cases c:F.getD i false=true
  ·rw[hG c]
   generalize aZ:gI F _ i=S at*;have ay:∀j,j<vs.length->(S.2.set i _).getD j 0=if i=j then (S.1.length:Int)else S.2.getD j 0:=λj hj=>wW _ _ _ _ (hO D.l2 hj)
   have h:okV ins (S.1++[rnm (S.2.set i S.1.length) (vs.getD i hI)]) S.1.length=true:=by
    have af:=ij S.1 (rnm (S.2.set i S.1.length) (vs.getD i hI));refine tD (aD i xaa) (λo=>(S.2.set i S.1.length).getD o.toNat 0) ?_ ?_ ?_ ?_ ?_ ?_ ?_
    ·rw[af];rfl
    ·rw[af];rfl
    ·intro c;rw[af];unfold rnm;simp only;rw[hF xaa]
    ·intro c;rw[af];unfold rnm;simp only;rw[hF xaa]
    ·intro c;rw[af];unfold rnm;simp only;rw[hF xaa]
    ·rw[af];exact ry _ _
    intro o al ae B;have g:=bp i xaa c o al;have t:=D.to0 _ xaa g;rw[ay _ xaa,hF xaa];refine⟨t,?_⟩;rw[gX _ _ xaa];exact D.tlen _ xaa g
   refine⟨by simp[D.l2],by simp;have:=D.l1;omega,?_,?_,?_,?_⟩
   ·intro j hj f;simp only;rw[ay _ xaa];rw[yal,List.length_singleton];by_cases e:i=j
    ·rw[hG e];omega
    rw[hF e];have:=D.to0 j xaa f;omega
   ·intro j hj f;simp only;rw[ay _ xaa];by_cases e:i=j
    ·subst e;rw[hG rfl,Int.toNat_natCast,ij];rfl
    rw[hF e];have:=D.to0 j xaa f;rw[gX _ _ xaa];exact D.tlen j xaa f
   ·intro j hj;simp only at hj⊢;rw[yal,List.length_singleton]at hj;by_cases e:j<S.1.length
    ·exact nw e (D.ok j e)
    have:j=S.1.length:=xaa;subst this;exact h
   ·simp only
    rw[pO,mF xaa]
    have:=D.cells
    have e:(rnm (S.2.set i S.1.length) _).len=(vs.getD i hI).len:=rfl
    omega
  ·rw[hF c]
   refine⟨D.l2,hM D.l1,?_,?_,D.ok,?_⟩
   ·intro j hj f;by_cases e:j=i
    ·subst e;exact absurd f c
    exact D.to0 j xaa f
   ·intro j hj f;by_cases e:j=i
    ·subst e;exact absurd f c
    exact D.tlen j xaa f
   rw[mF xaa];have:=D.cells;omega
theorem yB(h:okG ins vs outs=true):okG ins (kU vs outs).1 (kU vs outs).2=true:=by
 obtain⟨B,J,h3,a0,bz⟩:=fW h;have D:=sK (F:=ndI _ outs _) h3 (λi hi bp o al=>nC h3 _ yad i xaa hi bp o al) _ yad;have b1:=D.l1;unfold kU;refine qE ⟨B.1,by simp only;omega,by simp[kH];exact B.2.2⟩ J D.ok ?_ ?_
 ·intro o al;simp only[kH,List.mem_map]at al;obtain⟨q,am,rfl⟩:=al;have hb:=a0 q am;exact D.to0 _ xaa (tF a0 _ q am)
 have:=D.cells;rw[yap yad]at this;simp only;omega
theorem tG(x y w)(ak:x<18446744073709551616)(bX:y<18446744073709551616):
  Calls prog 151 #[.float .f64 x,.float .f64 y] w λe I=>e=.returned (.bool ((fb x:Int)==(fb y:Int)))/\I=w:=by
 obtain⟨s,r,av,rfl⟩:=jl x ak;obtain⟨t,q,am,rfl⟩:=jl y bX;clear ak bX;by_cases B:r<=9218868437227405312
 ·have n1:=mE (s:=s) B;by_cases J:q<=9218868437227405312
  ·have T:=mE (s:=t) J;rw[om B,om J,LT av am];have ar:(FloatKind.f64.format.order (W s r) (W t q)==some .eq)=_:=s7 (s:=s) (t:=t) B J;by_cases ad:r=q/\(s=t\/r=0)
   ·rw[decide_eq_true ad]at ar;rw[show decide (r=q/\s=t)=(s==t) by cases s<;>cases t<;>simp[ad.1]];clear ad;go_enter func151,ntmps151;go_wp2_with fail;refine(gK _ _).mono ?_;rintro e I ⟨rfl,rfl⟩;go_wp2_with fail;refine(gK _ _).mono ?_;rintro e I ⟨rfl,rfl⟩;go_wp2_with fail;refine(sb s r _ B).mono ?_;rintro e I ⟨rfl,rfl⟩;go_wp2_with fail;refine(sb t q _ J).mono ?_;rintro e I ⟨rfl,rfl⟩;go_wp2;go_ret;exact⟨rfl,rfl⟩
   rw[yay ad]at ar;rw[show decide (r=q/\s=t)=false from yay (λc=>ad ⟨c.1,.inl c.2⟩)];clear ad;go_enter func151,ntmps151;exact xci
  have T:=ng (s:=t) (by omega:9218868437227405312<q) am;rw[om B,nh xaa am,show(((9221120237041090560:Nat)):Int)=9221120237041090560 from rfl,(qu B).1];exact xce
 have n1:=ng (s:=s) (by omega:9218868437227405312<r) av;by_cases J:q<=9218868437227405312
 ·have T:=mE (s:=t) J;rw[om J,nh xaa av,show(((9221120237041090560:Nat)):Int)=9221120237041090560 from rfl,(qu J).2];exact xce
 have T:=ng (s:=t) (by omega:9218868437227405312<q) am;rw[nh xaa av,nh xaa am,show(((9221120237041090560:Nat):Int)==((9221120237041090560:Nat):Int))=true from beq_self_eq_true _];exact xce
end
section
open Go.RowKit Flt
attribute[local go_sem] eG eE eD
variable{w I b c W':World}{op len A R C x y z:Int}{base lo e hi size p g d n l h q n1 K T cap off:Nat}{bl S:Nat->Prop}{tq ins xs:List Int}{bH O ax:Value}{a:Option Addr}
theorem C7(b w):
  Calls prog 135 #[.int .u64 b] w λe I=>e=.returned (.float .f64 b.toNat)/\I=w:=by
 have ad:=E7;go_enter func135,ntmps135;go_wp2;go_ret;exact⟨rfl,rfl⟩
theorem sM(x y:Nat):((x:Int)==y)=(x==y):=by
 rw[Bool.eq_iff_iff,beq_iff_eq,beq_iff_eq];omega
def qF(op:Int):Bool:=op==4||op==2
theorem Fs(op w):Calls prog 97 #[hD op] w λe I=>e=.returned (.bool (qF op))/\I=w:=by
 unfold qF;cases aP:(op==4)
 ·cases aY:(op==2)
  all_goals
   go_enter func97,ntmps97
   go_wp2
   go_ret
   exact⟨rfl,rfl⟩
 go_enter func97,ntmps97;go_wp2;go_ret;exact⟨rfl,rfl⟩
def nR(op:Int):Nat:=if op=4\/op=5 then 4607182418800017408 else if op=2 then 9223372036854775808 else 0
def tH(op:Int):Bool:=decide (op=4\/op=5\/op=3\/op=2)
theorem C8(op w):Calls prog 95 #[hD op] w λe I=>e=.returned (.tuple #[.float .f64 (nR op),.bool (tH op)])/\I=w:=by
 rcases (by omega:op=4\/op=5\/op=3\/op=2\/(op≠4/\op≠5/\op≠3/\op≠2)) with rfl|rfl|rfl|rfl|h
 ·exact xet
 ·exact xet
 ·exact xet
 ·go_enter func95,ntmps95;go_wp2_with fail;refine(C7 _ _).mono ?_;rintro e ag ⟨rfl,rfl⟩;go_wp2;go_ret2
  exact⟨rfl,rfl⟩
 have e1:nR op=0:=by unfold nR;rw[hF xaa,hF xaa]
 have e2:tH op=false:=yay xaa;rw[e1,e2];have aP:=yan h.1;have aY:=yan h.2.1;have bW:=yan h.2.2.1;have b3:=yan h.2.2.2;clear h e1 e2;exact xet
theorem vh(w)(v:Vl)(k):Calls prog 96 #[v.agg,.float .f64 k] w λe I=>e=.returned (.bool (v.op==1&&fb v.k==fb k))/\Kept 0 0 w I:=by
 have au:V (∀w,Calls _ _ _ w λe I=>e=.returned _/\I=w):=λw=>(yo v.k k w).mono λ_ _ h=>⟨by rw[h.1,sM],h.2⟩
 generalize (fb _==fb k)=q at au⊢;cases t:(v.op==1)
 ·go_enter func96,ntmps96;go_wp2;go_ret;exact⟨rfl,ez _ _ _ _⟩
 go_enter func96,ntmps96;exact xgt
theorem C9(w u v)(aH:u.k<18446744073709551616)(aD:v.k<18446744073709551616):Calls prog 128 #[u.agg,v.agg] w λe I=>e=.returned (.bool (f8 u v))/\Kept 0 0 w I:=by
 have au:V (∀w,Calls _ _ _ w λe I=>e=.returned _/\I=w):=λw=>(tG _ _ w aH aD).mono λ_ _ h=>⟨by rw[h.1,sM],h.2⟩
 unfold f8;clear aH aD;generalize (fb _==fb _)=q at au⊢;have ah:∀(o j:Obj),_:=λo j=>(ez 0 0 w o).trans (ez 0 0 _ j);have HK:V _:=ah;clear ah;cases aP:(u.op==v.op)
 ·have ao:(u.op !=v.op)=true:=by rw[bne,aP];rfl
  clear aP;exact xdi
 have ao:(u.op !=v.op)=false:=by rw[bne,aP];rfl
 cases aY:(u.len==v.len)
 ·have aG:(u.len !=v.len)=true:=by rw[bne,aY];rfl
  clear aP aY;exact xdi
 have aG:(u.len !=v.len)=false:=by rw[bne,aY];rfl
 cases bW:(u.a==v.a)
 ·have Q:(u.a !=v.a)=true:=by rw[bne,bW];rfl
  clear aP aY bW;exact xdi
 have Q:(u.a !=v.a)=false:=by rw[bne,bW];rfl
 cases b3:(u.b==v.b)
 ·have cf:(u.b !=v.b)=true:=by rw[bne,b3];rfl
  clear aP aY bW b3;exact xdi
 have cf:(u.b !=v.b)=false:=by rw[bne,b3];rfl
 cases b2:(u.c==v.c)
 ·have bv:(u.c !=v.c)=true:=by rw[bne,b2];rfl
  clear aP aY bW b3 b2;exact xdi
 have bv:(u.c !=v.c)=false:=by rw[bne,b2];rfl
 cases b5:(u.op !=1)
 ·clear aP aY bW b3 b2;go_enter func128,ntmps128;go_wp2_with fail;refine yaj (au.o _) ?_;rintro e ag ⟨rfl,rfl⟩;go_wp2;go_ret;exact⟨by simp,HK.o _ _⟩
 clear aP aY bW b3 b2;go_enter func128,ntmps128;go_wp2;go_ret;exact⟨by simp,HK.o _ _⟩
theorem dD.qew(h:Zp:=by
 clear be aw aD N;generalize (fb _==fb k)=q at au⊢;cases t:(v.op==1)
 ·go_enter func152,ntmps152;go_wp2;go_ret;exact⟨rfl,ez _ _ _ _⟩
 go_enter func152,ntmps152;exact xgt):Zp:=h
open dD in
theorem Da(w a1 a3 n1 c1 T c2 n3 c3 ap bO i v k)(aR:ap<w.heap.size)(hi:i<T)(be:At w ap (bO+i*6) v)(aD:v.k<18446744073709551616)(N:k<18446744073709551616):
  Calls prog 152 #[eV a1 n1 c1 (some ⟨ap,bO,none⟩) T c2 a3 n3 c3,hD i,.float .f64 k] w λe I=>e=.returned (.bool (v.op==1&&fb v.k==fb k))/\Kept 0 0 w I:=by
 have au:V (∀w,Calls _ _ _ w λe I=>e=.returned _/\I=w):=λw=>(tG _ k w aD N).mono λ_ _ h=>⟨by rw[h.1,sM],h.2⟩
 exact qev
def IZ(w:World)(g:Nat)(a:Option Addr)(n:Nat)(xs:List Int):Prop:=n=0\/(a=some ⟨g,0,none⟩/\IBk w g n xs)
def VZ(w:World)(g:Nat)(a:Option Addr)(n:Nat)(vs:List Vl):Prop:=n=0\/(a=some ⟨g,0,none⟩/\VA w g n vs)
theorem IZ.keep(f:IZ w g a n xs)(k:Kept l h w I)(G:g<l\/h<=g\/h<=l):IZ I g a n xs:=f.imp id λ⟨e,q⟩=>⟨e,q.keep k G⟩
theorem VZ.keep{xs}(f:VZ w g a n xs)(k:Kept l h w I)(G:g<l\/h<=g\/h<=l):VZ I g a n xs:=f.imp id λ⟨e,q⟩=>⟨e,q.keep k G⟩
theorem G0.keepT{W}(t:G0 W p bH O ax)(k:Kept l h W W')(G:p<l\/h<=p\/h<=l):G0 W' p bH O ax:=by
 have e:∀o,_:=λo=>k.cell (p:=⟨p,o,none⟩) t.sz (by grind);exact⟨yak t.sz k.size,hO e t.q0,hO e t.q1,hO e t.q2⟩
theorem Kept.chg1(k:Kept g (g+1) w I)(h:S g):Chg S w I:=
 ⟨k.os,k.tape,k.output,k.size,λi hi hn=>k.block i hi λc=>hn ((show g=i by omega) ▸ h)⟩
theorem Chg.andThen{a}(h:Chg S a b)(k:Chg S b c):Chg S a c:=
 ⟨k.os.trans h.os,k.tape.trans h.tape,k.output.trans h.output,yao h.size k.size,λi hi hn=>(k.block i (yak hi h.size) hn).trans (h.block i hi hn)⟩
theorem IZ.keepC(f:IZ w g a n xs)(k:Chg S w I)(G:¬S g):IZ I g a n xs:=f.imp id λ⟨e,q⟩=>⟨e,q.len,yak q.lt k.size,λj hj=>by rw[k.cell q.lt G];exact q.at_ j hj,λo=>by rw[k.frozen q.lt G];exact q.free o⟩
theorem VZ.keepC{vs}(f:VZ w g a n vs)(k:Chg S w I)(G:¬S g):VZ I g a n vs:=f.imp id λ⟨e,q⟩=>⟨e,q.len,yak q.lt k.size,λj hj=>by
 have e:∀o,_:=λo=>k.cell (p:=⟨g,o,none⟩) q.lt G
 obtain⟨c0,c1,c2,c3,c4,c5⟩:=q.at_ j hj
 exact⟨by grind,by grind,by grind,by grind,by grind,by grind⟩,λo=>by rw[k.frozen q.lt G];exact q.free o⟩
theorem eR{v xs W}(h:W.ownsRow base e size v n xs)(k:Kept 0 0 W W'):W'.ownsRow base e size v n xs:=by
 refine⟨h.1,h.2.imp id ?_⟩;rintro⟨g,cap,H,e1,O,ax,Z⟩;refine⟨g,_,_,e1,O,?_,Z⟩;have aR:g<W.heap.size:=by grind
 rw[k.block g aR xaa];exact ax
theorem OW(ak:xs.length=n)(ad:∀k,k<n->w.cell? ⟨g,k,none⟩=some (hD (xs.getD k 0))):
  ∀j u,(xs.map (Value.int .i64))[j]? =some u->w.cell? ((⟨g,0,none⟩:Addr).add j)=some u:=λj u aH=>by
 have hj:j<n:=by
  rcases Nat.lt_or_ge j n with c|c
  ·exact c
  ·rw[List.getElem?_eq_none yag]at aH;cases aH
 have B:=ad j hj
 have e:(⟨g,0,none⟩:Addr).add j=⟨g,j,none⟩:=by
  unfold Addr.add;split
  ·rename_i ae;rw[ae]
  ·simp
 rw[e,B]
 rw[List.getElem?_map,yam (by omega:j<xs.length)]at aH
 simp only[Option.map_some]at aH
 rw[<-aH,yai,yam (by omega:j<xs.length)];rfl
theorem OX{vs}(ak:vs.length=n)(ad:∀k,k<n->At w g (k*6) (vs.getD k hI)):
  ∀j u,(fK vs)[j]? =some u->w.cell? ((⟨g,0,none⟩:Addr).add j)=some u:=λj u aH=>by
 have hj:j<n*6:=by
  rcases Nat.lt_or_ge j (n*6) with c|c
  ·exact c
  ·rw[List.getElem?_eq_none (by rw[qB];omega)]at aH;cases aH
 have e:(⟨g,0,none⟩:Addr).add j=⟨g,j,none⟩:=by
  unfold Addr.add;split
  ·rename_i ae;rw[ae]
  ·simp
 have t:j=j/6*6+j%6:=xaa
 have N:j/6<n:=xaa
 rw[t,sJ _ _ _ xaa xaa]at aH
 rw[e,t]
 obtain⟨c0,c1,c2,c3,c4,c5⟩:=ad _ N
 have:j%6=0\/j%6=1\/j%6=2\/j%6=3\/j%6=4\/j%6=5:=xaa
 rcases this with h|h|h|h|h|h
 all_goals
  rw[h]at aH⊢;simp[Vl.cells]at aH
  subst aH
 ·rw[Nat.add_zero];exact c0
 ·exact c1
 ·exact c2
 ·exact c3
 ·exact c4
 ·exact c5
theorem mH{Q}(h:w.grownBy I Q)(av:∀k,Q=some k->base<=k){H}(k:Kept 0 0 H w)(hb:H.heap.size<=base):Kept 0 0 H I:=
 ⟨h.os.trans k.os,h.tape.trans k.tape,h.output.trans k.output,yao k.size h.size,λi hi _=>by
  rw[h.block i (yak hi k.size) (λc=>by grind)]
  exact k.block i hi xaa⟩
theorem MD:∀(vs:List Vl),∀u∈fK vs,u.oneCell'=true
 |[],_,h=>by cases h
 |v::r,u,h=>by
  rcases List.mem_append.1 h with c|c
  ·exact AD v u c
  ·exact MD r u c
theorem yC{v xs}{W:World}(h:W.ownsRow base e size v n xs)(aD:v≠.slice none 0 0):∃g cap,v=hC g n cap/\base<=g/\g<W.heap.size:=by
 rcases h.2 with⟨e,_⟩|⟨g,cap,H,e,O,ax,_⟩<;>grind
theorem ME(w g n c xs)(ce:n<=1000000)(h:IE w g xs)(ak:xs.length=n):
  Calls prog 59 #[hC g n c] w λe I=>∃G cap,e=.returned (hC G n cap)/\w.heap.size<=G/\G<I.heap.size/\I.ownsRow w.heap.size 3 1 (hC G n cap) n (xs.map (Value.int .i64))/\Kept 0 0 w I:=by
 obtain⟨b3,hi,a6,b8,b5⟩:=info_parts qz
 have i:(binOp .eql 23 (hC g n c) (.slice none 0 0)).run prog w=.ok (.bool false) w:=by
  simp only[binOp];simp[run_equal_slice_nil w 23 3 (some ⟨g,0,none⟩) n c underlying23]
 have bx:=ez 0 0 w (.cells #[] 3);have ad:∀k,k<n->_:=λk N=>h.cell k xaa;have bu:V _:=OW ak (λk N=>iF bx h.lt (ad k N));have HO:V _:=World.ownsRow_made (e:=3) (size:=1) w #[] 0 yad (by unfold maxLen;omega) rfl;have f:V _:=bx;have bn:V _:=ak;clear ad ak bx h;go_enter func59,ntmps59;go_wp2_with (first|(at_builtin;refine wpList_append_own _ rfl _ _ _ rfl _ 3 _ _ 1 8 underlying23 hi a6 b8 b5 rfl xab _ _ _ rfl HO.o _ n c _ rfl ?c0 bu.o ?c2 ?c3 ?c4 ?c5 ?_))
 case c0=>exact bn.o
 case c2=>intro u aH;rfl
 case c3=>unfold maxLen;omega
 case c4=>omega
 exact xec
theorem MF(w g n c vs)(ce:n<=1000000)(h:VA w g n vs):
  Calls prog 60 #[hC g n c] w λe I=>∃G cap,e=.returned (hC G n cap)/\w.heap.size<=G/\G<I.heap.size/\I.ownsRow w.heap.size 60 6 (hC G n cap) n (fK vs)/\Kept 0 0 w I:=by
 obtain⟨b3,hi,a6,b8,b5⟩:=info_parts sc
 have i:(binOp .eql 24 (hC g n c) (.slice none 0 0)).run prog w=.ok (.bool false) w:=by
  simp only[binOp];simp[run_equal_slice_nil w 24 60 (some ⟨g,0,none⟩) n c underlying24]
 have bx:=ez 0 0 w (.cells #[] 60);have bu:V _:=OX h.len (λk N=>(h.at_ k N).keep h.lt bx yaa);have HO:V _:=World.ownsRow_made (e:=60) (size:=6) w #[] 0 yad (by unfold maxLen;omega) rfl;have f:V _:=bx;have bn:V _:=h.len;clear bx h;go_enter func60,ntmps60;go_wp2_with (first|(at_builtin;refine wpList_append_own _ rfl _ _ _ rfl _ 60 _ _ 6 _ underlying24 hi a6 b8 b5 rfl xab _ _ _ rfl HO.o _ n c _ rfl ?c0 bu.o ?c2 ?c3 ?c4 ?c5 ?_))
 case c0=>rw[qB,bn.o]
 case c2=>exact MD _
 case c3=>unfold maxLen;omega
 case c4=>omega
 exact xec
theorem gY(h:q<xs.length):xs.getD q 0∈xs:=by
 simp_all
theorem je{f v xs}{W:World}(h:W.ownsRow base e size v n xs)(hb:f<=base):W.ownsRow f e size v n xs:=
 ⟨h.1,h.2.imp id λ⟨g,cap,H,e1,O,ax⟩=>⟨g,cap,H,e1,yao hb O,ax⟩⟩
theorem Kept.drew(h:Kept lo hi w I):Kept lo hi w I.drew:=⟨h.os,h.tape,h.output,h.size,h.block⟩
theorem cF.qcn(h:Zp:=by
 have:=G g (by rw[e1];rfl);rw[k.block g aR xaa];exact ax):Zp:=h
open cF in
theorem fX{v xs W}(o:W.ownsRow base e size v n xs)(k:Kept l h W W')(G:∀g,v.ownBlock=some g->g<l\/h<=g):W'.ownsRow base e size v n xs:=by
 exact qcm
abbrev OI(w:World)(base G n cap:Nat)(xs:List Int):Prop:=w.ownsRow base 3 1 (.slice (some ⟨G,0,none⟩) n cap) n (xs.map (Value.int .i64))
abbrev OY:Value:=.agg #[.slice none 0 0,.slice none 0 0,.slice none 0 0]
abbrev fj:Obj:=.cells #[.slice none 0 0,.slice none 0 0,.slice none 0 0] 26
structure RB(W:World)(p:Nat)(b0 b1 b2:Value):Prop where
 sz:p<W.heap.size
 q0:W.cell? ⟨p,0,none⟩=some b0
 q1:W.cell? ⟨p,1,none⟩=some b1
 q2:W.cell? ⟨p,2,none⟩=some b2
 f0:W.frozen? ⟨p,0,none⟩=false
 f1:W.frozen? ⟨p,1,none⟩=false
 f2:W.frozen? ⟨p,2,none⟩=false
theorem RB.keep{W}(t:RB W p bH O ax)(k:Kept 0 0 W W'):RB W' p bH O ax:=
 ⟨yak t.sz k.size,iF k t.sz t.q0,iF k t.sz t.q1,iF k t.sz t.q2,by rw[k.frozen t.sz xaa];exact t.f0,by rw[k.frozen t.sz xaa];exact t.f1,by rw[k.frozen t.sz xaa];exact t.f2⟩
theorem fF(w:World):RB (w.alloc fj) w.heap.size (.slice none 0 0) (.slice none 0 0) (.slice none 0 0):=by
 exact xiu
theorem eZ(w:World)(g a b c)(ae:w.cell? ⟨g,0,none⟩=some a)(B:w.cell? ⟨g,1,none⟩=some b)(J:w.cell? ⟨g,2,none⟩=some c)(x y z):
  (((w.setCell ⟨g,0,none⟩ x).setCell ⟨g,1,none⟩ y).setCell ⟨g,2,none⟩ z).cell? ⟨g,0,none⟩=some x/\(((w.setCell ⟨g,0,none⟩ x).setCell ⟨g,1,none⟩ y).setCell ⟨g,2,none⟩ z).cell? ⟨g,1,none⟩=some y/\(((w.setCell ⟨g,0,none⟩ x).setCell ⟨g,1,none⟩ y).setCell ⟨g,2,none⟩ z).cell? ⟨g,2,none⟩=some z:=by
 refine⟨?_,?_,?_⟩
 ·rw[eM _ _ _ _ _ _ (.inr xaa),eM _ _ _ _ _ _ (.inr xaa)];exact fD _ _ _ _ _ ae
 ·rw[eM _ _ _ _ _ _ (.inr xaa)];exact fD _ _ _ _ _ (by rw[eM _ _ _ _ _ _ (.inr xaa)];exact B)
 exact fD _ _ _ _ _ (by rw[eM _ _ _ _ _ _ (.inr xaa),eM _ _ _ _ _ _ (.inr xaa)];exact J)
theorem eF(w):Kept 0 0 w w.drew:=⟨rfl,rfl,rfl,yad,λ_ _ _=>rfl⟩
theorem jp{v xs}{W:World}(h:W.ownsRow base e size v n xs):∃a cap,v=.slice a n cap:=by
 rcases h.2 with⟨e,rfl⟩|⟨g,cap,H,e,_⟩<;>grind
def Apart(u v:Value):Prop:=∀k,u.ownBlock=some k->v.ownBlock≠some k
theorem mW{O ax e1 e2 ao aG:Nat}{u v xs bT}{W:World}(B:W.ownsRow O e1 ao u n1 xs)(J:W'.ownsRow ax e2 aG v T bT)(hb:W.heap.size<=ax):Apart u v:=λk N aD=>by
 have:=(eH B N).2
 have:=(eH J aD).1
 omega
theorem Ft(w:World)(P R o x y z)(h:R≠P):(((w.setCell ⟨P,0,none⟩ x).setCell ⟨P,1,none⟩ y).setCell ⟨P,2,none⟩ z).cell? ⟨R,o,none⟩=w.cell? ⟨R,o,none⟩:=by
 exact xhd
theorem tI{W b}(h:W.ownsRow base 3 1 (.slice b n d) n (xs.map (Value.int .i64)))(ab:xs.length=n):n=0\/∃g,b=some ⟨g,0,none⟩/\base<=g/\IBk W g n xs:=by
 rcases h.2 with⟨_,c⟩|⟨g,cap,H,e,O,ax,Z,_,cj,bG⟩
 ·exact .inl c
 injection e with aL aJ bS;subst aL;have aR:g<W.heap.size:=by grind
 refine .inr ⟨g,rfl,O,ab,aR,λk N=>?_,λo=>frozen_of_row W g o _ _ ax⟩;rw[cell_of_row W g _ _ _ _ ax,<-Array.getElem?_toList];exact xin
theorem IZ.is{W}(h:IZ W g a n xs)(ab:xs.length=n):IS W 0 W.heap.size a n xs:=
 ⟨ab,by
  rcases h with ae|⟨rfl,q⟩
  ·exact .inl ae
  ·exact .inr ⟨g,0,rfl,yae,q.lt,q.lt,λk N=>by rw[Nat.zero_add];exact q.at_ k N⟩⟩
theorem VZ.vs{W vs}(h:VZ W g a n vs)(ab:vs.length=n)(N:∀v∈vs,v.k<18446744073709551616):VS W 0 W.heap.size a n vs:=
 ⟨ab,N,by
  rcases h with ae|⟨rfl,q⟩
  ·exact .inl ae
  ·exact .inr ⟨g,0,rfl,yae,q.lt,q.lt,λk N=>by rw[Nat.zero_add];exact q.at_ k N⟩⟩
theorem pX{W b}(h:W.ownsRow base 3 1 (.slice b n d) n (xs.map (Value.int .i64)))(ab:xs.length=n):IS W 0 W.heap.size b n xs:=by
 rcases tI h ab with ae|⟨g,e,_,q⟩
 ·exact IZ.is (g:=0) (.inl ae) ab
 exact IZ.is (.inr ⟨e,q⟩) ab
theorem MG{W b vs}(h:W.ownsRow base 60 6 (.slice b n d) n (fK vs))(ab:vs.length=n)(N:∀v∈vs,v.k<18446744073709551616):VS W 0 W.heap.size b n vs:=by
 rcases Nat.eq_zero_or_pos n with ae|ae
 ·exact VZ.vs (g:=0) (.inl ae) ab N
 obtain⟨g,cap,e,_,_,_,aU⟩:=mh h ae ab;injection e with aL;exact VZ.vs (.inr ⟨aL,aU⟩) ab N
theorem G0.keepC{W}(t:G0 W p bH O ax)(k:Chg S W W')(G:¬S p):G0 W' p bH O ax:=by
 have e:∀o,_:=λo=>k.cell (p:=⟨p,o,none⟩) t.sz G;exact⟨yak t.sz k.size,hO e t.q0,hO e t.q1,hO e t.q2⟩
theorem MH(ae:0<=op)(B:op<=13):tv op=cnt op:=by
 rcases (by omega:op=0\/op=1\/op=2\/op=3\/op=4\/op=5\/op=6\/op=7\/op=8\/op=9\/op=10\/op=11\/op=12\/op=13) with rfl|rfl|rfl|rfl|rfl|rfl|rfl|rfl|rfl|rfl|rfl|rfl|rfl|rfl<;>decide
theorem nD{vs i}(h:okV ins vs i=true):0<=(vs.getD i hI).op/\(vs.getD i hI).op<=13:=by
 grind[okV,eY]
theorem IS.at_idx(f:IS w lo hi a n xs){o:Int}(ae:0<=o)(B:o<n):∃g off k,a=some ⟨g,off,none⟩/\o=(k:Nat)/\k<n/\g<w.heap.size/\w.cell? ⟨g,off+k,none⟩=some (hD (xs.getD o.toNat 0)):=by
 rcases f.at_ with z|⟨g,off,e,_,_,bk,bq⟩
 ·omega
 exact⟨g,_,_,e,by omega,by omega,bk,bq _ xaa⟩
theorem tJ{o x}(aR:g<w.heap.size)(h:w.cell? ⟨g,o,none⟩=some x)(ch bO a5):(((w.alloc ch).alloc bO).alloc a5).cell? ⟨g,o,none⟩=some x:=
 iF (((ez 0 0 w ch).trans (ez 0 0 _ bO)).trans (ez 0 0 _ a5)) aR h
def Opd(w:World)(a:Option Addr)(g off n q:Nat)(A B C x y z:Int):Prop:=(1<=q->a=some ⟨g,off,none⟩/\g<w.heap.size)/\(1<=q->∃k:Nat,A=k/\k<n/\w.cell? ⟨g,off+k,none⟩=some (.int .i64 x))/\(2<=q->∃k:Nat,B=k/\k<n/\w.cell? ⟨g,off+k,none⟩=some (.int .i64 y))/\(3<=q->∃k:Nat,C=k/\k<n/\w.cell? ⟨g,off+k,none⟩=some (.int .i64 z))
theorem opd{v}(f:IS w lo hi a n tq)(h:∀o∈eQ v,0<=o/\o<n):∃g off,Opd w a g off n (cnt v.op) v.a v.b v.c (tq.getD v.a.toNat 0) (tq.getD v.b.toNat 0) (tq.getD v.c.toNat 0):=by
 have au:∀o,o∈eQ v->_:=λo al=>f.at_idx (h o al).1 (h o al).2;by_cases c:1<=cnt v.op
 ·obtain⟨g,off,k,rfl,_,_,e4,_⟩:=au v.a (gm c)
  have an:∀o,o∈eQ v->∃k:Nat,o=k/\k<n/\w.cell? ⟨g,off+k,none⟩=some (hD (tq.getD o.toNat 0)):=λo al=>by
   obtain⟨aB,F,k,e1,e2,af,_,bo⟩:=au o al
   cases e1
   exact⟨k,e2,af,bo⟩
  exact⟨g,off,λ_=>⟨rfl,e4⟩,λc=>an _ (gm c),λc=>an _ (jd c),λc=>an _ (lU c)⟩
 exact⟨0,0,λ_=>by omega,λ_=>by omega,λ_=>by omega,λ_=>by omega⟩
theorem AG(am:q<=3)(h:Opd w a g off n q A R C x y z)(bc:V (∀w,Calls prog 48 #[hD op] w λe I=>e=.returned (hD (q:Nat))/\I=w)):
  Calls prog 126 #[kT op len A R C K,.slice a n cap] w λe I=>e=.returned (kT op len (if 0<q then x else A) (if 1<q then y else R) (if 2<q then z else C) K)/\Kept 0 0 w I:=by
 obtain⟨F,aU,aS,bT⟩:=h;rcases (by omega:q=0\/q=1\/q=2\/q=3) with rfl|rfl|rfl|rfl
 all_goals
  try
   obtain⟨rfl,aR⟩:=F (Nat.le_of_ble_eq_true rfl)
   obtain⟨aj,rfl,b1,e1⟩:=aU (Nat.le_of_ble_eq_true rfl)
   have cf:w.heap.size≠g:=xaa
   have f:w.heap.size+1≠g:=xaa
   have i:w.heap.size+1+1≠g:=xaa
  try obtain⟨ah,rfl,ce,e2⟩:=aS (Nat.le_of_ble_eq_true rfl)
  try obtain⟨aF,rfl,a9,af⟩:=bT (Nat.le_of_ble_eq_true rfl)
  clear aU aS bT F
  go_enter func126,ntmps126
  go_wp2_with (go_at_call 48;refine yaj (bc.o _) ?_;rintro e ag ⟨rfl,rfl⟩)
  refine yaz (by simp[results,results126,go_sem]) rfl ⟨rfl,?_⟩
  first|exact((ez 0 0 w _).trans (ez 0 0 _ _))|exact((ez 0 0 w _).trans (ez 0 0 _ _)).trans (ez 0 0 _ _)
theorem Db(am:q<=3)(h:Opd w a g off n q A R C x y z)(bc:V (∀w,Calls prog 98 #[hD op] w λe I=>e=.returned (hD (q:Nat))/\I=w)):
  Calls prog 86 #[kT op len A R C K,.slice a n cap] w λe I=>e=.returned (kT op len (if 0<q then x else A) (if 1<q then y else R) (if 2<q then z else C) K)/\Kept 0 0 w I:=by
 obtain⟨F,aU,aS,bT⟩:=h;rcases (by omega:q=0\/q=1\/q=2\/q=3) with rfl|rfl|rfl|rfl
 all_goals
  try
   obtain⟨rfl,aR⟩:=F (Nat.le_of_ble_eq_true rfl)
   obtain⟨aj,rfl,b1,e1⟩:=aU (Nat.le_of_ble_eq_true rfl)
   have cf:w.heap.size≠g:=xaa
   have f:w.heap.size+1≠g:=xaa
   have i:w.heap.size+1+1≠g:=xaa
   have E1:=tJ aR e1
  try
   obtain⟨ah,rfl,ce,e2⟩:=aS (Nat.le_of_ble_eq_true rfl)
   have E2:=tJ aR e2
  try
   obtain⟨aF,rfl,a9,af⟩:=bT (Nat.le_of_ble_eq_true rfl)
   have E3:=tJ aR af
  clear aU aS bT F
  go_enter func86,ntmps86
  go_wp2_with (go_at_call 98;refine yaj (bc.o _) ?_;rintro e ag ⟨rfl,rfl⟩)
  refine wp_loop_rounds 4 ?_
  repeat
   rw[rounds_succ]
   go_wp2
  refine yaz (by simp[results,results86,go_sem]) rfl ⟨rfl,?_⟩
  first|exact((ez 0 0 w _).trans (ez 0 0 _ _))|exact((ez 0 0 w _).trans (ez 0 0 _ _)).trans (ez 0 0 _ _)
theorem Fu(w v lo hi a n cap tq)(f:IS w lo hi a n tq)(bD:0<=v.op/\v.op<=13)(h:∀o∈eQ v,0<=o/\o<n):
  Calls prog 126 #[v.agg,.slice a n cap] w λe I=>e=.returned (rnm tq v).agg/\Kept 0 0 w I:=by
 obtain⟨g,off,al⟩:=opd f h;exact AG (f9 _) al (λw=>by have:=kX v.op w bD.1 bD.2;rw[MH bD.1 bD.2]at this;exact this)
theorem LU(w v lo hi a n cap tq)(f:IS w lo hi a n tq)(h:∀o∈eQ v,0<=o/\o<n):
  Calls prog 86 #[v.agg,.slice a n cap] w λe I=>e=.returned (rnm tq v).agg/\Kept 0 0 w I:=by
 obtain⟨g,off,al⟩:=opd f h;exact Db (f9 _) al (λw=>qx v.op w)
theorem tK(a b):fd (a++b)=fd a+fd b:=by
 induction a with
 |nil=>simp[fd]
 |cons y bT aa=>simp[fd,aa];omega
abbrev eL(op n p q r:Int):Vl:=⟨op,n,p,q,r,0⟩
def yD(n p q:Int)(N:Nat):List Vl×Int:=if p=-1 then ([],q)else if q=-1 then ([],p)else ([eL 2 n p q 0],N)
def yE(n p q:Int)(N:Nat):List Vl×Int:=if q=-1 then ([],p)else if p=-1 then ([eL 6 n q 0 0],N)else ([eL 3 n p q 0],N)
def chM(n d p q:Int)(N:Nat):List Vl×Int:=
 if p=-1 then (if q=-1 then ([eL 1 n 0 0 0,eL 1 n 0 0 0,eL 8 n d N ((N+1:Nat):Int)],((N+2:Nat):Int))else ([eL 1 n 0 0 0,eL 8 n d N q],((N+1:Nat):Int)))
 else (if q=-1 then ([eL 1 n 0 0 0,eL 8 n d p N],((N+1:Nat):Int))else ([eL 8 n d p q],(N:Int)))
def yG(v:Vl)(ta tb:Int)(N:Nat):List Vl×Int:=
 if ta=-1 then (if tb=-1 then ([],-1)else ([eL 4 v.len v.a tb 0],(N:Int)))
 else (if tb=-1 then ([eL 4 v.len ta v.b 0],(N:Int))else ([eL 4 v.len ta v.b 0,eL 4 v.len v.a tb 0,eL 2 v.len N ((N+1:Nat):Int) 0],((N+2:Nat):Int)))
def yH(i:Int)(v:Vl)(ta tb:Int)(N:Nat):List Vl×Int:=
 if ta=-1 then (if tb=-1 then ([],-1)else ([eL 4 v.len i tb 0,eL 5 v.len N v.b 0,eL 6 v.len ((N+1:Nat):Int) 0 0],((N+2:Nat):Int)))
 else (if tb=-1 then ([eL 5 v.len ta v.b 0],(N:Int))else ([eL 5 v.len ta v.b 0,eL 4 v.len i tb 0,eL 5 v.len ((N+1:Nat):Int) v.b 0,eL 3 v.len N ((N+2:Nat):Int) 0],((N+3:Nat):Int)))
def BR(w:World)(g:Nat)(xs:List Bool):Prop:=w.heap[g]? =some (.cells (xs.map Value.bool).toArray 4 (0,0))
theorem BR.lt{xs}(h:BR w g xs):g<w.heap.size:=by
 grind[BR]
theorem BR.cell{xs}(h:BR w g xs)(k)(N:k<xs.length):w.cell? ⟨g,k,none⟩=some (.bool (xs.getD k false)):=by
 rw[cell_of_row w g k _ _ _ h];grind
theorem BR.free{xs}(h:BR w g xs)(k):w.frozen? ⟨g,k,none⟩=false:=frozen_of_row w g k _ _ h
theorem BR.keep{xs}(f:BR w g xs)(k:Kept l h w I)(G:g<l\/h<=g\/h<=l):BR I g xs:=by
 unfold BR;rw[k.block g f.lt xaa];exact f
theorem BR.keepC{xs}(f:BR w g xs)(k:Chg S w I)(G:¬S g):BR I g xs:=by
 unfold BR;rw[k.block g f.lt G];exact f
theorem BR.set{xs}(h:BR w g xs)(k x):BR (w.setCell ⟨g,k,none⟩ (.bool x)) g (xs.set k x):=by
 unfold BR at h⊢;exact qcw
theorem BR.made(w:World)(n):BR (w.alloc (.cells (madeCells #[.bool false] n) 4)) w.heap.size (List.replicate n false):=by
 unfold BR;rw[heap_alloc_new]
 have:(madeCells #[.bool false] n)=(List.map Value.bool (List.replicate n false)).toArray:=by
  apply Array.toList_inj.1;rw[toList_madeCells_one];simp
 rw[this]
theorem OZ:(prog.info? 4).map (λi=>(i.zero,i.size,i.bytes))=some (some (.bool false),1,1):=by kernel_rfl
theorem AH(n:Nat)(w)(hn:n<=1099511627776):
  (Instr.makeSlice 113 (hD n) (hD n)).run prog w=.ok (hC w.heap.size n n) (w.alloc (.cells (madeCells #[.bool false] n) 4)):=by
 obtain⟨i,hi,a6,b8,b5⟩:=info_parts OZ;have:=run_make w 113 4 i _ underlying113 hi a6 .i64 .i64 n n xaa xaa (by grind) xaa;exact qch
theorem IR.keepC(f:IR w g xs)(k:Chg S w I)(G:¬S g):IR I g xs:=by
 unfold IR;rw[k.block g f.lt G];exact f
theorem VA.keepC{vs}(q:VA w g n vs)(k:Chg S w I)(G:¬S g):VA I g n vs:=
 ⟨q.len,yak q.lt k.size,λj hj=>by
  have e:∀o,_:=λo=>k.cell (p:=⟨g,o,none⟩) q.lt G
  obtain⟨c0,c1,c2,c3,c4,c5⟩:=q.at_ j hj
  exact⟨by grind,by grind,by grind,by grind,by grind,by grind⟩,λo=>by rw[k.frozen q.lt G];exact q.free o⟩
theorem IBk.keepC(q:IBk w g n xs)(k:Chg S w I)(G:¬S g):IBk I g n xs:=
 ⟨q.len,yak q.lt k.size,λj hj=>by rw[k.cell q.lt G];exact q.at_ j hj,λo=>by rw[k.frozen q.lt G];exact q.free o⟩
theorem Chg.mono(h:Chg S w I)(ar:∀b,b<w.heap.size->S b->bl b):Chg bl w I:=
 ⟨h.os,h.tape,h.output,h.size,λk N hn=>h.block k N λc=>hn (ar k N c)⟩
theorem Chg.trans{a}(h:Chg S a b)(k:Chg S b c):Chg S a c:=Chg.andThen h k
theorem Chg.new{a}(h:Chg S a b)(k:Chg bl b c)(bh:∀i,i<a.heap.size->bl i->S i):Chg S a c:=
 ⟨k.os.trans h.os,k.tape.trans h.tape,k.output.trans h.output,yao h.size k.size,λi hi hn=>(k.block i (yak hi h.size) (λc=>hn (bh i hi c))).trans (h.block i hi hn)⟩
theorem oC(w g o v)(h:S g):Chg S w (w.setCell ⟨g,o,none⟩ v):=
 (eP (lo:=g) (hi:=g+1) w ⟨g,o,none⟩ v yac).chg1 h
structure PG(w:World)(g1 g2 g3 n1 n2 n3:Nat)(ins:List Int)(vs:List Vl)(outs:List Int):Prop where
 i:IBk w g1 n1 ins
 v:VA w g2 n2 vs
 o:IBk w g3 n3 outs
 d12:g1≠g2
 d13:g1≠g3
 d23:g2≠g3
theorem PG.keep{bA ap bM n3 vs outs}(f:PG w bA ap bM n1 T n3 ins vs outs)(k:Kept 0 0 w I):PG I bA ap bM n1 T n3 ins vs outs:=
 ⟨f.i.keep k yaa,f.v.keep k yaa,f.o.keep k yaa,f.d12,f.d13,f.d23⟩
theorem Jm{f v}(h:∀o∈eQ v,0<=o/\o<tq.length):rnm (tq++f) v=rnm tq v:=by
 have au:∀o,o∈eQ v->(tq++f).getD o.toNat 0=tq.getD _ 0:=λo al=>by
  exact xha
 unfold rnm;have ad:=f9 v.op;congr 1
 ·split
  ·exact au _ (gm xaa)
  rfl
 ·split
  ·exact au _ (jd xaa)
  rfl
 split
 ·exact au _ (lU xaa)
 rfl
theorem BQ{Y:Type}(xs bT)(y z:Y):(xs++y::bT).set xs.length z=xs++z::bT:=by
 rw[List.set_append_right _ _ yad,Nat.sub_self];rfl
theorem rz{vs:List Vl}{i}(h:i<vs.length):vs.drop i=vs.getD i hI::vs.drop (i+1):=by
 rw[List.drop_eq_getElem_cons h,yai,yam h];rfl
theorem AI{W gk ar}(h:W.ownsRow base 60 6 (hC gk n cap) n (fK ar))(ab:ar.length=n):VA W gk n ar/\base<=gk:=by
 rcases Nat.eq_zero_or_pos n with ae|ae
 ·subst ae;rcases h.2 with⟨e,_⟩|⟨g,c,H,e,O,ax,Z⟩
  ·cases e
  cases e
  have aC:gk<W.heap.size:=by
   rcases Nat.lt_or_ge gk W.heap.size with c|c
   ·exact c
   rw[Array.getElem?_eq_none c]at ax;cases ax
  exact⟨⟨ab,aC,λk N=>by omega,λo=>frozen_of_row W _ o _ _ ax⟩,O⟩
 obtain⟨g,c,e,B,_,_,aU⟩:=mh h ae ab;cases e;exact⟨aU,B⟩
theorem BS{W G}(h:OI W base G n cap xs)(ab:xs.length=n):IBk W G n xs:=by
 rcases Nat.eq_zero_or_pos n with ae|ae
 ·subst ae;rcases h.2 with⟨e,_⟩|⟨g,c,H,e,O,ax,Z⟩
  ·cases e
  cases e
  have aC:G<W.heap.size:=by
   rcases Nat.lt_or_ge G W.heap.size with c|c
   ·exact c
   rw[Array.getElem?_eq_none c]at ax;cases ax
  exact⟨ab,aC,λk N=>by omega,λo=>frozen_of_row W G o _ _ ax⟩
 rcases tI h ab with B|⟨g,e,_,B⟩
 ·omega
 cases e;exact B
theorem PZ(w g n c i us)(h:VA w g n us)(hi:i<n)(F:(us.getD i hI).op=6->0<=(us.getD i hI).a/\(us.getD i hI).a<n):
  Calls prog 93 #[hC g n c,hD (i:Nat)] w λe I=>e=.returned (hD (if (us.getD i hI).op=6/\(us.getD (us.getD i hI).a.toNat hI).op=6 then (us.getD (us.getD i hI).a.toNat hI).a else i))/\Kept 0 0 w I:=by
 obtain⟨c0,c1,c2,c3,c4,c5⟩:=h.at_ i hi;have bL:V _:=h;clear h;generalize us.getD i _=v at*;cases aP:(v.op==6)
 ·have e1:¬(v.op=6/\(us.getD v.a.toNat hI).op=6):=λq=>by rw[q.1]at aP;cases aP
  rw[hF e1];clear e1 F bL;exact xfr
 have bP:v.op=6:=by simpa using aP
 obtain⟨A,aU,k⟩:∃A:Nat,v.a=A/\A<n:=⟨v.a.toNat,hM (F bP),hM (F bP)⟩
 obtain⟨bu,d1,d2,d3,H,aj⟩:=bL.o.at_ A k;have aC:=bL.o.lt;have an:=ez 0 0 w (fB v.op v.len v.a v.b v.c v.k);replace bu:=iF an aC bu;replace d2:=iF an aC d2;rw[aU]at c2 bu d2;rw[aU,Int.toNat_natCast];generalize us.getD A _=u at*;clear bL d1 d3 H aj an F;cases aY:(u.op==6)
 ·have e1:¬(v.op=6/\u.op=6):=λq=>by rw[q.2]at aY;cases aY
  rw[hF e1];exact xic
 have e1:v.op=6/\u.op=6:=⟨bP,by simpa using aY⟩
 rw[hG e1];exact xic
def BT(us:List Vl)(v:Vl)(i:Nat):Int:=
 if tH v.op=true then (if isC us v.b (nR v.op)=true then v.a else if qF v.op=true/\isC us v.a (nR v.op)=true then v.b else i)else i
theorem Fv(op):fb (nR op)=nR op:=by
 unfold nR;split
 ·decide
 split<;>decide
theorem vi(h:tH op=true):cnt op=2:=uM (hM (of_decide_eq_true h))
theorem O0(w g n c i us)(h:VA w g n us)(hi:i<n)(s:tH (us.getD i hI).op=true->(0<=(us.getD i hI).a/\(us.getD i hI).a<n)/\(0<=(us.getD i hI).b/\(us.getD i hI).b<n)):
  Calls prog 94 #[hC g n c,hD (i:Nat)] w λe I=>e=.returned (hD (BT us (us.getD i hI) i))/\Kept 0 0 w I:=by
 obtain⟨c0,c1,c2,c3,c4,c5⟩:=h.at_ i hi;have bL:V _:=h;clear h;generalize us.getD i _=v at*;have HR:V _:=C8 v.op;have HE:V _:=Fs v.op;have m:=Fv v.op;unfold BT;cases aH:tH v.op
 ·rw[hF xac];rw[aH]at HR;clear s bL HE m;go_enter func94,ntmps94;go_wp2_with (go_at_call 95;refine yaj (HR.o _) ?_;rintro e ag ⟨rfl,rfl⟩);go_ret;exact⟨rfl,ez _ _ _ _⟩
 rw[hG rfl];rw[aH]at HR;obtain⟨⟨bV,a1⟩,bH,O⟩:=s aH;obtain⟨A,aU,k⟩:∃A:Nat,v.a=A/\A<n:=⟨v.a.toNat,by omega,by omega⟩
 obtain⟨R,aS,B⟩:∃R:Nat,v.b=R/\R<n:=⟨v.b.toNat,by omega,by omega⟩
 have j:V (∀w,Calls _ _ _ w λe I=>e=.returned (.bool (isC _ v.b _))/\Kept 0 0 w _):=λw=>by
  have:=vh w (us.getD R hI) (nR v.op)
  rw[m]at this
  unfold isC
  rw[aS,Int.toNat_natCast]
  exact this
 have f:V (∀w,Calls _ _ _ w λe I=>e=.returned (.bool (isC _ v.a _))/\Kept 0 0 w _):=λw=>by
  have:=vh w (us.getD A hI) (nR v.op)
  rw[m]at this
  unfold isC
  rw[aU,Int.toNat_natCast]
  exact this
 clear bV a1 bH O s m;generalize isC us _ _=u at j⊢;generalize isC us _ _=bh at f⊢;generalize nR _=G at HR f j;obtain⟨bQ,t,am,r,ak,aq⟩:=v;simp only at aU aS c0 c1 c2 c3 c4 c5 HR HE f j aH⊢;subst aU aS;have an:=ez 0 0 w (fB bQ t A R ak aq);have aC:=bL.o.lt;have bn:V (At (w.alloc (fB bQ t A R ak aq)) _ 0 _):=i5 w ⟨_,_,A,R,_,_⟩;have aa:V _:=(bL.o.at_ A k).keep aC an yaa;have aA:V _:=(bL.o.at_ R B).keep aC an yaa;have b7:V (w.heap.size<(w.alloc (fB bQ t A R ak aq)).heap.size/\g<(w.alloc _).heap.size):=⟨by simp,yak aC an.size⟩
 have aZ:V _:=an;generalize qF _=ch at HE⊢;generalize us.getD A _=F at aa f;generalize us.getD R _=Y at aA j;clear bL an aC aH;obtain⟨aT,ao,aG,Q,cf,bv⟩:=aA.o;go_enter func94,ntmps94;go_wp2_with (first|(go_at_call 95;refine yaj (HR.o _) ?_;rintro e ag ⟨rfl,rfl⟩)|fail);generalize w.alloc _=aO at bn aa aA b7 aZ⊢;clear c0 c1 c2 c3 c4 c5 aT ao aG Q cf bv aA;refine yaj (j.o _) ?_;rintro e ag ⟨rfl,ah⟩;obtain⟨bI,bB,bE,b6,ct,bo⟩:=bn.o.keep b7.o.1 ah yaa;obtain⟨bf,aP,aY,bW,b3,b2⟩:=aa.o.keep b7.o.2 ah yaa;have bD:V _:=aZ.o.trans ah;have cd:V _:=yak b7.o.1 ah.size;clear ah bn aa b7 aZ;cases u
 ·cases ch
  ·go_wp2_with (go_at_call 97;refine yaj (HE.o _) ?_;rintro e a7 ⟨rfl,rfl⟩);go_ret;exact⟨rfl,bD.o⟩
  go_wp2_with (first|(go_at_call 97;refine yaj (HE.o _) ?_;rintro e a7 ⟨rfl,rfl⟩)|fail);refine yaj (f.o _) ?_;rintro e a7 ⟨rfl,aF⟩;have bY:=iF aF cd.o b6;have bR:V _:=bD.o.trans aF;clear aF;cases bh
  ·go_wp2;go_ret;exact⟨rfl,bR.o⟩
  go_wp2;go_ret;exact⟨rfl,bR.o⟩
 go_wp2;go_ret;exact⟨rfl,bD.o⟩
end
section
open Go.RowKit Flt Go.Maps
variable{u v:Vl}{us:List Vl}
def pP(v:Vl):Nat:=if v.op=1 then fb v.k else 0
def qG(v:Vl):Value:=.agg #[.int .i64 v.op,.int .i64 v.len,.int .i64 v.a,.int .i64 v.b,.int .i64 v.c,.int .u64 (pP v:Nat)]
def gH(v:Vl):Lit:=.string (keyBytes [.int .i64 v.op,.int .i64 v.len,.int .i64 v.a,.int .i64 v.b,.int .i64 v.c,.int .u64 (pP v:Nat)])
structure Wf(v:Vl):Prop where
 op:(Lit.int .i64 v.op).wf=true
 len:(Lit.int .i64 v.len).wf=true
 a:(Lit.int .i64 v.a).wf=true
 b:(Lit.int .i64 v.b).wf=true
 c:(Lit.int .i64 v.c).wf=true
 k:(Lit.int .u64 (pP v:Nat)).wf=true
theorem Fw:laidOutB prog=true:=by kernel_rfl
theorem O1:(121:TypeId)<prog.types.size:=of_decide_eq_true (by kernel_rfl)
theorem O2:(match prog.underlying 121 with|some (.array _ _)|some (.struct _)=>true|_=>false)=true:=by kernel_rfl
theorem lawL:WideMaps.KeyLaw prog 121:=deep_law_laid Fw (m:=2) xaa O1 (by kernel_rfl) O2
theorem AJ:Keyed prog 121:=Keyed.of_law lawL
theorem Fx:prog.keyType 121=true:=by kernel_rfl
theorem Fy:prog.cellsOf 121=6:=by kernel_rfl
theorem MI:prog.cellsOf 3=1:=by kernel_rfl
theorem MJ:prog.cellsOf 119=1:=by kernel_rfl
theorem O3:∃m,prog.types.size=m+1:=Nat.exists_eq_succ_of_ne_zero (Nat.ne_of_gt (Nat.lt_of_le_of_lt yae O1))
theorem LY(w):(zeroValue 3).run prog w=.ok (hD 0) w:=by kernel_rfl
theorem wX(h:Wf v):keyOf prog 121 (qG v)=some (gH v):=by
 obtain⟨m,aq⟩:=O3;unfold keyOf;simp only[underlying121];rw[hG (by rw[Fx];simp[Value.formed,underlying121,qG,Fy]),aq];unfold Program.keyLits;simp only[underlying121,qG,Value.cells];rw[hG ⟨by rw[Fy];rfl,by kernel_rfl⟩];simp[MI,MJ,Program.keyLits,underlying3,underlying119,h.op,h.len,h.a,h.b,h.c,h.k,gH]
theorem Dc(aH:Wf u)(aD:Wf v)(h:gH u=gH v):qG u=qG v:=lawL.inj (wX aH) (by rw[h];exact wX aD)
theorem oD(aH:Wf u)(aD:Wf v):gH u=gH v↔f8 u v=true:=by
 constructor
 ·intro h;have:=Dc aH aD h;unfold qG at this;simp only[Value.agg.injEq,Array.mk.injEq,List.cons.injEq,Value.int.injEq,true_and,and_true]at this;obtain⟨e1,e2,af,e4,bo,G⟩:=this;unfold pP at G;unfold f8;rw[e1,e2,af,e4,bo];simp only[beq_self_eq_true,Bool.true_and];rw[e1]at G;by_cases c:v.op=1
  ·rw[hG c,hG c]at G;simp[Int.ofNat_inj.1 G]
  simp[c]
 intro h;unfold f8 at h;simp only[Bool.and_eq_true,beq_iff_eq,Bool.or_eq_true,bne_iff_ne]at h;obtain⟨⟨e1,e2,af,e4,bo⟩,G⟩:=h
 have cP:pP u=pP v:=by
  unfold pP;rw[e1];by_cases c:v.op=1
  ·rw[hG c,hG c];rcases G with G|G
   ·exact absurd (e1.trans c) G
   exact G
  rw[hF c,hF c]
 unfold gH;rw[e1,e2,af,e4,bo,cP]
def jV(us:List Vl):Nat->DataW Unit
 |0=>.map []
 |i+1=>if has (jV us i) (gH (us.getD i hI))=true then jV us i else (jV us i).put (gH (us.getD i hI)) (.lit (.int .i64 (i:Nat)))
theorem Fz(v):WideAt.IsKeyLit (gH v):=by unfold gH;trivial
theorem qH(us):∀i,IsMap (jV us i)
 |0=>isMap_empty
 |i+1=>by
  rw[jV]
  split
  ·exact qH _ i
  ·exact(qH _ i).put _ _
theorem vm{i}(e:gH v≠gH (us.getD i hI)):has (jV us (i+1)) (gH v)=has (jV us i) (gH v)/\∀z,(jV us (i+1)).atKey (gH v) z=(jV us i).atKey (gH v) z:=by
 rw[jV];split
 ·exact⟨rfl,λ_=>rfl⟩
 exact⟨has_put_other e _,λz=>atKey_put_other e _ z⟩
theorem oE(us v):∀i,has (jV us i) (gH v)=true↔∃j,j<i/\gH (us.getD j hI)=gH v
 |0=>by simp[jV,has]
 |i+1=>by
  have aa:=oE us v i
  by_cases e:gH v=gH (us.getD i hI)
  ·have r:∃j,j<i+1/\gH (us.getD j _)=gH v:=⟨i,yaf,e.symm⟩
   simp only[r,iff_true]
   rw[jV]
   split
   ·rename_i h;rw[e];exact h
   ·rw[e];exact has_put_same (qH _ i) (Fz _) _
  ·rw[(vm e).1,aa]
   constructor
   ·rintro⟨j,hj,h⟩
    exact⟨j,by omega,h⟩
   ·rintro⟨j,hj,h⟩
    by_cases c:j=i
    ·subst c;exact absurd h.symm e
    ·exact⟨j,by omega,h⟩
theorem BU(us v j)(hj:gH (us.getD j hI)=gH v)(a9:∀q,q<j->gH (us.getD q hI)≠gH v)(z):∀i,j<i->(jV us i).atKey (gH v) z=.lit (.int .i64 (j:Nat))
 |0,h=>by omega
 |i+1,h=>by
  by_cases c:j=i
  ·subst c
   have hn:has (jV us j) (gH (us.getD j hI))=false:=by
    cases am:has (jV us j) (gH (us.getD j hI))
    ·rfl
    ·obtain⟨q,B,J⟩:=(oE _ _ j).1 am
     exact absurd (J.trans hj) (a9 q B)
   rw[jV,hn,hF xac,<-hj]
   exact atKey_put_same (qH _ j) (Fz _) _ _
  ·have aa:=BU _ v j hj a9 z i xaa
   by_cases e:gH v=gH (us.getD i hI)
   ·rw[jV,hG ((oE _ _ i).2 ⟨j,by omega,hj.trans e⟩)]
    exact aa
   ·rw[(vm e).2]
    exact aa
theorem De(aH:∀j,j<us.length->Wf (us.getD j hI))(aD:Wf v):
  (has (jV us us.length) (gH v)=false/\us.findIdx (f8 · v)=us.length)\/
  (has (jV us us.length) (gH v)=true/\us.findIdx (f8 · v)<us.length/\∀z,(jV us us.length).atKey (gH v) z=.lit (.int .i64 (us.findIdx (f8 · v):Nat))):=by
 have f:∀{q:Nat} (h:q<us.length),us[q]=us.getD q hI:=λ{q} h=>by
  rw[yai,yam h];rfl
 rcases Nat.lt_or_ge (us.findIdx (f8 · v)) us.length with c|c
 ·right
  have B:f8 (us.getD (us.findIdx (f8 · v)) hI) v=true:=by
   have:=List.findIdx_getElem (w:=c);rw[f c]at this;exact this
  have J:∀q,q<us.findIdx (f8 · v)->gH _≠gH v:=λq am e=>by
   have:=List.not_of_lt_findIdx am
   rw[f _]at this
   exact absurd ((oD (aH q xaa) aD).1 e) (by simpa using this)
  have h3:=(oD (aH _ c) aD).2 B;exact⟨(oE _ v _).2 ⟨_,c,h3⟩,c,λz=>BU _ v _ h3 J z _ c⟩
 left;have e:=Nat.le_antisymm (List.findIdx_le_length) c;refine⟨?_,e⟩;cases am:has (jV us us.length) (gH v)
 ·rfl
 obtain⟨q,B,J⟩:=(oE _ v _).1 am;have:=List.not_of_lt_findIdx (p:=(f8 · v)) (xs:=us) (i:=q) xaa;rw[f _]at this;exact absurd ((oD (aH q B) aD).1 J) (by simpa using this)
theorem Df:jV (us++[v]) (us.length+1)=if has (jV us us.length) (gH v)=true then jV us us.length else (jV us us.length).put (gH v) (.lit (.int .i64 (us.length:Nat))):=by
 have c:∀i,i<=us.length->jV (us++[v]) i=jV us i:=by
  intro i;induction i with
  |zero=>intro _;rfl
  |succ i aa=>
   intro h;rw[jV,jV,aa xaa,gX _ _ xaa]
 rw[jV,c _ yad,ij]
end
section
open Go.RowKit Flt
attribute[local go_sem] eG eE eD
variable{outs:List Int}{k:Nat}
theorem kL(tq outs):(kH tq outs).length=outs.length:=by simp[kH]
theorem yI{tq}(N:k<outs.length):((kH tq outs).take k++outs.drop k).set k (tq.getD (outs.getD k 0).toNat 0)=(kH tq outs).take (k+1)++outs.drop (k+1):=by
 have e:=ve (kH tq _) outs k (by rw[kL];exact N) (by rw[kL])
 have:(kH tq outs).getD k 0=tq.getD (outs.getD k 0).toNat 0:=by
  unfold kH;rw[yai,List.getElem?_map,yam N,yai (l:=outs),yam N];rfl
 rw[this]at e;exact e
theorem Jn{bT:List Int}(N:k<outs.length)(bX:bT.length=outs.length):(bT.take k++outs.drop k).getD k 0=outs.getD k 0:=by
 rw[yai,yas yag,yai,List.getElem?_drop];congr 2;simp;omega
theorem oF(F)(s:List Int)(N:k<s.length):ik F (s.take (k+1))=(ik F (s.take k)).set (s.getD k 0).toNat true:=by
 unfold ik;rw[yau N,List.foldl_append,yai,yam N];rfl
theorem yJ{vs b}(hb:(ndI vs outs k).getD (vs.length-1-k) false=b):ndI vs outs (k+1)=if b=true then ik (ndI vs outs k) (eQ (vs.getD (vs.length-1-k) hI))else ndI vs outs k:=by
 rw[ndI,hb]
end
section
open Go.RowKit Flt
attribute[local go_sem] eG eE eD
attribute[local go_sem ↓] Go.wp_at_zero Go.wp_at_succ
variable{us vs:List Vl}{tq:List Int}{i n r:Nat}{S:Nat->Prop}
theorem IR.isAt{w g xs}(h:IR w g xs)(ab:xs.length=n):IS w g (g+1) (some ⟨g,0,none⟩) n xs:=
 ⟨ab,.inr ⟨g,0,rfl,yad,yaf,h.lt,λk N=>by rw[Nat.zero_add];exact h.cell k xaa⟩⟩
theorem Chg.refl(S w):Chg S w w:=(Kept.refl 0 0 w).chg
theorem FA(ab:us.length=i):(us++vs.drop i).getD i hI=vs.getD i hI:=by
 rw[yai,yas xaa,yai,List.getElem?_drop];congr 2;omega
theorem sN{v}(ab:us.length=i)(hi:i<vs.length):(us++vs.drop i).set i v=us++[v]++vs.drop (i+1):=by
 subst ab;rw[rz hi,BQ];simp
theorem RB.keepC{W W' p bH O ax}(t:RB W p bH O ax)(k:Chg S W W')(G:¬S p):RB W' p bH O ax:=by
 have e:∀o,_:=λo=>k.cell (p:=⟨p,o,none⟩) t.sz G;have f:∀o,_:=λo=>k.frozen (p:=⟨p,o,none⟩) t.sz G;exact⟨yak t.sz k.size,hO e t.q0,hO e t.q1,hO e t.q2,hO f t.f0,hO f t.f1,hO f t.f2⟩
theorem MK{P}{F:Nat}{s args}{k c:World->Prop}{Vaa:World->Prop}(h:∀W,i<n->k W->Vaa W->Calls P F args W λe I=>e=.returned (hD s)/\Chg S W I/\c I)(aC:i<n)(av:s=(r:Nat)):∀W,k W->Vaa W->Calls P F args W λe I=>e=.returned (hD (r:Nat))/\Chg S W I/\c I:=by
 subst av;exact λW B J=>h W aC B J
theorem ML{a r}(ab:tq.length=i)(hi:i<n):((tq++List.replicate (n-i) 0).set i a).set i r=(tq++[r])++List.replicate (n-(i+1)) 0:=by
 subst ab;have e:n-tq.length=(n-(tq.length+1))+1:=xaa;rw[e,List.replicate_succ,List.set_set,BQ];simp
theorem O4(ab:tq.length=i)(hi:i<n)(av:r<=i)(h:r<i->tq.getD r 0=(r:Int)):((tq++List.replicate (n-i) 0).set i (i:Nat)).getD r 0=(r:Int):=by
 rw[wW _ _ _ _ yag];by_cases c:i=r
 ·rw[hG c,c]
 rw[hF c,<-h xaa,yai,yat xaa,<-yai]
