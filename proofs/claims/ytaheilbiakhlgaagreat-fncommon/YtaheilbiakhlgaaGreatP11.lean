import Derived.Test.YtaheilbiakhlgaaGreatP05
import Derived.Test.YtaheilbiakhlgaaGreatP06
namespace Go.Proofs.Z
variable{Zp:Prop}
open Tryz Go.RowKit Flt
set_option maxRecDepth 1000000
set_option maxHeartbeats 0
section
attribute[local go_sem] eF eE eD
variable{S:Nat->Prop}{aG be w J:World}{base e n m b off:Nat}{v u:Value}{xs:List Value}
structure Chg(S:Nat->Prop)(w w':World):Prop where
 os:w'.os=w.os
 tape:w'.tape=w.tape
 output:w'.output=w.output
 size:w.heap.size<=w'.heap.size
 block:∀k,k<w.heap.size->¬S k->w'.heap[k]? =w.heap[k]?
theorem Chg.cell(h:Chg S w J){p}(aF:p.block<w.heap.size)(hn:¬S p.block):J.cell? p=w.cell? p:=World.cell?_of_block (w:=w) (h.block p.block aF hn)
theorem Chg.frozen(h:Chg S w J){p}(aF:p.block<w.heap.size)(hn:¬S p.block):J.frozen? p=w.frozen? p:=World.frozen?_of_block (w:=w) (h.block p.block aF hn)
theorem Kept.chg(h:Kept 0 0 w J):Chg S w J:=⟨h.os,h.tape,h.output,h.size,λk O _=>h.block k O xaa⟩
theorem Chg.kept{aC}(k:Kept 0 0 aC w)(h:Chg S w J)(aU:∀i,S i->aC.heap.size<=i):Kept 0 0 aC J:=
 ⟨h.os.trans k.os,h.tape.trans k.tape,h.output.trans k.output,yan k.size h.size,λi hi _=>(h.block i (yaj hi k.size) (λc=>by grind)).trans (k.block i hi xaa)⟩
def fW:List Vl->List Value
 |[]=>[]
 |v::r=>v.cells++fW r
theorem kD(a b):fW (a++b)=fW a++fW b:=by
 induction a<;>grind[fW]
theorem mV(v):fW [v]=v.cells:=by simp[fW]
theorem qm(a):(fW a).length=a.length*6:=by
 induction a<;>grind[fW,yap,Vl.cells]
theorem sb:∀(a:List Vl) (k j:Nat),k<a.length->j<6->(fW a)[k*6+j]? =(a.getD k hK).cells[j]?
 |[],k,j,O,_=>by simp at O
 |x::r,0,j,_,hj=>by
  grind[fW,Vl.cells]
 |x::r,k+1,j,O,hj=>by
  have:(x::r).getD (k+1) hK=r.getD k _:=rfl
  rw[this,fW,yar (by grind[Vl.cells,yap])]
  have e:(k+1)*6+j-x.cells.length=k*6+j:=by grind[Vl.cells]
  rw[e]
  exact sb r k j (by grind) hj
theorem mb{W vs}(h:W.ownsRow base 40 6 v n (fW vs))(hn:0<n)(ah:vs.length=n):
  ∃g cap,v=hE g n cap/\base<=g/\g<W.heap.size/\n<=cap/\VA W g n vs:=by
 rcases h.2 with⟨_,c⟩|⟨g,cap,H,rfl,N,aD,ad,_,bE,bY⟩
 ·omega
 have aQ:g<W.heap.size:=by grind
 have au:∀k j,k<n->j<6->W.cell? _=(vs.getD k _).cells[j]?:=λk j O hj=>by
  rw[cell_of_row W g _ _ _ _ aD,<-Array.getElem?_toList]
  have:(H.toList.take (n*6))[k*6+j]? =(fW vs)[k*6+j]?:=by rw[bY]
  rw[List.getElem?_take_of_lt xaa]at this
  rw[this]
  exact sb vs k j xaa hj
 refine⟨g,_,rfl,N,aQ,ad,ah,aQ,λk O=>?_,λo=>frozen_of_row W g o _ _ aD⟩;exact⟨au k 0 O xaa,au k 1 O xaa,au k 2 O xaa,au k 3 O xaa,au k 4 O xaa,au k 5 O xaa⟩
structure StQ(Q:Nat->Prop)(R:Option Nat)(w:World)(R':Option Nat)(w':World):Prop where
 chg:Chg (λi=>Q i\/R=some i) w w'
 row:R'=R\/∃r,R'=some r/\w.heap.size<=r
theorem StQ.refl(Q R w):StQ Q R w R w:=⟨⟨rfl,rfl,rfl,yad,λ_ _ _=>rfl⟩,.inl rfl⟩
theorem eI{size}{W:World}(h:W.ownsRow base e size v n xs){k}(O:v.ownBlock=some k):base<=k/\k<W.heap.size:=by
 rcases h.2 with⟨rfl,_⟩|⟨g,cap,H,rfl,N,aD,_⟩<;>grind[Value.ownBlock]
theorem me(w:World)(v):At (w.alloc (eM v.op v.len v.a v.b v.c v.k)) w.heap.size 0 v:=by
 exact xgx
theorem lX{size}{W:World}(h:W.ownsRow base e size v n xs)(m o):((W.alloc o).drewN m).ownsRow base e size v n xs:=h.alloc o
theorem yi(w:World)(o):(w.alloc o).heap[w.heap.size]? =some o:=by
 unfold World.alloc;simp
theorem uC(w:World)(v:Vl)(m):∀j u,v.cells[j]? =some u->((w.alloc (.cells #[hF v.op,hF v.len,hF v.a,hF v.b,hF v.c,.float .f64 v.k] 40)).drewN m).cell? ((⟨w.heap.size,0,none⟩:Addr).add j)=some u:=λj u aI=>
 World.news_of_block (w:=w.alloc (.cells #[hF v.op,hF v.len,hF v.a,hF v.b,hF v.c,.float .f64 v.k] 40)) (t:=40) (fr:=(0,0)) (cs:=#[hF v.op,hF v.len,hF v.a,hF v.b,hF v.c,.float .f64 v.k]) (yi _ _) j u aI
theorem lF{o ay}(aQ:((aG.alloc o).drewN m).grownBy be ay)(hb:b<aG.heap.size)(av:ay≠some b)(ak:aG.cell? ⟨b,off,none⟩=some u):be.cell? ⟨b,off,none⟩=some u:=by
 have y:b<((aG.alloc o).drewN m).heap.size:=by show b<(aG.alloc o).heap.size;simp;omega
 rw[aQ.cell_far _ y (λc=>av c.symm)];exact jC (ez 0 0 _ o) hb ak
theorem far2{o ay}(aQ:((aG.alloc o).drewN m).grownBy be ay)(hb:b<aG.heap.size)(av:ay≠some b)(ak:aG.frozen? ⟨b,off,none⟩=false):be.frozen? ⟨b,off,none⟩=false:=by
 have y:b<((aG.alloc o).drewN m).heap.size:=by show b<(aG.alloc o).heap.size;simp;omega
 rw[aQ.frozen_far _ y (λc=>av c.symm)];show(aG.alloc o).frozen? _=_;rw[(ez 0 0 _ o).frozen hb xaa];exact ak
theorem eJ{size P o}{W:World}(h:W.ownsRow base e size v n xs)(hP:v.ownBlock≠some P):(W.setCell ⟨P,o,none⟩ u).ownsRow base e size v n xs:=by
 refine⟨h.1,h.2.imp id ?_⟩;rintro⟨g,cap,H,af,N,aD,ad⟩;refine⟨g,_,_,af,N,?_,ad⟩;rw[Below.heap_setCell W _ u g (λc=>hP (by rw[af,c];rfl))];exact aD
theorem Ai(v:Vl):∀u∈v.cells,u.oneCell'=true:=λu aI=>by
 simp only[Vl.cells,List.mem_cons,List.not_mem_nil,or_false]at aI
 rcases aI with rfl|rfl|rfl|rfl|rfl|rfl<;>rfl
end
section
variable{ins outs:List Int}{u v:Vl}{us vs:List Vl}{k i:Nat}{S:List Vl×List Int}
theorem EP(x):fb (fb x)=fb x:=by
 cases h:(f64.read x).isNaN
 ·rw[qW h,qW h]
 rw[oR h];decide
theorem fb_zero:fb 0=0:=xab
def cv(v:Vl):Vl:=⟨v.op,v.len,v.a,v.b,v.c,fb v.k⟩
def Lk(us vs:List Vl):Prop:=us.map cv=vs.map cv
theorem cv_zero:cv hK=hK:=by simp[cv,hK,fb_zero]
theorem lN(vs:List Vl)(k):(vs.map cv).getD k hK=cv (vs.getD k hK):=by
 rw[yah,yah,List.getElem?_map];cases vs[k]? with
 |none=>exact cv_zero.symm
 |some x=>rfl
theorem Lk.len(h:Lk us vs):us.length=vs.length:=by
 have:=congrArg List.length h;simpa using this
theorem Lk.at_(h:Lk us vs)(k):cv (us.getD k hK)=cv (vs.getD k hK):=by
 rw[<-lN,<-lN,h]
theorem Lk.refl(us):Lk us us:=rfl
theorem Lk.trans{Y}(h:Lk us vs)(h':Lk vs Y):Lk us Y:=Eq.trans h h'
theorem Mg(ins vs i):okV ins (vs.map cv) i=okV ins vs i:=by
 unfold okV;rw[lN];have e:∀o:Int,((vs.map cv).getD _ _).len=(vs.getD o.toNat _).len:=λo=>by rw[lN];rfl
 simp only[e];rfl
theorem CB(vs):fd (vs.map cv)=fd vs:=by
 induction vs with
 |nil=>rfl
 |cons v r al=>simp[fd,al,cv]
theorem EQ(ins vs outs):okG ins (vs.map cv) outs=okG ins vs outs:=by
 unfold okG;rw[CB,List.length_map];have:=funext (Mg ins vs);rw[this]
theorem Lk.okG(h:Lk us vs):okG ins us outs=okG ins vs outs:=by
 rw[<-EQ _ _,<-EQ _ vs,h]
def rnm(tq:List Int)(v:Vl):Vl:=
 ⟨v.op,v.len,if 0<cnt v.op then tq.getD v.a.toNat 0 else v.a,if 1<cnt v.op then tq.getD v.b.toNat 0 else v.b,if 2<cnt v.op then tq.getD v.c.toNat 0 else v.c,v.k⟩
theorem ER(tq v):cv (rnm tq v)=rnm tq (cv v):=rfl
theorem rg(tq v):eY (rnm tq v)=(eY v).map λo=>tq.getD o.toNat 0:=by
 have h:=gK v.op;unfold eY rnm;simp only;rcases (by omega:cnt v.op=0\/cnt v.op=1\/cnt v.op=2\/cnt v.op=3) with e|e|e|e<;>simp[e]
theorem Aj{j}(h:okV ins vs i=true)(r)(b7:(us.getD j hK).op=(vs.getD i hK).op)(b8:(us.getD j hK).len=(vs.getD i hK).len)
  (F:cnt (vs.getD i hK).op<1->(us.getD j hK).a=(vs.getD i hK).a) (hb:cnt (vs.getD i hK).op<2->(us.getD j hK).b=(vs.getD i hK).b) (ak:cnt (vs.getD i hK).op<3->(us.getD j hK).c=(vs.getD i hK).c)
  (cn:eY (us.getD j hK)=(eY (vs.getD i hK)).map r) (av:∀o∈eY (vs.getD i hK),0<=o->o<i->(0<=r o/\r o<j)/\(us.getD (r o).toNat hK).len=(vs.getD o.toNat hK).len):okV ins us j=true:=by
 unfold okV at h⊢;generalize us.getD j _=u at*;generalize vs.getD i _=v at*;rw[Bool.and_eq_true,Bool.and_eq_true]at h;obtain⟨⟨B,U⟩,h3⟩:=h;have aN:gC u=true:=by grind[gC]
 rw[b8,B,aN,b7];simp only[Bool.true_and];by_cases ai:v.op=0
 ·grind[cnt]
 rw[hG ai]at h3⊢;rw[Bool.and_eq_true]at h3⊢
 have au:∀o∈eY v,(0<=r o/\r o<j)/\(us.getD _ _).len=(vs.getD o.toNat _).len:=λo ax=>by
  have:=of_decide_eq_true (List.all_eq_true.1 h3.1 o ax)
  exact av o ax this.1 this.2
 rw[cn];refine⟨?_,?_⟩
 ·rw[List.all_map,List.all_eq_true];intro o ax;exact decide_eq_true (au o ax).1
 have e:((eY v).map r).map (λo=>(us.getD o.toNat hK).len)=(eY v).map λo=>(vs.getD o.toNat hK).len:=by
  rw[List.map_map];apply List.map_congr_left;intro o ax;exact(au o ax).2
 grind[cnt,eR]
theorem qn(hi:i<vs.length)(h:okV ins vs i=true):okV ins (vs++[v]) i=true:=by
 have e:∀k,k<vs.length->(vs++[v]).getD k hK=vs.getD k hK:=λk O=>by
  exact xgi
 refine Aj h id ?_ ?_ ?_ ?_ ?_ ?_ ?_
 ·rw[e i hi]
 ·rw[e i hi]
 ·intro _;rw[e i hi]
 ·intro _;rw[e i hi]
 ·intro _;rw[e i hi]
 ·rw[e i hi];simp
 intro o _ ai B;refine⟨⟨ai,B⟩,?_⟩;rw[e _ (by simp only[id];omega)];rfl
theorem iM(vs v):(vs++[v]).getD vs.length hK=v:=by
 exact xgg
theorem iU(vs v)(O:k<vs.length):(vs++[v]).getD k hK=vs.getD k hK:=by
 exact xgi
theorem mf(xs)(x:Int):(xs++[x]).getD xs.length 0=x:=by
 exact xgg
theorem mW(xs)(x:Int)(O:k<xs.length):(xs++[x]).getD k 0=xs.getD k 0:=by
 exact xgi
def fK(u v:Vl):Bool:=(u.op==v.op&&(u.len==v.len&&(u.a==v.a&&(u.b==v.b&&u.c==v.c))))&&(u.op !=1||fb u.k==fb v.k)
def isC(vs:List Vl)(i:Int)(k:Nat):Bool:=(vs.getD i.toNat hK).op==1&&fb (vs.getD i.toNat hK).k==k
def gQ(p:Int)(news:List Vl)(v:Vl)(i:Nat):Int:=
 if p=1 then (news.findIdx (fK · v):Int)
 else if p=3 then (if v.op=6/\(news.getD v.a.toNat hK).op=6 then (news.getD v.a.toNat hK).a else i)
 else if (v.op=4\/v.op=5)/\isC news v.b 4607182418800017408=true then v.a
 else if v.op=4/\isC news v.a 4607182418800017408=true then v.b
 else if v.op=3/\isC news v.b 0=true then v.a
 else if v.op=2/\isC news v.b 9223372036854775808=true then v.a
 else if v.op=2/\isC news v.a 9223372036854775808=true then v.b
 else i
def fA(p:Int)(vs:List Vl):Nat->List Vl×List Int
 |0=>([],[])
 |i+1=>((fA p vs i).1++[rnm (fA p vs i).2 (vs.getD i hK)],(fA p vs i).2++[gQ p (fA p vs i).1 (rnm (fA p vs i).2 (vs.getD i hK)) i])
theorem sK(u v):fK (cv u) (cv v)=fK u v:=by
 unfold fK cv;simp[EP]
theorem Mh(vs i k):isC (vs.map cv) i k=isC vs i k:=by
 unfold isC;rw[lN];simp[cv,EP]
theorem CC(p f v i):gQ p (f.map cv) (cv v) i=gQ p f v i:=by
 unfold gQ
 have e:(f.map cv).findIdx (fK · (cv v))=f.findIdx (fK · v):=by
  rw[List.findIdx_map];congr 1;funext u;exact sK u v
 rw[e];simp only[Mh,lN];rfl
theorem wu(p vs):∀i,(fA p (vs.map cv) i)=((fA p vs i).1.map cv,(fA p vs i).2)
 |0=>rfl
 |i+1=>by
  have al:=wu p vs i
  unfold fA
  rw[al]
  simp only
  rw[lN,<-ER,CC]
  simp
theorem qo(p vs):∀i,(fA p vs i).1.length=i/\(fA p vs i).2.length=i
 |0=>⟨rfl,rfl⟩
 |i+1=>by
  have al:=qo p vs i
  unfold fA
  simp[al.1,al.2]
structure EqI(ins:List Int)(vs:List Vl)(i:Nat)(S:List Vl×List Int):Prop where
 l1:S.1.length=i
 l2:S.2.length=i
 to0:∀j,j<i->0<=S.2.getD j 0/\S.2.getD j 0<=j
 root:∀j,j<i->S.2.getD (S.2.getD j 0).toNat 0=S.2.getD j 0
 tlen:∀j,j<i->(S.1.getD (S.2.getD j 0).toNat hK).len=(vs.getD j hK).len
 len:∀j,j<i->(S.1.getD j hK).len=(vs.getD j hK).len
 ok:∀j,j<i->okV ins S.1 j=true
 opr:∀j,j<i->∀o∈eY (S.1.getD j hK),(0<=o/\o<j)/\S.2.getD o.toNat 0=o
theorem i8(h:okV ins vs i=true):∀o∈eY (vs.getD i hK),0<=o/\o<i:=by
 intro o ax;unfold okV at h;generalize vs.getD i _=v at*;rw[Bool.and_eq_true]at h;have h3:=h.2;by_cases ai:v.op=0
 ·have c0:cnt v.op=0:=by rw[ai];rfl
  unfold eY at ax;rw[c0]at ax;simp at ax
 rw[hG ai,Bool.and_eq_true]at h3;exact of_decide_eq_true (List.all_eq_true.1 h3.1 o ax)
theorem yj(h:okV ins vs i=true)(ad:(vs.getD i hK).op=2\/(vs.getD i hK).op=3\/(vs.getD i hK).op=4\/(vs.getD i hK).op=5\/(vs.getD i hK).op=6):∀o∈eY (vs.getD i hK),(vs.getD o.toNat hK).len=(vs.getD i hK).len:=by
 intro o ax;unfold okV at h;generalize vs.getD i _=v at*;rw[Bool.and_eq_true]at h;have h3:=h.2;rw[hG xaa,Bool.and_eq_true]at h3;have a6:=h3.2;unfold eR at a6;rw[hG xaa,hG xaa,hG xaa,hG xaa,hI xaa]at a6;have:=List.all_eq_true.1 a6 _ (List.mem_map_of_mem ax);exact beq_iff_eq.1 this
theorem iP(h:1<=cnt v.op):v.a∈eY v:=by
 have:=gK v.op;unfold eY;rcases (by omega:cnt v.op=1\/cnt v.op=2\/cnt v.op=3) with e|e|e<;>simp[e]
theorem kz(h:2<=cnt v.op):v.b∈eY v:=by
 have:=gK v.op;unfold eY;rcases (by omega:cnt v.op=2\/cnt v.op=3) with e|e<;>simp[e]
theorem lq(h:3<=cnt v.op):v.c∈eY v:=by
 have:=gK v.op;unfold eY;simp[(by omega:cnt v.op=3)]
theorem ES{op}(h:op=2\/op=3\/op=4\/op=5):cnt op=2:=by
 rcases h with rfl|rfl|rfl|rfl<;>decide
theorem CD(h:fK u v=true):u.len=v.len:=by
 unfold fK at h;simp only[Bool.and_eq_true,beq_iff_eq]at h;exact h.1.2.1
theorem ET(h:fK u v=true)(x):fK x u=fK x v:=by
 unfold fK at h⊢;simp only[Bool.and_eq_true,beq_iff_eq,Bool.or_eq_true]at h;obtain⟨⟨aK,aP,b3,ap,aC⟩,m⟩:=h;rw[aK,aP,b3,ap,aC];rcases m with m|m
 ·rw[aK]at m;by_cases aI:x.op=v.op
  ·simp[aI,m]
  have:=yam aI;simp[this]
 rw[m]
theorem EU(E:EqI ins vs i S)(h:okV ins vs i=true):okV ins (S.1++[rnm S.2 (vs.getD i hK)]) i=true:=by
 have aj:(S.1++[rnm S.2 (vs.getD i hK)]).getD i hK=rnm S.2 (vs.getD i hK):=by
  exact xhb
 refine Aj h (λo=>S.2.getD o.toNat 0) ?_ ?_ ?_ ?_ ?_ ?_ ?_
 ·rw[aj];rfl
 ·rw[aj];rfl
 ·intro c;rw[aj];unfold rnm;simp only;rw[hG xaa]
 ·intro c;rw[aj];unfold rnm;simp only;rw[hG xaa]
 ·intro c;rw[aj];unfold rnm;simp only;rw[hG xaa]
 ·rw[aj];exact rg _ _
 intro o _ ai B;have t:=E.to0 o.toNat xaa;refine⟨⟨t.1,by omega⟩,?_⟩;rw[iU _ _ (by rw[E.l1];omega)];exact E.tlen _ xaa
theorem wv(E:EqI ins vs i S)(h:okV ins vs i=true):∀o∈eY (rnm S.2 (vs.getD i hK)),(0<=o/\o<i)/\S.2.getD o.toNat 0=o:=by
 intro o ax;rw[rg]at ax;obtain⟨q,ao,rfl⟩:=List.mem_map.1 ax;have hb:=i8 h q ao;have t:=E.to0 q.toNat xaa;exact⟨⟨t.1,by omega⟩,E.root _ xaa⟩
theorem cZ.qdd(h:Zp:=by
 refine⟨by omega,?_,?_⟩
 ·rw[Int.toNat_natCast];refine Or.elim (f _ hj ?_) id (λc=>absurd a5 c);congr 1;funext u;rw[aV,ET aX u]
 rw[Int.toNat_natCast,aV];rw[CD aX];exact b8):Zp:=h
open cZ in
theorem CE(E:EqI ins vs i S)(h:okV ins vs i=true)(p)(f:∀j,j<i->(S.1.findIdx (fK · (S.1.getD j hK))=j->S.2.getD j 0=j\/p≠1)):
  (gQ p S.1 (rnm S.2 (vs.getD i hK)) i=i)\/((0<=gQ p S.1 (rnm S.2 (vs.getD i hK)) i/\gQ p S.1 (rnm S.2 (vs.getD i hK)) i<i)/\S.2.getD (gQ p S.1 (rnm S.2 (vs.getD i hK)) i).toNat 0=gQ p S.1 (rnm S.2 (vs.getD i hK)) i/\(S.1.getD (gQ p S.1 (rnm S.2 (vs.getD i hK)) i).toNat hK).len=(vs.getD i hK).len):=by
 have b7:=wv E h;have b6:=EU E h
 have aj:(S.1++[rnm S.2 (vs.getD i hK)]).getD i hK=rnm S.2 (vs.getD i hK):=by
  exact xhb
 have b8:(rnm S.2 _).len=(vs.getD i hK).len:=rfl
 have g:((rnm S.2 (vs.getD i hK)).op=2\/(rnm S.2 (vs.getD i hK)).op=3\/(rnm S.2 (vs.getD i hK)).op=4\/(rnm S.2 (vs.getD i hK)).op=5\/(rnm S.2 (vs.getD i hK)).op=6)->∀o∈eY (rnm S.2 (vs.getD i hK)),(S.1.getD o.toNat hK).len=(vs.getD i hK).len:=by
  intro ad o ax;have:=yj b6 (hR aj ad) o (hR aj ax);rw[aj,b8,iU _ _ (by rw[E.l1];have:=(b7 o ax).1;omega)]at this;exact this
 generalize aM:rnm S.2 _=v at*
 have e:∀o,o∈eY v->(v.op=2\/v.op=3\/v.op=4\/v.op=5\/v.op=6)->(0<=o/\o<i)/\S.2.getD _ 0=o/\(S.1.getD o.toNat _).len=(vs.getD i _).len:=
  λo ax ad=>⟨(b7 o ax).1,(b7 o ax).2,g ad o ax⟩
 unfold gQ;by_cases a5:p=1
 ·rw[hI a5];by_cases a9:S.1.findIdx (fK · v)<S.1.length
  ·right;exact qdc
  exact xjj
 rw[hG a5];by_cases z:p=3
 ·rw[hI z];by_cases c:v.op=6/\(S.1.getD v.a.toNat hK).op=6
  ·rw[hI c];right;have X:1<=cnt v.op:=by rw[c.1];decide
   have B:=e _ (iP X) xaa;have hj:v.a.toNat<i:=xaa;have ab:1<=cnt (S.1.getD v.a.toNat hK).op:=by rw[c.2];decide
   have U:=E.opr _ hj _ (iP ab);have h3:=yj (E.ok _ hj) xaa _ (iP ab);exact⟨⟨U.1.1,by omega⟩,U.2,hR h3 B.2.2⟩
  rw[hG c];left;rfl
 rw[hG z];by_cases c:(v.op=4\/v.op=5)/\isC S.1 v.b 4607182418800017408=true
 ·exact xgw
 rw[hG c];clear c;by_cases c:v.op=4/\isC S.1 v.a 4607182418800017408=true
 ·exact xkg
 rw[hG c];clear c;by_cases c:v.op=3/\isC S.1 v.b 0=true
 ·exact xgw
 rw[hG c];clear c;by_cases c:v.op=2/\isC S.1 v.b 9223372036854775808=true
 ·exact xgw
 rw[hG c];clear c;by_cases c:v.op=2/\isC S.1 v.a 9223372036854775808=true
 ·exact xkg
 rw[hG c];left;rfl
theorem sM(vs):∀i j,j<i->(fA 1 vs i).1.findIdx (fK · ((fA 1 vs i).1.getD j hK))=j->(fA 1 vs i).2.getD j 0=j
 |0,j,hj,_=>by omega
 |i+1,j,hj,a9=>by
  have ah:=qo 1 vs i
  have e:fA 1 _ (i+1)=((fA 1 vs i).1++[rnm (fA 1 _ i).2 _],(fA 1 _ i).2++[gQ 1 _ _ i]):=rfl
  rw[e]at a9⊢
  simp only at a9⊢
  by_cases C:j<i
  ·rw[mW _ _ (hR ah.2 C)]
   rw[iU _ _ (hR ah.1 C),List.findIdx_append]at a9
   by_cases ak:(fA 1 vs i).1.findIdx (fK · ((fA 1 vs i).1.getD j hK))<(fA 1 vs i).1.length
   ·rw[hI ak]at a9
    exact sM _ i j C a9
   ·rw[hG ak]at a9
    rw[ah.1]at a9 ak
    omega
  ·have B:j=i:=xaa
   subst B
   have af:((fA 1 vs j).2++[gQ 1 (fA 1 vs j).1 (rnm (fA 1 vs j).2 (vs.getD j hK)) j]).getD j 0=gQ 1 (fA 1 vs j).1 (rnm (fA 1 vs j).2 (vs.getD j hK)) j:=by
    have:=mf (fA 1 vs j).2 (gQ 1 (fA 1 vs j).1 (rnm (fA 1 vs j).2 (vs.getD j hK)) j);rw[ah.2]at this
    exact this
   have a0:((fA 1 vs j).1++[rnm (fA 1 vs j).2 (vs.getD j hK)]).getD j hK=rnm (fA 1 vs j).2 (vs.getD j hK):=by
    have:=iM (fA 1 vs j).1 (rnm (fA 1 vs j).2 (vs.getD j hK));rw[ah.1]at this
    exact this
   rw[af]
   rw[a0,List.findIdx_append]at a9
   unfold gQ
   rw[hI rfl]
   by_cases ak:(fA 1 vs j).1.findIdx (fK · (rnm (fA 1 vs j).2 (vs.getD j hK)))<(fA 1 vs j).1.length
   ·rw[hI ak]at a9
    rw[a9]
   ·have:=List.findIdx_le_length (p:=(fK · (rnm (fA 1 vs j).2 (vs.getD j hK)))) (xs:=(fA 1 vs j).1)
    rw[ah.1]at this ak;omega
theorem EV(E:EqI ins vs i S)(h:okV ins vs i=true)(s:Int)(ae:s=i\/((0<=s/\s<i)/\S.2.getD s.toNat 0=s/\(S.1.getD s.toNat hK).len=(vs.getD i hK).len)):
  EqI ins vs (i+1) (S.1++[rnm S.2 (vs.getD i hK)],S.2++[s]):=by
 have b6:=EU E h;have b7:=wv E h;have av:∀k,k<i->(S.1++[rnm S.2 (vs.getD i hK)]).getD k _=S.1.getD k _:=λk O=>iU _ _ (by rw[E.l1];exact O)
 have ba:(S.1++[rnm S.2 (vs.getD i hK)]).getD i hK=rnm S.2 (vs.getD i hK):=by
  exact xhb
 have bf:∀k,k<i->(S.2++[s]).getD k 0=S.2.getD k 0:=λk O=>mW _ _ (by rw[E.l2];exact O)
 have aO:(S.2++[s]).getD i 0=s:=by
  have:=mf S.2 s;rw[E.l2]at this;exact this
 refine⟨by simp[E.l1],by simp[E.l2],?_,?_,?_,?_,?_,?_⟩
 ·intro j hj;simp only;by_cases c:j<i
  ·rw[bf j c];exact E.to0 j c
  have:j=i:=xaa;subst this;rw[aO];omega
 ·intro j hj;simp only;by_cases c:j<i
  ·have:=E.to0 j c;rw[bf j c,bf _ xaa];exact E.root j c
  have:j=i:=xaa;subst this;rw[aO];rcases ae with ae|⟨bQ,bY,_⟩
  ·have bB:s.toNat=j:=xaa;rw[bB,aO]
  rw[bf _ xaa];exact bY
 ·intro j hj;simp only;by_cases c:j<i
  ·have:=E.to0 j c;rw[bf j c,av _ xaa];exact E.tlen j c
  have:j=i:=xaa;subst this;rw[aO];rcases ae with ae|⟨bQ,_,g⟩
  ·have bB:s.toNat=j:=xaa;rw[bB,ba];rfl
  rw[av _ xaa];exact g
 ·intro j hj;simp only;by_cases c:j<i
  ·rw[av j c];exact E.len j c
  have:j=i:=xaa;subst this;rw[ba];rfl
 ·intro j hj;simp only;by_cases c:j<i
  ·exact qn (by rw[E.l1];exact c) (E.ok j c)
  have:j=i:=xaa;subst this;exact b6
 intro j hj o ax;simp only at ax⊢;by_cases c:j<i
 ·rw[av j c]at ax;have:=E.opr j c o ax;exact⟨this.1,by rw[bf _ xaa];exact this.2⟩
 have:j=i:=xaa;subst this;rw[ba]at ax;have:=b7 o ax;exact⟨this.1,by rw[bf _ xaa];exact this.2⟩
theorem lO(ins vs p):∀i,(∀j,j<i->okV ins vs j=true)->EqI ins vs i (fA p vs i)
 |0,_=>⟨rfl,rfl,by intro j hj;omega,by intro j hj;omega,by intro j hj;omega,by intro j hj;omega,by intro j hj;omega,by intro j hj;omega⟩
 |i+1,h=>by
  have E:=lO _ _ p i (λj hj=>h j xaa)
  refine EV E (h i xaa) _ (CE E (h i xaa) p ?_)
  intro j hj a9
  by_cases aF:p=1
  ·subst aF
   exact .inl (sM _ i j hj a9)
  ·exact .inr aF
def jO(tq:List Int)(outs:List Int):List Int:=outs.map λo=>tq.getD o.toNat 0
def eqM(p:Int)(vs:List Vl)(outs:List Int):List Vl×List Int:=((fA p vs vs.length).1,jO (fA p vs vs.length).2 outs)
theorem gM(h:okG ins vs outs=true):(ins.length<=20/\vs.length<=2000/\outs.length<=50)/\ins.all lenB=true/\(∀j,j<vs.length->okV ins vs j=true)/\(∀o∈outs,0<=o/\o<vs.length)/\fd vs<=50000:=by
 unfold okG at h;simp only[Bool.and_eq_true]at h;obtain⟨B,U,h3,a6,bK⟩:=h;exact⟨of_decide_eq_true B,U,λj hj=>List.all_eq_true.1 h3 j (List.mem_range.2 hj),λo ax=>of_decide_eq_true (List.all_eq_true.1 a6 o ax),of_decide_eq_true bK⟩
theorem yk(B:ins.length<=20/\vs.length<=2000/\outs.length<=50)(U:ins.all lenB=true)(h3:∀j,j<vs.length->okV ins vs j=true)(a6:∀o∈outs,0<=o/\o<vs.length)(bK:fd vs<=50000):okG ins vs outs=true:=by
 unfold okG;simp only[Bool.and_eq_true];exact⟨decide_eq_true B,U,List.all_eq_true.2 λj hj=>h3 j (List.mem_range.1 hj),List.all_eq_true.2 λo ax=>decide_eq_true (a6 o ax),decide_eq_true bK⟩
theorem uD:∀(us vs:List Vl),us.length=vs.length->(∀j,j<us.length->(us.getD j hK).len=(vs.getD j hK).len)->fd us=fd vs
 |[],[],_,_=>rfl
 |u::us,v::vs,ah,h=>by
  have ai:=h 0 xac
  have:=uD _ _ (by simpa using ah) (λj hj=>by
   have:=h (j+1) yaf
   simpa using this)
  simp only[fd,this]
  have az:u.len=v.len:=by simpa using ai
  rw[az]
theorem Mj(p)(h:okG ins vs outs=true):okG ins (eqM p vs outs).1 (eqM p vs outs).2=true:=by
 obtain⟨B,U,h3,a6,bK⟩:=gM h;have E:=lO _ _ p _ h3;have bJ:=E.l1;unfold eqM;refine yk ⟨B.1,hR bJ B.2.1,by simp[jO];exact B.2.2⟩ U (λj hj=>E.ok j (hS bJ hj)) ?_ ?_
 ·intro o ax;simp only[jO,List.mem_map]at ax;obtain⟨q,ao,rfl⟩:=ax;have hb:=a6 q ao;have:=E.to0 q.toNat xaa;rw[bJ];omega
 rw[uD _ _ bJ (λj hj=>E.len j (hS bJ hj))];exact bK
theorem Mk(p)(h:Lk us vs):Lk (eqM p us outs).1 (eqM p vs outs).1/\(eqM p us outs).2=(eqM p vs outs).2:=by
 have a:=wu p us us.length;have b:=wu p vs us.length;rw[h]at a;rw[a]at b;unfold eqM;rw[<-h.len];exact⟨congrArg Prod.fst b,by rw[congrArg Prod.snd b]⟩
def Kb(vs:List Vl):Prop:=∀v∈vs,v.k<18446744073709551616
theorem Kb.at_(h:Kb vs)(k):(vs.getD k hK).k<18446744073709551616:=by
 rw[yah];by_cases O:k<vs.length
 ·exact xla
 rw[List.getElem?_eq_none xaa];exact(by decide:hK.k<18446744073709551616)
theorem Kb.app(h:Kb vs)(aM:v.k<18446744073709551616):Kb (vs++[v]):=by
 intro u aI;simp only[List.mem_append,List.mem_singleton]at aI;rcases aI with c|rfl
 ·exact h u c
 exact aM
theorem qp(h:okV ins vs i=true):lenB (vs.getD i hK).len=true:=by
 grind[okV]
def ii(F:List Bool)(os:List Int):List Bool:=os.foldl (λF o=>F.set o.toNat true) F
theorem kX(s):∀F,(ii F s).length=F.length:=by
 induction s with
 |nil=>intro F;rfl
 |cons o r al=>intro F;show(ii (F.set o.toNat true) r).length=_;rw[al];simp
theorem jb(s i):∀F:List Bool,i<F.length->(ii F s).getD i false=(F.getD i false||s.any λo=>o.toNat==i):=by
 induction s with
 |nil=>intro F _;simp[ii]
 |cons o r al=>
  intro F hi;show(ii (F.set o.toNat true) r).getD i false=_;rw[al _ (by simp;exact hi)]
  have e:(F.set o.toNat true).getD i false=(F.getD i false||o.toNat==i):=by
   rw[yah,List.getElem?_set,yah];by_cases c:o.toNat=i
   ·subst c;simp[hi]
   simp[c]
  rw[e,List.any_cons,Bool.or_assoc]
def isO(outs:List Int)(i:Nat):Bool:=outs.any λo=>o==(i:Int)
def ndI(vs:List Vl)(outs:List Int):Nat->List Bool
 |0=>ii (List.replicate vs.length false) outs
 |k+1=>if (ndI vs outs k).getD (vs.length-1-k) false=true then ii (ndI vs outs k) (eY (vs.getD (vs.length-1-k) hK))else ndI vs outs k
def ndG(outs:List Int)(G:List Bool)(i:Nat):List Bool:=G.set i (G.getD i false||isO outs i)
def ndS(vs:List Vl)(outs:List Int):Nat->List Bool
 |0=>List.replicate vs.length false
 |k+1=>if (ndG outs (ndS vs outs k) (vs.length-1-k)).getD (vs.length-1-k) false=true then ii (ndG outs (ndS vs outs k) (vs.length-1-k)) (eY (vs.getD (vs.length-1-k) hK))else ndG outs (ndS vs outs k) (vs.length-1-k)
theorem lP(vs outs):∀k,(ndI vs outs k).length=vs.length
 |0=>by simp[ndI,kX]
 |k+1=>by
  rw[ndI]
  split
  ·rw[kX];exact lP _ _ k
  ·exact lP _ _ k
theorem oV(vs outs):∀k,(ndS vs outs k).length=vs.length
 |0=>by simp[ndS]
 |k+1=>by
  rw[ndS]
  split
  ·rw[kX];simp[ndG,oV vs outs k]
  ·simp[ndG,oV vs outs k]
theorem ww(G:List Bool)(j b i)(hi:i<G.length):(G.set j b).getD i false=if j=i then b else G.getD i false:=by
 exact xhw
theorem Bt(vs outs)(ax:∀o∈outs,0<=o/\o<vs.length):∀k,k<=vs.length->∀i,i<vs.length->(ndI vs outs k).getD i false=((ndS vs outs k).getD i false||isO outs i)
 |0,_,i,hi=>by
  rw[ndI,jb _ _ _ (by simpa using hi),ndS]
  congr 1
  unfold isO
  rw[Bool.eq_iff_iff,List.any_eq_true,List.any_eq_true]
  constructor
  ·rintro⟨o,B,U⟩
   have:=ax o B
   have b6:o.toNat=i:=by simpa using U
   exact⟨o,B,by rw[beq_iff_eq];omega⟩
  ·rintro⟨o,B,U⟩
   rw[beq_iff_eq]at U
   exact⟨o,B,by rw[beq_iff_eq];omega⟩
 |k+1,O,i,hi=>by
  have al:=Bt _ _ ax k xaa
  have bJ:=lP vs outs k
  have b5:=oV vs outs k
  have hj:vs.length-1-k<vs.length:=xaa
  rw[ndI,ndS]
  generalize vs.length-1-k=j at*
  have cu:(ndG outs (ndS vs outs k) j).length=vs.length:=by simp[ndG,b5]
  have g:∀i,i<vs.length->(ndG _ _ j).getD i _=if j=i then ((ndS _ _ k).getD j _||isO outs j)else (ndS _ _ k).getD i _:=λi hi=>by
   unfold ndG;rw[ww _ _ _ _ (hR b5 hi)]
  have bg:(ndG outs (ndS vs outs k) j).getD j false=(ndI vs outs k).getD j false:=by
   rw[g j hj,hI rfl,al j hj]
  have au:(ndI vs outs k).getD i false=((ndG outs (ndS vs outs k) j).getD i false||isO outs i):=by
   rw[g i hi,al i hi];by_cases c:j=i
   ·subst c;rw[hI rfl,Bool.or_assoc,Bool.or_self]
   ·rw[hG c]
  rw[bg]
  by_cases c:(ndI vs outs k).getD j false=true
  ·rw[hI c,hI c,jb _ _ _ (hR bJ hi),jb _ _ _ (hR cu hi),au,Bool.or_assoc,Bool.or_assoc,Bool.or_comm (isO _ i)]
  ·rw[hG c,hG c];exact au
theorem Bu(vs outs):∀k,k<=vs.length->∀i,vs.length-k<=i->i<vs.length->isO outs i=true->(ndS vs outs k).getD i false=true
 |0,_,i,B,U,_=>by omega
 |k+1,O,i,B,U,h3=>by
  have al:=Bu vs outs k xaa i
  have b5:=oV vs outs k
  rw[ndS]
  have hj:vs.length-1-k<vs.length:=xaa
  have m:vs.length-k=(vs.length-1-k)+1:=xaa
  have e:vs.length-(k+1)=vs.length-1-k:=xaa
  rw[m]at al
  rw[e]at B
  generalize vs.length-1-k=j at*
  have cu:(ndG outs (ndS vs outs k) j).length=vs.length:=by simp[ndG,b5]
  have g:(ndG outs (ndS vs outs k) j).getD i false=true:=by
   unfold ndG;rw[ww _ _ _ _ (hR b5 U)];by_cases c:j=i
   ·subst c;rw[hI rfl,h3,Bool.or_true]
   ·rw[hG c];exact al xaa U h3
  split
  ·rw[jb _ _ _ (hR cu U),g,Bool.true_or]
  ·exact g
theorem OJ(vs outs)(ax:∀o∈outs,0<=o/\o<vs.length):ndS vs outs vs.length=ndI vs outs vs.length:=by
 have bJ:=lP vs outs vs.length;have b5:=oV vs outs vs.length;apply List.ext_getElem (by rw[bJ,b5]);intro i B U;have a:=Bt _ _ ax _ yad i xaa;rw[yah,yal U,yah,yal B]at a;simp only[Option.getD_some]at a;rw[a];cases ao:isO outs i
 ·simp
 have b:=Bu vs _ _ yad i xaa xaa ao;rw[yah,yal B]at b;simp only[Option.getD_some]at b;rw[b];rfl
theorem yl(h:(ndI vs outs k).getD i false=true):(ndI vs outs (k+1)).getD i false=true:=by
 have hi:i<(ndI vs outs k).length:=by
  rcases Nat.lt_or_ge i (ndI vs outs k).length with c|c
  ·exact c
  exact xkm
 rw[ndI];split
 ·rw[jb _ _ _ hi,h,Bool.true_or]
 exact h
theorem mg{ins vs outs}(aM:∀j,j<vs.length->okV ins vs j=true):∀k,k<=vs.length->∀i,vs.length-k<=i->i<vs.length->(ndI vs outs k).getD i false=true->∀o∈eY (vs.getD i hK),(ndI vs outs k).getD o.toNat false=true
 |0,_,i,B,U,_,_,_=>by omega
 |k+1,O,i,B,U,h3,o,ax=>by
  have bJ:=lP vs outs k
  have hb:=i8 (aM i U) o ax
  by_cases c:vs.length-k<=i
  ·refine yl (mg aM k xaa i c U ?_ o ax)
   rw[ndI]at h3
   split at h3
   ·rw[jb _ _ _ (hR bJ U),Bool.or_eq_true]at h3
    rcases h3 with h3|h3
    ·exact h3
    ·exfalso
     rw[List.any_eq_true]at h3
     obtain⟨q,aK,aP⟩:=h3
     have:=i8 (aM _ xaa) q aK
     rw[beq_iff_eq]at aP
     omega
   ·exact h3
  ·have e:i=vs.length-1-k:=xaa
   rw[ndI]at h3⊢
   rw[<-e]at h3⊢
   by_cases d:(ndI vs outs k).getD i false=true
   ·rw[hI d,jb _ _ _ (hT bJ),Bool.or_eq_true]
    right
    rw[List.any_eq_true]
    exact⟨o,ax,by rw[beq_iff_eq]⟩
   ·rw[hG d]at h3
    exact absurd h3 d
theorem sN{vs outs}(ax:∀o∈outs,0<=o/\o<vs.length):∀k,∀o∈outs,(ndI vs outs k).getD o.toNat false=true
 |0,o,h=>by
  have:=ax o h
  rw[ndI,jb _ _ _ yaf,Bool.or_eq_true]
  right
  rw[List.any_eq_true]
  exact⟨o,h,by rw[beq_iff_eq]⟩
 |k+1,o,h=>yl (sN ax k o h)
def f9(F:List Bool)(vs:List Vl):Nat->List Vl×List Int
 |0=>([],List.replicate vs.length 0)
 |i+1=>if F.getD i false=true then ((f9 F vs i).1++[rnm ((f9 F vs i).2.set i (f9 F vs i).1.length) (vs.getD i hK)],(f9 F vs i).2.set i (f9 F vs i).1.length)else f9 F vs i
def kE(vs:List Vl)(outs:List Int):List Vl×List Int:=((f9 (ndI vs outs vs.length) vs vs.length).1,jO (f9 (ndI vs outs vs.length) vs vs.length).2 outs)
theorem Ak(vs outs):∀k,ndI (vs.map cv) outs k=ndI vs outs k
 |0=>by simp[ndI]
 |k+1=>by
  rw[ndI,ndI,Ak _ _ k,List.length_map,lN]
  rfl
theorem wz(F vs):∀i,f9 F (vs.map cv) i=((f9 F vs i).1.map cv,(f9 F vs i).2)
 |0=>by simp[f9]
 |i+1=>by
  rw[f9,f9,wz F _ i]
  simp only[List.length_map]
  split
  ·rw[lN,<-ER]
   simp
  ·rfl
theorem EW(h:Lk us vs):Lk (kE us outs).1 (kE vs outs).1/\(kE us outs).2=(kE vs outs).2:=by
 have e:ndI us outs us.length=ndI vs outs us.length:=by rw[<-Ak _,<-Ak vs,h]
 unfold kE;rw[<-h.len,e];have a:=wz (ndI vs outs us.length) us us.length;have b:=wz (ndI vs outs us.length) vs us.length;rw[h]at a;rw[a]at b;exact⟨congrArg Prod.fst b,by rw[congrArg Prod.snd b]⟩
structure DkI(ins:List Int)(F:List Bool)(vs:List Vl)(i:Nat)(S:List Vl×List Int):Prop where
 l2:S.2.length=vs.length
 l1:S.1.length<=i
 to0:∀j,j<i->F.getD j false=true->0<=S.2.getD j 0/\S.2.getD j 0<S.1.length
 tlen:∀j,j<i->F.getD j false=true->(S.1.getD (S.2.getD j 0).toNat hK).len=(vs.getD j hK).len
 ok:∀j,j<S.1.length->okV ins S.1 j=true
 cells:fd S.1<=fd (vs.take i)
theorem sc(G:List Int)(j b i)(hi:i<G.length):(G.set j b).getD i 0=if j=i then b else G.getD i 0:=by
 exact xhw
theorem qq{ins F vs}(aM:∀j,j<vs.length->okV ins vs j=true)(bx:∀i,i<vs.length->F.getD i false=true->∀o∈eY (vs.getD i hK),F.getD o.toNat false=true):∀i,i<=vs.length->DkI ins F vs i (f9 F vs i)
 |0,_=>⟨by simp[f9],yad,by intro j hj;omega,by intro j hj;omega,by intro j hj;simp[f9]at hj,by simp[f9]⟩
 |i+1,hi=>by
  have D:=qq aM bx i xaa
  have b8:1<=(vs.getD i hK).len:=by
   have:=qp (aM i xaa);have:=of_decide_eq_true this
   omega
  rw[f9]
  by_cases c:F.getD i false=true
  ·rw[hI c]
   generalize aU:f9 F _ i=S at*;have s:∀j,j<vs.length->(S.2.set i _).getD j 0=if i=j then (S.1.length:Int)else S.2.getD j 0:=λj hj=>sc _ _ _ _ (hR D.l2 hj)
   have h:okV ins (S.1++[rnm (S.2.set i S.1.length) (vs.getD i hK)]) S.1.length=true:=by
    have aj:=iM S.1 (rnm (S.2.set i S.1.length) (vs.getD i hK));refine Aj (aM i xaa) (λo=>(S.2.set i S.1.length).getD o.toNat 0) ?_ ?_ ?_ ?_ ?_ ?_ ?_
    ·rw[aj];rfl
    ·rw[aj];rfl
    ·intro c;rw[aj];unfold rnm;simp only;rw[hG xaa]
    ·intro c;rw[aj];unfold rnm;simp only;rw[hG xaa]
    ·intro c;rw[aj];unfold rnm;simp only;rw[hG xaa]
    ·rw[aj];exact rg _ _
    intro o ax ai B;have g:=bx i xaa c o ax;have t:=D.to0 _ xaa g;rw[s _ xaa,hG xaa];refine⟨t,?_⟩;rw[iU _ _ xaa];exact D.tlen _ xaa g
   refine⟨by simp[D.l2],by simp;have:=D.l1;omega,?_,?_,?_,?_⟩
   ·intro j hj f;simp only;rw[s _ xaa];rw[yak,List.length_singleton];by_cases e:i=j
    ·rw[hI e];omega
    rw[hG e];have:=D.to0 j xaa f;omega
   ·intro j hj f;simp only;rw[s _ xaa];by_cases e:i=j
    ·subst e;rw[hI rfl,Int.toNat_natCast,iM];rfl
    rw[hG e];have:=D.to0 j xaa f;rw[iU _ _ xaa];exact D.tlen j xaa f
   ·intro j hj;simp only at hj⊢;rw[yak,List.length_singleton]at hj;by_cases e:j<S.1.length
    ·exact qn e (D.ok j e)
    have:j=S.1.length:=xaa;subst this;exact h
   ·simp only
    rw[py,mD xaa]
    have:=D.cells
    have e:(rnm (S.2.set i S.1.length) _).len=(vs.getD i hK).len:=rfl
    omega
  ·rw[hG c]
   refine⟨D.l2,hO D.l1,?_,?_,D.ok,?_⟩
   ·intro j hj f;by_cases e:j=i
    ·subst e;exact absurd f c
    exact D.to0 j xaa f
   ·intro j hj f;by_cases e:j=i
    ·subst e;exact absurd f c
    exact D.tlen j xaa f
   rw[mD xaa];have:=D.cells;omega
theorem EX(h:okG ins vs outs=true):okG ins (kE vs outs).1 (kE vs outs).2=true:=by
 obtain⟨B,U,h3,a6,bK⟩:=gM h;have D:=qq (F:=ndI _ outs _) h3 (λi hi bx o ax=>mg h3 _ yad i xaa hi bx o ax) _ yad;have bJ:=D.l1;unfold kE;refine yk ⟨B.1,by simp only;omega,by simp[jO];exact B.2.2⟩ U D.ok ?_ ?_
 ·intro o ax;simp only[jO,List.mem_map]at ax;obtain⟨q,ao,rfl⟩:=ax;have hb:=a6 q ao;exact D.to0 _ xaa (sN a6 _ q ao)
 have:=D.cells;rw[yao yad]at this;simp only;omega
theorem EY(x y w)(ap:x<18446744073709551616)(bS:y<18446744073709551616):
  Calls prog 146 #[.float .f64 x,.float .f64 y] w λe J=>e=.returned (.bool ((fb x:Int)==(fb y:Int)))/\J=w:=by
 obtain⟨s,r,av,rfl⟩:=jB x ap;obtain⟨t,q,ao,rfl⟩:=jB y bS;clear ap bS;by_cases B:r<=9218868437227405312
 ·have Y:=mC (s:=s) B;by_cases U:q<=9218868437227405312
  ·have ab:=mC (s:=t) U;rw[nV B,nV U,Lm av ao];have b3:(FloatKind.f64.format.order (W s r) (W t q)==some .eq)=_:=sC (s:=s) (t:=t) B U;by_cases ak:r=q/\(s=t\/r=0)
   ·rw[decide_eq_true ak]at b3;rw[show decide (r=q/\s=t)=(s==t) by cases s<;>cases t<;>simp[ak.1]];clear ak;go_enter func146,ntmps146;go_wp2_with fail;refine(gL _ _).mono ?_;rintro e J ⟨rfl,rfl⟩;go_wp2_with fail;refine(gL _ _).mono ?_;rintro e J ⟨rfl,rfl⟩;go_wp2_with fail;refine(rJ s r _ B).mono ?_;rintro e J ⟨rfl,rfl⟩;go_wp2_with fail;refine(rJ t q _ U).mono ?_;rintro e J ⟨rfl,rfl⟩;go_wp2;go_ret;exact⟨rfl,rfl⟩
   rw[yax ak]at b3;rw[show decide (r=q/\s=t)=false from yax (λc=>ak ⟨c.1,.inl c.2⟩)];clear ak;go_enter func146,ntmps146;exact xdb
  have ab:=nj (s:=t) (by omega:9218868437227405312<q) ao;rw[nV B,nu xaa ao,show(((9221120237041090560:Nat)):Int)=9221120237041090560 from rfl,(qb B).1];exact xcz
 have Y:=nj (s:=s) (by omega:9218868437227405312<r) av;by_cases U:q<=9218868437227405312
 ·have ab:=mC (s:=t) U;rw[nV U,nu xaa av,show(((9221120237041090560:Nat)):Int)=9221120237041090560 from rfl,(qb U).2];exact xcz
 have ab:=nj (s:=t) (by omega:9218868437227405312<q) ao;rw[nu xaa av,nu xaa ao,show(((9221120237041090560:Nat):Int)==((9221120237041090560:Nat):Int))=true from beq_self_eq_true _];exact xcz
end
section
attribute[local go_sem] eF eE eD
variable{w J b c W':World}{lo base e hi g size p n d l cap h Y ab:Nat}{T S:Nat->Prop}{ins xs:List Int}{a9 N aD:Value}{a:Option Addr}
theorem Bv(x y:Nat):((x:Int)==y)=(x==y):=by
 rw[Bool.eq_iff_iff,beq_iff_eq,beq_iff_eq];omega
theorem dD.qdh(h:Zp:=by
 clear an;cases aO:(u.op==v.op)
 ·have aq:(u.op !=v.op)=true:=by rw[bne,aO];rfl
  clear aO;exact xeo
 have aq:(u.op !=v.op)=false:=by rw[bne,aO];rfl
 cases aX:(u.len==v.len)
 ·have aN:(u.len !=v.len)=true:=by rw[bne,aX];rfl
  clear aO aX;exact xeo
 have aN:(u.len !=v.len)=false:=by rw[bne,aX];rfl
 cases ah:(u.a==v.a)
 ·have bA:(u.a !=v.a)=true:=by rw[bne,ah];rfl
  clear aO aX ah;exact xeo
 have bA:(u.a !=v.a)=false:=by rw[bne,ah];rfl
 cases bg:(u.b==v.b)
 ·have cw:(u.b !=v.b)=true:=by rw[bne,bg];rfl
  clear aO aX ah bg;exact xeo
 have cw:(u.b !=v.b)=false:=by rw[bne,bg];rfl
 cases a2:(u.c==v.c)
 ·have cC:(u.c !=v.c)=true:=by rw[bne,a2];rfl
  clear aO aX ah bg a2;exact xeo
 have cC:(u.c !=v.c)=false:=by rw[bne,a2];rfl
 cases bL:(u.op !=1)
 ·clear aO aX ah bg a2;go_enter func113,ntmps113;exact xhy
 clear aO aX ah bg a2;go_enter func113,ntmps113;go_wp2;go_ret;exact⟨by simp,HK.o _ _⟩):Zp:=h
open dD in
theorem CF(w u v)(aI:u.k<18446744073709551616)(aM:v.k<18446744073709551616):Calls prog 113 #[u.agg,v.agg] w λe J=>e=.returned (.bool (fK u v))/\Kept 0 0 w J:=by
 have au:V (∀w,Calls prog 146 #[.float .f64 u.k,.float .f64 v.k] w λe J=>e=.returned (.bool (fb u.k==fb v.k))/\J=w):=λw=>(EY u.k v.k w aI aM).mono λ_ _ h=>⟨by rw[h.1,Bv],h.2⟩
 exact qdg
def IZ(w:World)(g:Nat)(a:Option Addr)(n:Nat)(xs:List Int):Prop:=n=0\/(a=some ⟨g,0,none⟩/\IBk w g n xs)
def VZ(w:World)(g:Nat)(a:Option Addr)(n:Nat)(vs:List Vl):Prop:=n=0\/(a=some ⟨g,0,none⟩/\VA w g n vs)
theorem IZ.keep(f:IZ w g a n xs)(k:Kept l h w J)(G:g<l\/h<=g\/h<=l):IZ J g a n xs:=f.imp id λ⟨e,q⟩=>⟨e,q.keep k G⟩
theorem VZ.keep{xs}(f:VZ w g a n xs)(k:Kept l h w J)(G:g<l\/h<=g\/h<=l):VZ J g a n xs:=f.imp id λ⟨e,q⟩=>⟨e,q.keep k G⟩
theorem G0.keepT{W}(t:G0 W p a9 N aD)(k:Kept l h W W')(G:p<l\/h<=p\/h<=l):G0 W' p a9 N aD:=by
 have e:∀o,_:=λo=>k.cell (p:=⟨p,o,none⟩) t.sz (by grind);exact⟨yaj t.sz k.size,hR e t.q0,hR e t.q1,hR e t.q2⟩
theorem Kept.chg1(k:Kept g (g+1) w J)(h:S g):Chg S w J:=
 ⟨k.os,k.tape,k.output,k.size,λi hi hn=>k.block i hi λc=>hn ((show g=i by omega) ▸ h)⟩
theorem Chg.andThen{a}(h:Chg S a b)(k:Chg S b c):Chg S a c:=
 ⟨k.os.trans h.os,k.tape.trans h.tape,k.output.trans h.output,yan h.size k.size,λi hi hn=>(k.block i (yaj hi h.size) hn).trans (h.block i hi hn)⟩
theorem IZ.keepC(f:IZ w g a n xs)(k:Chg S w J)(G:¬S g):IZ J g a n xs:=f.imp id λ⟨e,q⟩=>⟨e,q.len,yaj q.lt k.size,λj hj=>by rw[k.cell q.lt G];exact q.at_ j hj,λo=>by rw[k.frozen q.lt G];exact q.free o⟩
theorem VZ.keepC{vs}(f:VZ w g a n vs)(k:Chg S w J)(G:¬S g):VZ J g a n vs:=f.imp id λ⟨e,q⟩=>⟨e,q.len,yaj q.lt k.size,λj hj=>by
 have e:∀o,_:=λo=>k.cell (p:=⟨g,o,none⟩) q.lt G
 obtain⟨c0,c1,c2,c3,c4,c5⟩:=q.at_ j hj
 exact⟨by grind,by grind,by grind,by grind,by grind,by grind⟩,λo=>by rw[k.frozen q.lt G];exact q.free o⟩
theorem eW{v xs W}(h:W.ownsRow base e size v n xs)(k:Kept 0 0 W W'):W'.ownsRow base e size v n xs:=by
 refine⟨h.1,h.2.imp id ?_⟩;rintro⟨g,cap,H,af,N,aD,ad⟩;refine⟨g,_,_,af,N,?_,ad⟩;have aQ:g<W.heap.size:=by grind
 rw[k.block g aQ xaa];exact aD
theorem OK(ap:xs.length=n)(ak:∀k,k<n->w.cell? ⟨g,k,none⟩=some (hF (xs.getD k 0))):
  ∀j u,(xs.map (Value.int .i64))[j]? =some u->w.cell? ((⟨g,0,none⟩:Addr).add j)=some u:=λj u aI=>by
 have hj:j<n:=by
  rcases Nat.lt_or_ge j n with c|c
  ·exact c
  ·rw[List.getElem?_eq_none yaf]at aI;cases aI
 have B:=ak j hj
 have e:(⟨g,0,none⟩:Addr).add j=⟨g,j,none⟩:=by
  unfold Addr.add;split
  ·rename_i ai;rw[ai]
  ·simp
 rw[e,B]
 rw[List.getElem?_map,yal (by omega:j<xs.length)]at aI
 simp only[Option.map_some]at aI
 rw[<-aI,yah,yal (by omega:j<xs.length)];rfl
theorem OL{vs}(ap:vs.length=n)(ak:∀k,k<n->At w g (k*6) (vs.getD k hK)):
  ∀j u,(fW vs)[j]? =some u->w.cell? ((⟨g,0,none⟩:Addr).add j)=some u:=λj u aI=>by
 have hj:j<n*6:=by
  rcases Nat.lt_or_ge j (n*6) with c|c
  ·exact c
  ·rw[List.getElem?_eq_none (by rw[qm];omega)]at aI;cases aI
 have e:(⟨g,0,none⟩:Addr).add j=⟨g,j,none⟩:=by
  unfold Addr.add;split
  ·rename_i ai;rw[ai]
  ·simp
 have B:j=j/6*6+j%6:=xaa
 have O:j/6<n:=xaa
 rw[B,sb _ _ _ xaa xaa]at aI
 rw[e,B]
 obtain⟨c0,c1,c2,c3,c4,c5⟩:=ak _ O
 have:j%6=0\/j%6=1\/j%6=2\/j%6=3\/j%6=4\/j%6=5:=xaa
 rcases this with h|h|h|h|h|h
 all_goals
  rw[h]at aI⊢;simp[Vl.cells]at aI
  subst aI
 ·rw[Nat.add_zero];exact c0
 ·exact c1
 ·exact c2
 ·exact c3
 ·exact c4
 ·exact c5
theorem mF{ay}(h:w.grownBy J ay)(av:∀k,ay=some k->base<=k){aC}(k:Kept 0 0 aC w)(hb:aC.heap.size<=base):Kept 0 0 aC J:=
 ⟨h.os.trans k.os,h.tape.trans k.tape,h.output.trans k.output,yan k.size h.size,λi hi _=>by
  rw[h.block i (yaj hi k.size) (λc=>by grind)]
  exact k.block i hi xaa⟩
theorem Mm:∀(vs:List Vl),∀u∈fW vs,u.oneCell'=true
 |[],_,h=>by cases h
 |v::r,u,h=>by
  rcases List.mem_append.1 h with c|c
  ·exact Ai v u c
  ·exact Mm r u c
theorem ym{v xs}{W:World}(h:W.ownsRow base e size v n xs)(aM:v≠.slice none 0 0):∃g cap,v=hE g n cap/\base<=g/\g<W.heap.size:=by
 rcases h.2 with⟨e,_⟩|⟨g,cap,H,e,N,aD,_⟩<;>grind
theorem Mn(w g n c xs)(b5:n<=1000000)(h:IE w g xs)(ap:xs.length=n):
  Calls prog 79 #[hE g n c] w λe J=>∃G cap,e=.returned (hE G n cap)/\w.heap.size<=G/\G<J.heap.size/\J.ownsRow w.heap.size 3 1 (hE G n cap) n (xs.map (Value.int .i64))/\Kept 0 0 w J:=by
 obtain⟨bC,hi,bn,bQ,br⟩:=info_parts qk
 have i:(binOp .eql 23 (hE g n c) (.slice none 0 0)).run prog w=.ok (.bool false) w:=by
  simp only[binOp];simp[run_equal_slice_nil w 23 3 (some ⟨g,0,none⟩) n c underlying23]
 have bE:=ez 0 0 w (.cells #[] 3);have ak:∀k,k<n->_:=λk O=>h.cell k xaa;have bw:V _:=OK ap (λk O=>jC bE h.lt (ak k O));have HO:V _:=World.ownsRow_made (e:=3) (size:=1) w #[] 0 yad (by unfold maxLen;omega) rfl;have q:V _:=bE;have bu:V _:=ap;clear ak ap bE h;go_enter func79,ntmps79;go_wp2_with (first|(at_builtin;refine wpList_append_own _ rfl _ _ _ rfl _ 3 _ _ 1 8 underlying23 hi bn bQ br rfl xab _ _ _ rfl HO.o _ n c _ rfl ?c0 bw.o ?c2 ?c3 ?c4 ?c5 ?_))
 case c0=>exact bu.o
 case c2=>intro u aI;rfl
 case c3=>unfold maxLen;omega
 case c4=>omega
 exact xfj
theorem Mo(w g n c vs)(b5:n<=1000000)(h:VA w g n vs):
  Calls prog 80 #[hE g n c] w λe J=>∃G cap,e=.returned (hE G n cap)/\w.heap.size<=G/\G<J.heap.size/\J.ownsRow w.heap.size 40 6 (hE G n cap) n (fW vs)/\Kept 0 0 w J:=by
 obtain⟨bC,hi,bn,bQ,br⟩:=info_parts rK
 have i:(binOp .eql 24 (hE g n c) (.slice none 0 0)).run prog w=.ok (.bool false) w:=by
  simp only[binOp];simp[run_equal_slice_nil w 24 40 (some ⟨g,0,none⟩) n c underlying24]
 have bE:=ez 0 0 w (.cells #[] 40);have bw:V _:=OL h.len (λk O=>(h.at_ k O).keep h.lt bE yaa);have HO:V _:=World.ownsRow_made (e:=40) (size:=6) w #[] 0 yad (by unfold maxLen;omega) rfl;have q:V _:=bE;have bu:V _:=h.len;clear bE h;go_enter func80,ntmps80;go_wp2_with (first|(at_builtin;refine wpList_append_own _ rfl _ _ _ rfl _ 40 _ _ 6 _ underlying24 hi bn bQ br rfl xab _ _ _ rfl HO.o _ n c _ rfl ?c0 bw.o ?c2 ?c3 ?c4 ?c5 ?_))
 case c0=>rw[qm,bu.o]
 case c2=>exact Mm _
 case c3=>unfold maxLen;omega
 case c4=>omega
 exact xfj
theorem jw{q}(h:q<xs.length):xs.getD q 0∈xs:=by
 simp_all
theorem jc{f v xs}{W:World}(h:W.ownsRow base e size v n xs)(hb:f<=base):W.ownsRow f e size v n xs:=
 ⟨h.1,h.2.imp id λ⟨g,cap,H,af,N,aD⟩=>⟨g,cap,H,af,yan hb N,aD⟩⟩
theorem Kept.drew(h:Kept lo hi w J):Kept lo hi w J.drew:=⟨h.os,h.tape,h.output,h.size,h.block⟩
theorem cP.qcv(h:Zp:=by
 have:=G g (hU af);rw[k.block g aQ xaa];exact aD):Zp:=h
open cP in
theorem fY{v xs W}(o:W.ownsRow base e size v n xs)(k:Kept l h W W')(G:∀g,v.ownBlock=some g->g<l\/h<=g):W'.ownsRow base e size v n xs:=by
 exact qcu
abbrev OI(w:World)(base G n cap:Nat)(xs:List Int):Prop:=w.ownsRow base 3 1 (.slice (some ⟨G,0,none⟩) n cap) n (xs.map (Value.int .i64))
abbrev fE:Obj:=.cells #[.slice none 0 0,.slice none 0 0,.slice none 0 0] 26
structure RB(W:World)(p:Nat)(b0 b1 b2:Value):Prop where
 sz:p<W.heap.size
 q0:W.cell? ⟨p,0,none⟩=some b0
 q1:W.cell? ⟨p,1,none⟩=some b1
 q2:W.cell? ⟨p,2,none⟩=some b2
 f0:W.frozen? ⟨p,0,none⟩=false
 f1:W.frozen? ⟨p,1,none⟩=false
 f2:W.frozen? ⟨p,2,none⟩=false
theorem RB.keep{W}(t:RB W p a9 N aD)(k:Kept 0 0 W W'):RB W' p a9 N aD:=
 ⟨yaj t.sz k.size,jC k t.sz t.q0,jC k t.sz t.q1,jC k t.sz t.q2,by rw[k.frozen t.sz xaa];exact t.f0,by rw[k.frozen t.sz xaa];exact t.f1,by rw[k.frozen t.sz xaa];exact t.f2⟩
theorem gg(w:World):RB (w.alloc fE) w.heap.size (.slice none 0 0) (.slice none 0 0) (.slice none 0 0):=by
 exact xkb
theorem fg(w:World)(g a b c)(ai:w.cell? ⟨g,0,none⟩=some a)(B:w.cell? ⟨g,1,none⟩=some b)(U:w.cell? ⟨g,2,none⟩=some c)(x y z):
  (((w.setCell ⟨g,0,none⟩ x).setCell ⟨g,1,none⟩ y).setCell ⟨g,2,none⟩ z).cell? ⟨g,0,none⟩=some x/\(((w.setCell ⟨g,0,none⟩ x).setCell ⟨g,1,none⟩ y).setCell ⟨g,2,none⟩ z).cell? ⟨g,1,none⟩=some y/\(((w.setCell ⟨g,0,none⟩ x).setCell ⟨g,1,none⟩ y).setCell ⟨g,2,none⟩ z).cell? ⟨g,2,none⟩=some z:=by
 refine⟨?_,?_,?_⟩
 ·rw[eN _ _ _ _ _ _ (.inr xaa),eN _ _ _ _ _ _ (.inr xaa)];exact fR _ _ _ _ _ ai
 ·rw[eN _ _ _ _ _ _ (.inr xaa)];exact fR _ _ _ _ _ (by rw[eN _ _ _ _ _ _ (.inr xaa)];exact B)
 exact fR _ _ _ _ _ (by rw[eN _ _ _ _ _ _ (.inr xaa),eN _ _ _ _ _ _ (.inr xaa)];exact U)
theorem eG(w):Kept 0 0 w w.drew:=⟨rfl,rfl,rfl,yad,λ_ _ _=>rfl⟩
theorem jd{v xs}{W:World}(h:W.ownsRow base e size v n xs):∃a cap,v=.slice a n cap:=by
 rcases h.2 with⟨e,rfl⟩|⟨g,cap,H,e,_⟩<;>grind
def Apart(u v:Value):Prop:=∀k,u.ownBlock=some k->v.ownBlock≠some k
theorem mX{N aD af a0 aq aN:Nat}{u v xs bc}{W:World}(B:W.ownsRow N af aq u Y xs)(U:W'.ownsRow aD a0 aN v ab bc)(hb:W.heap.size<=aD):Apart u v:=λk O aM=>by
 have:=(eI B O).2
 have:=(eI U aM).1
 omega
theorem E4(w:World)(P I o x y z)(h:I≠P):(((w.setCell ⟨P,0,none⟩ x).setCell ⟨P,1,none⟩ y).setCell ⟨P,2,none⟩ z).cell? ⟨I,o,none⟩=w.cell? ⟨I,o,none⟩:=by
 exact xij
theorem sO{W b}(h:W.ownsRow base 3 1 (.slice b n d) n (xs.map (Value.int .i64)))(ah:xs.length=n):n=0\/∃g,b=some ⟨g,0,none⟩/\base<=g/\IBk W g n xs:=by
 rcases h.2 with⟨_,c⟩|⟨g,cap,H,e,N,aD,ad,_,bE,bY⟩
 ·exact .inl c
 injection e with aK aP b3;subst aK;have aQ:g<W.heap.size:=by grind
 refine .inr ⟨g,rfl,N,ah,aQ,λk O=>?_,λo=>frozen_of_row W g o _ _ aD⟩;rw[cell_of_row W g _ _ _ _ aD,<-Array.getElem?_toList];exact xju
theorem IZ.is{W}(h:IZ W g a n xs)(ah:xs.length=n):IS W 0 W.heap.size a n xs:=
 ⟨ah,by
  rcases h with ai|⟨rfl,q⟩
  ·exact .inl ai
  ·exact .inr ⟨g,0,rfl,Nat.zero_le _,q.lt,q.lt,λk O=>by rw[Nat.zero_add];exact q.at_ k O⟩⟩
theorem VZ.vs{W vs}(h:VZ W g a n vs)(ah:vs.length=n)(O:∀v∈vs,v.k<18446744073709551616):VS W 0 W.heap.size a n vs:=
 ⟨ah,O,by
  rcases h with ai|⟨rfl,q⟩
  ·exact .inl ai
  ·exact .inr ⟨g,0,rfl,Nat.zero_le _,q.lt,q.lt,λk O=>by rw[Nat.zero_add];exact q.at_ k O⟩⟩
theorem rh{W b}(h:W.ownsRow base 3 1 (.slice b n d) n (xs.map (Value.int .i64)))(ah:xs.length=n):IS W 0 W.heap.size b n xs:=by
 rcases sO h ah with ai|⟨g,e,_,q⟩
 ·exact IZ.is (g:=0) (.inl ai) ah
 exact IZ.is (.inr ⟨e,q⟩) ah
theorem Mp{W b vs}(h:W.ownsRow base 40 6 (.slice b n d) n (fW vs))(ah:vs.length=n)(O:∀v∈vs,v.k<18446744073709551616):VS W 0 W.heap.size b n vs:=by
 rcases Nat.eq_zero_or_pos n with ai|ai
 ·exact VZ.vs (g:=0) (.inl ai) ah O
 obtain⟨g,cap,e,_,_,_,a2⟩:=mb h ai ah;injection e with aK;exact VZ.vs (.inr ⟨aK,a2⟩) ah O
theorem G0.keepC{W}(t:G0 W p a9 N aD)(k:Chg S W W')(G:¬S p):G0 W' p a9 N aD:=by
 have e:∀o,_:=λo=>k.cell (p:=⟨p,o,none⟩) t.sz G;exact⟨yaj t.sz k.size,hR e t.q0,hR e t.q1,hR e t.q2⟩
theorem Mq{op}(ai:0<=op)(B:op<=13):iw op=cnt op:=by
 rcases (by omega:op=0\/op=1\/op=2\/op=3\/op=4\/op=5\/op=6\/op=7\/op=8\/op=9\/op=10\/op=11\/op=12\/op=13) with rfl|rfl|rfl|rfl|rfl|rfl|rfl|rfl|rfl|rfl|rfl|rfl|rfl|rfl<;>decide
theorem se{vs i}(h:okV ins vs i=true):0<=(vs.getD i hK).op/\(vs.getD i hK).op<=13:=by
 grind[okV,eR]
theorem IS.at_idx(f:IS w lo hi a n xs){o:Int}(ai:0<=o)(B:o<n):∃g off k,a=some ⟨g,off,none⟩/\o=(k:Nat)/\k<n/\g<w.heap.size/\w.cell? ⟨g,off+k,none⟩=some (hF (xs.getD o.toNat 0)):=by
 rcases f.at_ with z|⟨g,off,e,_,_,bq,bD⟩
 ·omega
 exact⟨g,_,_,e,by omega,by omega,bq,bD _ xaa⟩
theorem mY{o x}(aQ:g<w.heap.size)(h:w.cell? ⟨g,o,none⟩=some x)(bV bO cc):(((w.alloc bV).alloc bO).alloc cc).cell? ⟨g,o,none⟩=some x:=
 jC (((ez 0 0 w bV).trans (ez 0 0 _ bO)).trans (ez 0 0 _ cc)) aQ h
theorem aW.qbk(h:Zp:=by
 clear a2 aT al F;go_enter func111,ntmps111;go_wp2_with (go_at_call 42;refine(bg.o _).mono ?_;rintro e ag ⟨rfl,rfl⟩);refine yay (v:=gO op len x y C K) (by simp[results,results111,go_sem]) rfl ⟨rfl,?_⟩;first|exact((ez 0 0 w _).trans (ez 0 0 _ _))|exact((ez 0 0 w _).trans (ez 0 0 _ _)).trans (ez 0 0 _ _)):Zp:=h
theorem aW.qet(h:Zp:=by
 clear a2 aT al F;go_enter func111,ntmps111;go_wp2_with (go_at_call 42;refine(bg.o _).mono ?_;rintro e ag ⟨rfl,rfl⟩);refine yay (v:=gO op len x I C K) (by simp[results,results111,go_sem]) rfl ⟨rfl,?_⟩;first|exact((ez 0 0 w _).trans (ez 0 0 _ _))|exact((ez 0 0 w _).trans (ez 0 0 _ _)).trans (ez 0 0 _ _)):Zp:=h
theorem aW.qgz(h:Zp:=by
 go_enter func111,ntmps111;go_wp2_with (go_at_call 42;refine(bg.o _).mono ?_;rintro e ag ⟨rfl,rfl⟩);refine yay (v:=gO op len x y z K) (by simp[results,results111,go_sem]) rfl ⟨rfl,?_⟩;first|exact((ez 0 0 w _).trans (ez 0 0 _ _))|exact((ez 0 0 w _).trans (ez 0 0 _ _)).trans (ez 0 0 _ _)):Zp:=h
open aW in
theorem Al(w)(op len A I C:Int)(K q g off n cap a x y z)(ao:q<=3)(F:1<=q->a=some ⟨g,off,none⟩/\g<w.heap.size)
  (bg:V (∀w,Calls prog 42 #[hF op] w λe J=>e=.returned (hF (q:Nat))/\J=w))
  (a2:1<=q->∃k:Nat,A=k/\k<n/\w.cell? ⟨g,off+k,none⟩=some (hF x)) (aT:2<=q->∃k:Nat,I=k/\k<n/\w.cell? ⟨g,off+k,none⟩=some (hF y)) (al:3<=q->∃k:Nat,C=k/\k<n/\w.cell? ⟨g,off+k,none⟩=some (hF z)):
  Calls prog 111 #[gO op len A I C K,.slice a n cap] w λe J=>e=.returned (gO op len (if 0<q then x else A) (if 1<q then y else I) (if 2<q then z else C) K)/\Kept 0 0 w J:=by
 rcases (by omega:q=0\/q=1\/q=2\/q=3) with rfl|rfl|rfl|rfl
 ·clear a2 aT al F;go_enter func111,ntmps111;go_wp2_with (go_at_call 42;refine(bg.o _).mono ?_;rintro e ag ⟨rfl,rfl⟩);refine yay (v:=gO op len A I C K) (by simp[results,results111,go_sem]) rfl ⟨rfl,?_⟩;first|exact((ez 0 0 w _).trans (ez 0 0 _ _))|exact((ez 0 0 w _).trans (ez 0 0 _ _)).trans (ez 0 0 _ _)
 ·exact qes
 ·exact qbj
 exact qgy
theorem aX.qbk(h:Zp:=by
 clear a2 aT al F;have E1:=mY aQ af;have E2:=mY aQ a0;go_enter func117,ntmps117;go_wp2_with (go_at_call 83;refine(bg.o _).mono ?_;rintro e ag ⟨rfl,rfl⟩);refine wp_loop_rounds 3 ?_;rw[rounds_succ];go_wp2;rw[rounds_succ];go_wp2;rw[rounds_succ];go_wp2;refine yay (v:=gO op len x y C K) (by simp[results,results117,go_sem]) rfl ⟨rfl,?_⟩;first|exact((ez 0 0 w _).trans (ez 0 0 _ _))|exact((ez 0 0 w _).trans (ez 0 0 _ _)).trans (ez 0 0 _ _)):Zp:=h
theorem aX.qet(h:Zp:=by
 clear a2 aT al F;have E1:=mY aQ af;go_enter func117,ntmps117;go_wp2_with (go_at_call 83;refine(bg.o _).mono ?_;rintro e ag ⟨rfl,rfl⟩);refine wp_loop_rounds 2 ?_;rw[rounds_succ];go_wp2;rw[rounds_succ];go_wp2;refine yay (v:=gO op len x I C K) (by simp[results,results117,go_sem]) rfl ⟨rfl,?_⟩;first|exact((ez 0 0 w _).trans (ez 0 0 _ _))|exact((ez 0 0 w _).trans (ez 0 0 _ _)).trans (ez 0 0 _ _)):Zp:=h
theorem aX.qgz(h:Zp:=by
 have E1:=mY aQ af;have E2:=mY aQ a0;have E3:=mY aQ aj;go_enter func117,ntmps117;go_wp2_with (go_at_call 83;refine(bg.o _).mono ?_;rintro e ag ⟨rfl,rfl⟩);refine wp_loop_rounds 4 ?_;rw[rounds_succ];go_wp2;rw[rounds_succ];go_wp2;rw[rounds_succ];go_wp2;rw[rounds_succ];go_wp2;refine yay (v:=gO op len x y z K) (by simp[results,results117,go_sem]) rfl ⟨rfl,?_⟩;first|exact((ez 0 0 w _).trans (ez 0 0 _ _))|exact((ez 0 0 w _).trans (ez 0 0 _ _)).trans (ez 0 0 _ _)):Zp:=h
open aX in
theorem CG(w)(op len A I C:Int)(K q g off n cap a x y z)(ao:q<=3)(F:1<=q->a=some ⟨g,off,none⟩/\g<w.heap.size)
  (bg:V (∀w,Calls prog 83 #[hF op] w λe J=>e=.returned (hF (q:Nat))/\J=w))
  (a2:1<=q->∃k:Nat,A=k/\k<n/\w.cell? ⟨g,off+k,none⟩=some (hF x)) (aT:2<=q->∃k:Nat,I=k/\k<n/\w.cell? ⟨g,off+k,none⟩=some (hF y)) (al:3<=q->∃k:Nat,C=k/\k<n/\w.cell? ⟨g,off+k,none⟩=some (hF z)):
  Calls prog 117 #[gO op len A I C K,.slice a n cap] w λe J=>e=.returned (gO op len (if 0<q then x else A) (if 1<q then y else I) (if 2<q then z else C) K)/\Kept 0 0 w J:=by
 rcases (by omega:q=0\/q=1\/q=2\/q=3) with rfl|rfl|rfl|rfl
 ·clear a2 aT al F;go_enter func117,ntmps117;go_wp2_with (go_at_call 83;refine(bg.o _).mono ?_;rintro e ag ⟨rfl,rfl⟩);refine wp_loop_rounds 1 ?_;rw[rounds_succ];go_wp2;refine yay (v:=gO op len A I C K) (by simp[results,results117,go_sem]) rfl ⟨rfl,?_⟩;first|exact((ez 0 0 w _).trans (ez 0 0 _ _))|exact((ez 0 0 w _).trans (ez 0 0 _ _)).trans (ez 0 0 _ _)
 ·exact qes
 ·exact qbj
 exact qgy
theorem aY.qbm(h:Zp:=by
 exact Al w v.op v.len v.a v.b v.c v.k (cnt v.op) g off n cap a (tq.getD v.a.toNat 0) (tq.getD v.b.toNat 0) (tq.getD v.c.toNat 0) ak F (λw=>by have:=e8 v.op w b7.1 b7.2;rw[Mq b7.1 b7.2]at this;exact this) (λc=>aa _ (iP c) c) (λc=>aa _ (kz c) xaa) (λc=>aa _ (lq c) xaa)):Zp:=h
open aY in
theorem E5(w v lo hi a n cap tq)(f:IS w lo hi a n tq)(b7:0<=v.op/\v.op<=13)(h:∀o∈eY v,0<=o/\o<n):
  Calls prog 111 #[v.agg,.slice a n cap] w λe J=>e=.returned (rnm tq v).agg/\Kept 0 0 w J:=by
 exact qbl
theorem aZ.qbm(h:Zp:=by
 exact CG w v.op v.len v.a v.b v.c v.k (cnt v.op) g off n cap a (tq.getD v.a.toNat 0) (tq.getD v.b.toNat 0) (tq.getD v.c.toNat 0) ak F (λw=>qg v.op w) (λc=>aa _ (iP c) c) (λc=>aa _ (kz c) xaa) (λc=>aa _ (lq c) xaa)):Zp:=h
open aZ in
theorem Lo(w v lo hi a n cap tq)(f:IS w lo hi a n tq)(h:∀o∈eY v,0<=o/\o<n):
  Calls prog 117 #[v.agg,.slice a n cap] w λe J=>e=.returned (rnm tq v).agg/\Kept 0 0 w J:=by
 exact qbl
theorem sP(a b):fd (a++b)=fd a+fd b:=by
 induction a with
 |nil=>simp[fd]
 |cons y bc al=>simp[fd,al];omega
abbrev eK(op n p q r:Int):Vl:=⟨op,n,p,q,r,0⟩
def yn(n p q:Int)(N:Nat):List Vl×Int:=if p=-1 then ([],q)else if q=-1 then ([],p)else ([eK 2 n p q 0],N)
def yo(n p q:Int)(N:Nat):List Vl×Int:=if q=-1 then ([],p)else if p=-1 then ([eK 6 n q 0 0],N)else ([eK 3 n p q 0],N)
def chM(n d p q:Int)(N:Nat):List Vl×Int:=
 if p=-1 then (if q=-1 then ([eK 1 n 0 0 0,eK 1 n 0 0 0,eK 8 n d N ((N+1:Nat):Int)],((N+2:Nat):Int))else ([eK 1 n 0 0 0,eK 8 n d N q],((N+1:Nat):Int)))
 else (if q=-1 then ([eK 1 n 0 0 0,eK 8 n d p N],((N+1:Nat):Int))else ([eK 8 n d p q],(N:Int)))
def yp(v:Vl)(ta tb:Int)(N:Nat):List Vl×Int:=
 if ta=-1 then (if tb=-1 then ([],-1)else ([eK 4 v.len v.a tb 0],(N:Int)))
 else (if tb=-1 then ([eK 4 v.len ta v.b 0],(N:Int))else ([eK 4 v.len ta v.b 0,eK 4 v.len v.a tb 0,eK 2 v.len N ((N+1:Nat):Int) 0],((N+2:Nat):Int)))
def yq(i:Int)(v:Vl)(ta tb:Int)(N:Nat):List Vl×Int:=
 if ta=-1 then (if tb=-1 then ([],-1)else ([eK 4 v.len i tb 0,eK 5 v.len N v.b 0,eK 6 v.len ((N+1:Nat):Int) 0 0],((N+2:Nat):Int)))
 else (if tb=-1 then ([eK 5 v.len ta v.b 0],(N:Int))else ([eK 5 v.len ta v.b 0,eK 4 v.len i tb 0,eK 5 v.len ((N+1:Nat):Int) v.b 0,eK 3 v.len N ((N+2:Nat):Int) 0],((N+3:Nat):Int)))
def BR(w:World)(g:Nat)(xs:List Bool):Prop:=w.heap[g]? =some (.cells (xs.map Value.bool).toArray 4 (0,0))
theorem BR.lt{xs}(h:BR w g xs):g<w.heap.size:=by
 grind[BR]
theorem BR.cell{xs}(h:BR w g xs)(k)(O:k<xs.length):w.cell? ⟨g,k,none⟩=some (.bool (xs.getD k false)):=by
 rw[cell_of_row w g k _ _ _ h];grind
theorem BR.free{xs}(h:BR w g xs)(k):w.frozen? ⟨g,k,none⟩=false:=frozen_of_row w g k _ _ h
theorem BR.keep{xs}(f:BR w g xs)(k:Kept l h w J)(G:g<l\/h<=g\/h<=l):BR J g xs:=by
 unfold BR;rw[k.block g f.lt xaa];exact f
theorem BR.keepC{xs}(f:BR w g xs)(k:Chg S w J)(G:¬S g):BR J g xs:=by
 unfold BR;rw[k.block g f.lt G];exact f
theorem BR.set{xs}(h:BR w g xs)(k x):BR (w.setCell ⟨g,k,none⟩ (.bool x)) g (xs.set k x):=by
 unfold BR at h⊢;exact qdk
theorem BR.made(w:World)(n):BR (w.alloc (.cells (madeCells #[.bool false] n) 4)) w.heap.size (List.replicate n false):=by
 unfold BR;rw[heap_alloc_new]
 have:(madeCells #[.bool false] n)=(List.map Value.bool (List.replicate n false)).toArray:=by
  apply Array.toList_inj.1;rw[toList_madeCells_one];simp
 rw[this]
theorem OM:(prog.info? 4).map (λi=>(i.zero,i.size,i.bytes))=some (some (.bool false),1,1):=by kernel_rfl
theorem Am(n:Nat)(w)(hn:n<=1099511627776):
  (Instr.makeSlice 135 (hF n) (hF n)).run prog w=.ok (hE w.heap.size n n) (w.alloc (.cells (madeCells #[.bool false] n) 4)):=by
 obtain⟨i,hi,bn,bQ,br⟩:=info_parts OM;have:=run_make w 135 4 i _ underlying135 hi bn .i64 .i64 n n xaa xaa (by grind) xaa;exact qct
theorem IR.keepC(f:IR w g xs)(k:Chg S w J)(G:¬S g):IR J g xs:=by
 unfold IR;rw[k.block g f.lt G];exact f
theorem VA.keepC{vs}(q:VA w g n vs)(k:Chg S w J)(G:¬S g):VA J g n vs:=
 ⟨q.len,yaj q.lt k.size,λj hj=>by
  have e:∀o,_:=λo=>k.cell (p:=⟨g,o,none⟩) q.lt G
  obtain⟨c0,c1,c2,c3,c4,c5⟩:=q.at_ j hj
  exact⟨by grind,by grind,by grind,by grind,by grind,by grind⟩,λo=>by rw[k.frozen q.lt G];exact q.free o⟩
theorem IBk.keepC(q:IBk w g n xs)(k:Chg S w J)(G:¬S g):IBk J g n xs:=
 ⟨q.len,yaj q.lt k.size,λj hj=>by rw[k.cell q.lt G];exact q.at_ j hj,λo=>by rw[k.frozen q.lt G];exact q.free o⟩
theorem Chg.mono(h:Chg S w J)(ae:∀b,b<w.heap.size->S b->T b):Chg T w J:=
 ⟨h.os,h.tape,h.output,h.size,λk O hn=>h.block k O λc=>hn (ae k O c)⟩
theorem Chg.trans{a}(h:Chg S a b)(k:Chg S b c):Chg S a c:=Chg.andThen h k
theorem Chg.new{a}(h:Chg S a b)(k:Chg T b c)(bh:∀i,i<a.heap.size->T i->S i):Chg S a c:=
 ⟨k.os.trans h.os,k.tape.trans h.tape,k.output.trans h.output,yan h.size k.size,λi hi hn=>(k.block i (yaj hi h.size) (λc=>hn (bh i hi c))).trans (h.block i hi hn)⟩
theorem od(w g o v)(h:S g):Chg S w (w.setCell ⟨g,o,none⟩ v):=
 (eU (lo:=g) (hi:=g+1) w ⟨g,o,none⟩ v yac).chg1 h
structure PG(w:World)(g1 g2 g3 n1 n2 n3:Nat)(ins:List Int)(vs:List Vl)(outs:List Int):Prop where
 i:IBk w g1 n1 ins
 v:VA w g2 n2 vs
 o:IBk w g3 n3 outs
 d12:g1≠g2
 d13:g1≠g3
 d23:g2≠g3
theorem PG.keep{bG aC ay aa vs outs}(f:PG w bG aC ay Y ab aa ins vs outs)(k:Kept 0 0 w J):PG J bG aC ay Y ab aa ins vs outs:=
 ⟨f.i.keep k yaa,f.v.keep k yaa,f.o.keep k yaa,f.d12,f.d13,f.d23⟩
theorem IU{tq f v}(h:∀o∈eY v,0<=o/\o<tq.length):rnm (tq++f) v=rnm tq v:=by
 have au:∀o,o∈eY v->(tq++f).getD o.toNat 0=tq.getD _ 0:=λo ax=>by
  have:=h o ax
  rw[yah,yas xaa,<-yah]
 unfold rnm;have ak:=gK v.op;congr 1
 ·split
  ·exact au _ (iP xaa)
  rfl
 ·split
  ·exact au _ (kz xaa)
  rfl
 split
 ·exact au _ (lq xaa)
 rfl
theorem Bw{B:Type}(xs bc)(y z:B):(xs++y::bc).set xs.length z=xs++z::bc:=by
 rw[List.set_append_right _ _ yad,Nat.sub_self];rfl
theorem uE{vs:List Vl}{i}(h:i<vs.length):vs.drop i=vs.getD i hK::vs.drop (i+1):=by
 rw[List.drop_eq_getElem_cons h,yah,yal h];rfl
theorem An{W gk ae}(h:W.ownsRow base 40 6 (hE gk n cap) n (fW ae))(ah:ae.length=n):VA W gk n ae/\base<=gk:=by
 rcases Nat.eq_zero_or_pos n with ai|ai
 ·subst ai;rcases h.2 with⟨e,_⟩|⟨g,c,H,e,N,aD,ad⟩
  ·cases e
  cases e
  have aB:gk<W.heap.size:=by
   rcases Nat.lt_or_ge gk W.heap.size with c|c
   ·exact c
   rw[Array.getElem?_eq_none c]at aD;cases aD
  exact⟨⟨ah,aB,λk O=>by omega,λo=>frozen_of_row W gk o _ _ aD⟩,N⟩
 obtain⟨g,c,e,B,_,_,a2⟩:=mb h ai ah;cases e;exact⟨a2,B⟩
theorem Bx{W G}(h:OI W base G n cap xs)(ah:xs.length=n):IBk W G n xs:=by
 rcases Nat.eq_zero_or_pos n with ai|ai
 ·subst ai;rcases h.2 with⟨e,_⟩|⟨g,c,H,e,N,aD,ad⟩
  ·cases e
  cases e
  have aB:G<W.heap.size:=by
   rcases Nat.lt_or_ge G W.heap.size with c|c
   ·exact c
   rw[Array.getElem?_eq_none c]at aD;cases aD
  exact⟨ah,aB,λk O=>by omega,λo=>frozen_of_row W G o _ _ aD⟩
 rcases sO h ah with B|⟨g,e,_,B⟩
 ·omega
 cases e;exact B
