import Derived.Test.YtamokkcfibdghaaGreatP08
namespace Go.Proofs.Z
variable {Zp:Prop}
open Tryz Go.RowKit Flt
set_option maxRecDepth 1000000
set_option maxHeartbeats 0
section
attribute [local go_sem] eG eE eD
variable {S:Nat->Prop}{aB bo w J:World}{base e n m b off:Nat}{v u:Value}{xs:List Value}
structure Chg (S:Nat->Prop)(w w':World):Prop where
 os:w'.os=w.os
 tape:w'.tape=w.tape
 output:w'.output=w.output
 size:w.heap.size<=w'.heap.size
 block:∀k,k<w.heap.size->¬S k->w'.heap[k]? =w.heap[k]?
theorem Chg.cell(h:Chg S w J){p}(aK:p.block<w.heap.size)(hn:¬S p.block):J.cell? p=w.cell? p:=World.cell?_of_block (w:=w) (h.block p.block aK hn)
theorem Chg.frozen(h:Chg S w J){p}(aK:p.block<w.heap.size)(hn:¬S p.block):J.frozen? p=w.frozen? p:=World.frozen?_of_block (w:=w) (h.block p.block aK hn)
theorem Kept.chg(h:Kept 0 0 w J):Chg S w J:=⟨h.os,h.tape,h.output,h.size,λk O _=>h.block k O xaa⟩
theorem Chg.kept{w0}(k:Kept 0 0 w0 w)(h:Chg S w J)(aT:∀i,S i->w0.heap.size<=i):Kept 0 0 w0 J:=
 ⟨h.os.trans k.os,h.tape.trans k.tape,h.output.trans k.output,yan k.size h.size,λi hi _=>(h.block i (yaj hi k.size) (λc=>by grind)).trans (k.block i hi xaa)⟩
def fQ:List Vl->List Value
 |[]=>[]
 |v::r=>v.cells++fQ r
theorem lH(a b):fQ (a++b)=fQ a++fQ b:=by
 induction a<;>grind [fQ]
theorem nZ(v):fQ [v]=v.cells:=by simp[fQ]
theorem qn(a):(fQ a).length=a.length*6:=by
 induction a<;>grind [fQ,yap,Vl.cells]
theorem sB:∀(a:List Vl) (k j:Nat),k<a.length->j<6->(fQ a)[k*6+j]? =(a.getD k hM).cells[j]?
 |[],k,j,O,_=>by simp at O
 |x::r,0,j,_,hj=>by
  grind [fQ,Vl.cells]
 |x::r,k+1,j,O,hj=>by
  have:(x::r).getD (k+1) hM=r.getD k _:=rfl
  rw[this,fQ,yar (by grind [Vl.cells,yap])]
  have e:(k+1)*6+j-x.cells.length=k*6+j:=by grind [Vl.cells]
  rw[e]
  exact sB r k j (by grind) hj
theorem ng{W vs}(h:W.ownsRow base 53 6 v n (fQ vs))(hn:0<n)(ah:vs.length=n):
  ∃g cap,v=hH g n cap/\base<=g/\g<W.heap.size/\n<=cap/\VA W g n vs:=by
 rcases h.2 with⟨_,c⟩|⟨g,cap,H,rfl,N,aA,ab,_,b9,cn⟩
 ·omega
 have aW:g<W.heap.size:=by grind
 have aw:∀k j,k<n->j<6->W.cell? _=(vs.getD k _).cells[j]?:=λk j O hj=>by
  rw[cell_of_row W g _ _ _ _ aA,<-Array.getElem?_toList]
  have:(H.toList.take (n*6))[k*6+j]? =(fQ vs)[k*6+j]?:=by rw[cn]
  rw[List.getElem?_take_of_lt xaa]at this
  rw[this]
  exact sB vs k j xaa hj
 refine⟨g,_,rfl,N,aW,ab,ah,aW,λk O=>?_,λo=>frozen_of_row W g o _ _ aA⟩;exact⟨aw k 0 O xaa,aw k 1 O xaa,aw k 2 O xaa,aw k 3 O xaa,aw k 4 O xaa,aw k 5 O xaa⟩
structure StQ (Q:Nat->Prop)(R:Option Nat)(w:World)(R':Option Nat)(w':World):Prop where
 chg:Chg (λi=>Q i\/R=some i) w w'
 row:R'=R\/∃r,R'=some r/\w.heap.size<=r
theorem StQ.refl(Q aa w):StQ Q aa w aa w:=⟨⟨rfl,rfl,rfl,yad,λ_ _ _=>rfl⟩,.inl rfl⟩
theorem eI{size}{W:World}(h:W.ownsRow base e size v n xs){k}(O:v.ownBlock=some k):base<=k/\k<W.heap.size:=by
 rcases h.2 with⟨rfl,_⟩|⟨g,cap,H,rfl,N,aA,_⟩<;>grind [Value.ownBlock]
theorem jF(w:World)(v):At (w.alloc (eK v.op v.len v.a v.b v.c v.k)) w.heap.size 0 v:=by
 exact xhf
theorem mO{size}{W:World}(h:W.ownsRow base e size v n xs)(m o):((W.alloc o).drewN m).ownsRow base e size v n xs:=h.alloc o
theorem yE(w:World)(o):(w.alloc o).heap[w.heap.size]? =some o:=by
 unfold World.alloc;simp
theorem yG(w:World)(v:Vl)(m):∀j u,v.cells[j]? =some u->((w.alloc (.cells #[hI v.op,hI v.len,hI v.a,hI v.b,hI v.c,.float .f64 v.k] 53)).drewN m).cell? ((⟨w.heap.size,0,none⟩:Addr).add j)=some u:=λj u aJ=>
 World.news_of_block (w:=w.alloc (.cells #[hI v.op,hI v.len,hI v.a,hI v.b,hI v.c,.float .f64 v.k] 53)) (t:=53) (fr:=(0,0)) (cs:=#[hI v.op,hI v.len,hI v.a,hI v.b,hI v.c,.float .f64 v.k]) (yE _ _) j u aJ
theorem lI{o aC}(aW:((aB.alloc o).drewN m).grownBy bo aC)(hb:b<aB.heap.size)(ay:aC≠some b)(ai:aB.cell? ⟨b,off,none⟩=some u):bo.cell? ⟨b,off,none⟩=some u:=by
 have K:b<((aB.alloc o).drewN m).heap.size:=by show b<(aB.alloc o).heap.size;simp;omega
 rw[aW.cell_far _ K (λc=>ay c.symm)];exact jh (ez 0 0 _ o) hb ai
theorem far2{o aC}(aW:((aB.alloc o).drewN m).grownBy bo aC)(hb:b<aB.heap.size)(ay:aC≠some b)(ai:aB.frozen? ⟨b,off,none⟩=false):bo.frozen? ⟨b,off,none⟩=false:=by
 have K:b<((aB.alloc o).drewN m).heap.size:=by show b<(aB.alloc o).heap.size;simp;omega
 rw[aW.frozen_far _ K (λc=>ay c.symm)];show(aB.alloc o).frozen? _=_;rw[(ez 0 0 _ o).frozen hb xaa];exact ai
theorem eJ{size P o}{W:World}(h:W.ownsRow base e size v n xs)(hP:v.ownBlock≠some P):(W.setCell ⟨P,o,none⟩ u).ownsRow base e size v n xs:=by
 refine⟨h.1,h.2.imp id ?_⟩;rintro⟨g,cap,H,ae,N,aA,ab⟩;refine⟨g,_,_,ae,N,?_,ab⟩;rw[Below.heap_setCell W _ u g (λc=>hP (by rw[ae,c];rfl))];exact aA
theorem CS(v:Vl):∀u∈v.cells,u.oneCell'=true:=λu aJ=>by
 simp only[Vl.cells,List.mem_cons,List.not_mem_nil,or_false]at aJ
 rcases aJ with rfl|rfl|rfl|rfl|rfl|rfl<;>rfl
end
section
variable {ins outs:List Int}{us vs:List Vl}{u v:Vl}{k i:Nat}{S:List Vl×List Int}
theorem fb_zero:fb 0=0:=xab
def cv (v:Vl):Vl:=⟨v.op,v.len,v.a,v.b,v.c,fb v.k⟩
def Lk (us vs:List Vl):Prop:=us.map cv=vs.map cv
theorem cv_zero:cv hM=hM:=by simp[cv,hM,fb_zero]
theorem sC(vs:List Vl)(k):(vs.map cv).getD k hM=cv (vs.getD k hM):=by
 rw[yah,yah,List.getElem?_map];cases vs[k]? with
 |none=>exact cv_zero.symm
 |some x=>rfl
theorem Lk.len(h:Lk us vs):us.length=vs.length:=by
 have:=congrArg List.length h;simpa using this
theorem Lk.at_(h:Lk us vs)(k):cv (us.getD k hM)=cv (vs.getD k hM):=by
 rw[<-sC,<-sC,h]
theorem Lk.refl(us):Lk us us:=rfl
theorem Lk.app(h:Lk us vs)(h':cv u=cv v):Lk (us++[u]) (vs++[v]):=by
 unfold Lk at*;simp[h,h']
theorem Mt(ins vs i):okV ins (vs.map cv) i=okV ins vs i:=by
 unfold okV;rw[sC];have e:∀o:Int,((vs.map cv).getD _ _).len=(vs.getD o.toNat _).len:=λo=>by rw[sC];rfl
 simp only[e];rfl
theorem CT(vs):fe (vs.map cv)=fe vs:=by
 induction vs with
 |nil=>rfl
 |cons v r ag=>simp[fe,ag,cv]
theorem E8(ins vs outs):okG ins (vs.map cv) outs=okG ins vs outs:=by
 unfold okG;rw[CT,List.length_map];have:=funext (Mt ins vs);rw[this]
theorem Lk.okG(h:Lk us vs):okG ins us outs=okG ins vs outs:=by
 rw[<-E8 _ _,<-E8 _ vs,h]
def rnm (tq:List Int)(v:Vl):Vl:=
 ⟨v.op,v.len,if 0<cnt v.op then tq.getD v.a.toNat 0 else v.a,if 1<cnt v.op then tq.getD v.b.toNat 0 else v.b,if 2<cnt v.op then tq.getD v.c.toNat 0 else v.c,v.k⟩
theorem re(tq v):eW (rnm tq v)=(eW v).map λo=>tq.getD o.toNat 0:=by
 have h:=gK v.op;unfold eW rnm;simp only;rcases (by omega:cnt v.op=0\/cnt v.op=1\/cnt v.op=2\/cnt v.op=3) with e|e|e|e<;>simp[e]
theorem wN{j}(h:okV ins vs i=true)(r)(bZ:(us.getD j hM).op=(vs.getD i hM).op)(b4:(us.getD j hM).len=(vs.getD i hM).len)
  (G:cnt (vs.getD i hM).op<1->(us.getD j hM).a=(vs.getD i hM).a) (hb:cnt (vs.getD i hM).op<2->(us.getD j hM).b=(vs.getD i hM).b) (ai:cnt (vs.getD i hM).op<3->(us.getD j hM).c=(vs.getD i hM).c)
  (bV:eW (us.getD j hM)=(eW (vs.getD i hM)).map r) (ay:∀o∈eW (vs.getD i hM),0<=o->o<i->(0<=r o/\r o<j)/\(us.getD (r o).toNat hM).len=(vs.getD o.toNat hM).len):okV ins us j=true:=by
 unfold okV at h⊢;generalize us.getD j _=u at*;generalize vs.getD i _=v at*;rw[Bool.and_eq_true,Bool.and_eq_true]at h;obtain⟨⟨B,R⟩,h3⟩:=h;have aN:gg u=true:=by grind [gg]
 rw[b4,B,aN,bZ];simp only[Bool.true_and];by_cases aj:v.op=0
 ·grind [cnt]
 rw[hJ aj]at h3⊢;rw[Bool.and_eq_true]at h3⊢
 have aw:∀o∈eW v,(0<=r o/\r o<j)/\(us.getD _ _).len=(vs.getD o.toNat _).len:=λo av=>by
  have:=of_decide_eq_true (List.all_eq_true.1 h3.1 o av)
  exact ay o av this.1 this.2
 rw[bV];refine⟨?_,?_⟩
 ·rw[List.all_map,List.all_eq_true];intro o av;exact decide_eq_true (aw o av).1
 have e:((eW v).map r).map (λo=>(us.getD o.toNat hM).len)=(eW v).map λo=>(vs.getD o.toNat hM).len:=by
  rw[List.map_map];apply List.map_congr_left;intro o av;exact(aw o av).2
 grind [cnt,eR]
theorem nh(hi:i<vs.length)(h:okV ins vs i=true):okV ins (vs++[v]) i=true:=by
 have e:∀k,k<vs.length->(vs++[v]).getD k hM=vs.getD k hM:=λk O=>by
  exact xgo
 refine wN h id ?_ ?_ ?_ ?_ ?_ ?_ ?_
 ·rw[e i hi]
 ·rw[e i hi]
 ·intro _;rw[e i hi]
 ·intro _;rw[e i hi]
 ·intro _;rw[e i hi]
 ·rw[e i hi];simp
 intro o _ aj B;refine⟨⟨aj,B⟩,?_⟩;rw[e _ (by simp only[id];omega)];rfl
theorem gX(vs v):(vs++[v]).getD vs.length hM=v:=by
 exact xgm
theorem im(vs v)(O:k<vs.length):(vs++[v]).getD k hM=vs.getD k hM:=by
 exact xgo
theorem kX(xs)(x:Int):(xs++[x]).getD xs.length 0=x:=by
 exact xgm
theorem lY(xs)(x:Int)(O:k<xs.length):(xs++[x]).getD k 0=xs.getD k 0:=by
 exact xgo
def ij (u v:Vl):Bool:=(u.op==v.op&&(u.len==v.len&&(u.a==v.a&&(u.b==v.b&&u.c==v.c))))&&(u.op !=1||fb u.k==fb v.k)
def isC (vs:List Vl)(i:Int)(k:Nat):Bool:=(vs.getD i.toNat hM).op==1&&fb (vs.getD i.toNat hM).k==k
def gi (p:Int)(news:List Vl)(v:Vl)(i:Nat):Int:=
 if p=1 then (news.findIdx (ij · v):Int)
 else if p=3 then (if v.op=6/\(news.getD v.a.toNat hM).op=6 then (news.getD v.a.toNat hM).a else i)
 else if (v.op=4\/v.op=5)/\isC news v.b 4607182418800017408=true then v.a
 else if v.op=4/\isC news v.a 4607182418800017408=true then v.b
 else if v.op=3/\isC news v.b 0=true then v.a
 else if v.op=2/\isC news v.b 9223372036854775808=true then v.a
 else if v.op=2/\isC news v.a 9223372036854775808=true then v.b
 else i
def fh (p:Int)(vs:List Vl):Nat->List Vl×List Int
 |0=>([],[])
 |i+1=>((fh p vs i).1++[rnm (fh p vs i).2 (vs.getD i hM)],(fh p vs i).2++[gi p (fh p vs i).1 (rnm (fh p vs i).2 (vs.getD i hM)) i])
theorem qo(p vs):∀i,(fh p vs i).1.length=i/\(fh p vs i).2.length=i
 |0=>⟨rfl,rfl⟩
 |i+1=>by
  have ag:=qo p vs i
  unfold fh
  simp[ag.1,ag.2]
structure EqI (ins:List Int)(vs:List Vl)(i:Nat)(S:List Vl×List Int):Prop where
 l1:S.1.length=i
 l2:S.2.length=i
 to0:∀j,j<i->0<=S.2.getD j 0/\S.2.getD j 0<=j
 root:∀j,j<i->S.2.getD (S.2.getD j 0).toNat 0=S.2.getD j 0
 tlen:∀j,j<i->(S.1.getD (S.2.getD j 0).toNat hM).len=(vs.getD j hM).len
 len:∀j,j<i->(S.1.getD j hM).len=(vs.getD j hM).len
 ok:∀j,j<i->okV ins S.1 j=true
 opr:∀j,j<i->∀o∈eW (S.1.getD j hM),(0<=o/\o<j)/\S.2.getD o.toNat 0=o
theorem jl(h:okV ins vs i=true):∀o∈eW (vs.getD i hM),0<=o/\o<i:=by
 intro o av;unfold okV at h;generalize vs.getD i _=v at*;rw[Bool.and_eq_true]at h;have h3:=h.2;by_cases aj:v.op=0
 ·have c0:cnt v.op=0:=by rw[aj];rfl
  unfold eW at av;rw[c0]at av;simp at av
 rw[hJ aj,Bool.and_eq_true]at h3;exact of_decide_eq_true (List.all_eq_true.1 h3.1 o av)
theorem qp(h:okV ins vs i=true)(ab:(vs.getD i hM).op=2\/(vs.getD i hM).op=3\/(vs.getD i hM).op=4\/(vs.getD i hM).op=5\/(vs.getD i hM).op=6):∀o∈eW (vs.getD i hM),(vs.getD o.toNat hM).len=(vs.getD i hM).len:=by
 intro o av;unfold okV at h;generalize vs.getD i _=v at*;rw[Bool.and_eq_true]at h;have h3:=h.2;rw[hJ xaa,Bool.and_eq_true]at h3;have a8:=h3.2;unfold eR at a8;rw[hJ xaa,hJ xaa,hJ xaa,hJ xaa,hK xaa]at a8;have:=List.all_eq_true.1 a8 _ (List.mem_map_of_mem av);exact beq_iff_eq.1 this
theorem gI(h:1<=cnt v.op):v.a∈eW v:=by
 have:=gK v.op;unfold eW;rcases (by omega:cnt v.op=1\/cnt v.op=2\/cnt v.op=3) with e|e|e<;>simp[e]
theorem jm(h:2<=cnt v.op):v.b∈eW v:=by
 have:=gK v.op;unfold eW;rcases (by omega:cnt v.op=2\/cnt v.op=3) with e|e<;>simp[e]
theorem lR(h:3<=cnt v.op):v.c∈eW v:=by
 have:=gK v.op;unfold eW;simp[(by omega:cnt v.op=3)]
theorem wO{op}(h:op=2\/op=3\/op=4\/op=5):cnt op=2:=by
 rcases h with rfl|rfl|rfl|rfl<;>decide
theorem CU(h:ij u v=true):u.len=v.len:=by
 unfold ij at h;simp only[Bool.and_eq_true,beq_iff_eq]at h;exact h.1.2.1
theorem E9(h:ij u v=true)(x):ij x u=ij x v:=by
 unfold ij at h⊢;simp only[Bool.and_eq_true,beq_iff_eq,Bool.or_eq_true]at h;obtain⟨⟨aO,aR,b2,a0,cz⟩,m⟩:=h;rw[aO,aR,b2,a0,cz];rcases m with m|m
 ·rw[aO]at m;by_cases aJ:x.op=v.op
  ·simp[aJ,m]
  have:=yam aJ;simp[this]
 rw[m]
theorem dH.qfg(h:Zp:=by
 refine wN h (λo=>S.2.getD o.toNat 0) ?_ ?_ ?_ ?_ ?_ ?_ ?_
 ·rw[ae];rfl
 ·rw[ae];rfl
 ·intro c;rw[ae];unfold rnm;simp only;rw[hJ xaa]
 ·intro c;rw[ae];unfold rnm;simp only;rw[hJ xaa]
 ·intro c;rw[ae];unfold rnm;simp only;rw[hJ xaa]
 ·rw[ae];exact re _ _
 intro o _ aj B;have t:=E.to0 o.toNat xaa;refine⟨⟨t.1,by omega⟩,?_⟩;rw[im _ _ (by rw[E.l1];omega)];exact E.tlen _ xaa):Zp:=h
open dH in
theorem AG(E:EqI ins vs i S)(h:okV ins vs i=true):okV ins (S.1++[rnm S.2 (vs.getD i hM)]) i=true:=by
 exact qff
theorem qq(E:EqI ins vs i S)(h:okV ins vs i=true):∀o∈eW (rnm S.2 (vs.getD i hM)),(0<=o/\o<i)/\S.2.getD o.toNat 0=o:=by
 intro o av;rw[re]at av;obtain⟨q,aq,rfl⟩:=List.mem_map.1 av;have hb:=jl h q aq;have t:=E.to0 q.toNat xaa;exact⟨⟨t.1,by omega⟩,E.root _ xaa⟩
theorem cT.qdb(h:Zp:=by
 refine⟨by omega,?_,?_⟩
 ·rw[Int.toNat_natCast];refine Or.elim (f _ hj ?_) id (λc=>absurd a8 c);congr 1;funext u;rw[bg,E9 m u]
 rw[Int.toNat_natCast,bg];rw[CU m];exact b4):Zp:=h
theorem cT.qfg(h:Zp:=by
 have b4:(rnm S.2 _).len=(vs.getD i hM).len:=rfl
 have l:((rnm S.2 (vs.getD i hM)).op=2\/(rnm S.2 (vs.getD i hM)).op=3\/(rnm S.2 (vs.getD i hM)).op=4\/(rnm S.2 (vs.getD i hM)).op=5\/(rnm S.2 (vs.getD i hM)).op=6)->∀o∈eW (rnm S.2 (vs.getD i hM)),(S.1.getD o.toNat hM).len=(vs.getD i hM).len:=by
  intro ab o av;have:=qp P (hU ae ab) o (hU ae av);rw[ae,b4,im _ _ (by rw[E.l1];have:=(bZ o av).1;omega)]at this;exact this
 generalize aL:rnm S.2 _=v at*
 have e:∀o,o∈eW v->(v.op=2\/v.op=3\/v.op=4\/v.op=5\/v.op=6)->(0<=o/\o<i)/\S.2.getD _ 0=o/\(S.1.getD o.toNat _).len=(vs.getD i _).len:=
  λo av ab=>⟨(bZ o av).1,(bZ o av).2,l ab o av⟩
 unfold gi;by_cases a8:p=1
 ·rw[hK a8];by_cases bb:S.1.findIdx (ij · v)<S.1.length
  ·right;exact qda
  exact xjq
 rw[hJ a8];by_cases z:p=3
 ·rw[hK z];by_cases c:v.op=6/\(S.1.getD v.a.toNat hM).op=6
  ·rw[hK c];right;have ar:1<=cnt v.op:=by rw[c.1];decide
   have B:=e _ (gI ar) xaa;have hj:v.a.toNat<i:=xaa;have Y:1<=cnt (S.1.getD v.a.toNat hM).op:=by rw[c.2];decide
   have R:=E.opr _ hj _ (gI Y);have h3:=qp (E.ok _ hj) xaa _ (gI Y);exact⟨⟨R.1.1,by omega⟩,R.2,hU h3 B.2.2⟩
  rw[hJ c];left;rfl
 rw[hJ z];by_cases c:(v.op=4\/v.op=5)/\isC S.1 v.b 4607182418800017408=true
 ·exact xhe
 rw[hJ c];clear c;by_cases c:v.op=4/\isC S.1 v.a 4607182418800017408=true
 ·exact xkj
 rw[hJ c];clear c;by_cases c:v.op=3/\isC S.1 v.b 0=true
 ·exact xhe
 rw[hJ c];clear c;by_cases c:v.op=2/\isC S.1 v.b 9223372036854775808=true
 ·exact xhe
 rw[hJ c];clear c;by_cases c:v.op=2/\isC S.1 v.a 9223372036854775808=true
 ·exact xkj
 rw[hJ c];left;rfl):Zp:=h
open cT in
theorem CV(E:EqI ins vs i S)(h:okV ins vs i=true)(p)(f:∀j,j<i->(S.1.findIdx (ij · (S.1.getD j hM))=j->S.2.getD j 0=j\/p≠1)):
  (gi p S.1 (rnm S.2 (vs.getD i hM)) i=i)\/((0<=gi p S.1 (rnm S.2 (vs.getD i hM)) i/\gi p S.1 (rnm S.2 (vs.getD i hM)) i<i)/\S.2.getD (gi p S.1 (rnm S.2 (vs.getD i hM)) i).toNat 0=gi p S.1 (rnm S.2 (vs.getD i hM)) i/\(S.1.getD (gi p S.1 (rnm S.2 (vs.getD i hM)) i).toNat hM).len=(vs.getD i hM).len):=by
 have bZ:=qq E h;have P:=AG E h;exact qff
theorem s8(vs):∀i j,j<i->(fh 1 vs i).1.findIdx (ij · ((fh 1 vs i).1.getD j hM))=j->(fh 1 vs i).2.getD j 0=j
 |0,j,hj,_=>by omega
 |i+1,j,hj,bb=>by
  have ah:=qo 1 vs i
  have e:fh 1 _ (i+1)=((fh 1 vs i).1++[rnm (fh 1 _ i).2 _],(fh 1 _ i).2++[gi 1 _ _ i]):=rfl
  rw[e]at bb⊢
  simp only at bb⊢
  by_cases C:j<i
  ·rw[lY _ _ (hU ah.2 C)]
   rw[im _ _ (hU ah.1 C),List.findIdx_append]at bb
   by_cases ai:(fh 1 vs i).1.findIdx (ij · ((fh 1 vs i).1.getD j hM))<(fh 1 vs i).1.length
   ·rw[hK ai]at bb
    exact s8 _ i j C bb
   ·rw[hJ ai]at bb
    rw[ah.1]at bb ai
    omega
  ·have t:j=i:=xaa
   subst t
   have ae:((fh 1 vs j).2++[gi 1 (fh 1 vs j).1 (rnm (fh 1 vs j).2 (vs.getD j hM)) j]).getD j 0=gi 1 (fh 1 vs j).1 (rnm (fh 1 vs j).2 (vs.getD j hM)) j:=by
    have:=kX (fh 1 vs j).2 (gi 1 (fh 1 vs j).1 (rnm (fh 1 vs j).2 (vs.getD j hM)) j);rw[ah.2]at this
    exact this
   have a9:((fh 1 vs j).1++[rnm (fh 1 vs j).2 (vs.getD j hM)]).getD j hM=rnm (fh 1 vs j).2 (vs.getD j hM):=by
    have:=gX (fh 1 vs j).1 (rnm (fh 1 vs j).2 (vs.getD j hM));rw[ah.1]at this
    exact this
   rw[ae]
   rw[a9,List.findIdx_append]at bb
   unfold gi
   rw[hK rfl]
   by_cases ai:(fh 1 vs j).1.findIdx (ij · (rnm (fh 1 vs j).2 (vs.getD j hM)))<(fh 1 vs j).1.length
   ·rw[hK ai]at bb
    rw[bb]
   ·have:=List.findIdx_le_length (p:=(ij · (rnm (fh 1 vs j).2 (vs.getD j hM)))) (xs:=(fh 1 vs j).1)
    rw[ah.1]at this ai;omega
theorem Fa(E:EqI ins vs i S)(h:okV ins vs i=true)(s:Int)(ad:s=i\/((0<=s/\s<i)/\S.2.getD s.toNat 0=s/\(S.1.getD s.toNat hM).len=(vs.getD i hM).len)):
  EqI ins vs (i+1) (S.1++[rnm S.2 (vs.getD i hM)],S.2++[s]):=by
 have P:=AG E h;have bZ:=qq E h;have ay:∀k,k<i->(S.1++[rnm S.2 (vs.getD i hM)]).getD k _=S.1.getD k _:=λk O=>im _ _ (by rw[E.l1];exact O)
 have bc:(S.1++[rnm S.2 (vs.getD i hM)]).getD i hM=rnm S.2 (vs.getD i hM):=by
  exact xfu
 have bj:∀k,k<i->(S.2++[s]).getD k 0=S.2.getD k 0:=λk O=>lY _ _ (by rw[E.l2];exact O)
 have aQ:(S.2++[s]).getD i 0=s:=by
  have:=kX S.2 s;rw[E.l2]at this;exact this
 refine⟨by simp[E.l1],by simp[E.l2],?_,?_,?_,?_,?_,?_⟩
 ·intro j hj;simp only;by_cases c:j<i
  ·rw[bj j c];exact E.to0 j c
  have:j=i:=xaa;subst this;rw[aQ];omega
 ·intro j hj;simp only;by_cases c:j<i
  ·have:=E.to0 j c;rw[bj j c,bj _ xaa];exact E.root j c
  have:j=i:=xaa;subst this;rw[aQ];rcases ad with ad|⟨bO,b9,_⟩
  ·have t:s.toNat=j:=xaa;rw[t,aQ]
  rw[bj _ xaa];exact b9
 ·intro j hj;simp only;by_cases c:j<i
  ·have:=E.to0 j c;rw[bj j c,ay _ xaa];exact E.tlen j c
  have:j=i:=xaa;subst this;rw[aQ];rcases ad with ad|⟨bO,_,g⟩
  ·have t:s.toNat=j:=xaa;rw[t,bc];rfl
  rw[ay _ xaa];exact g
 ·intro j hj;simp only;by_cases c:j<i
  ·rw[ay j c];exact E.len j c
  have:j=i:=xaa;subst this;rw[bc];rfl
 ·intro j hj;simp only;by_cases c:j<i
  ·exact nh (by rw[E.l1];exact c) (E.ok j c)
  have:j=i:=xaa;subst this;exact P
 intro j hj o av;simp only at av⊢;by_cases c:j<i
 ·rw[ay j c]at av;have:=E.opr j c o av;exact⟨this.1,by rw[bj _ xaa];exact this.2⟩
 have:j=i:=xaa;subst this;rw[bc]at av;have:=bZ o av;exact⟨this.1,by rw[bj _ xaa];exact this.2⟩
theorem lz(ins vs p):∀i,(∀j,j<i->okV ins vs j=true)->EqI ins vs i (fh p vs i)
 |0,_=>⟨rfl,rfl,by intro j hj;omega,by intro j hj;omega,by intro j hj;omega,by intro j hj;omega,by intro j hj;omega,by intro j hj;omega⟩
 |i+1,h=>by
  have E:=lz _ _ p i (λj hj=>h j xaa)
  refine Fa E (h i xaa) _ (CV E (h i xaa) p ?_)
  intro j hj bb
  by_cases aK:p=1
  ·subst aK
   exact .inl (s8 _ i j hj bb)
  ·exact .inr aK
def mI (tq:List Int)(outs:List Int):List Int:=outs.map λo=>tq.getD o.toNat 0
def eqM (p:Int)(vs:List Vl)(outs:List Int):List Vl×List Int:=((fh p vs vs.length).1,mI (fh p vs vs.length).2 outs)
theorem gz(h:okG ins vs outs=true):(ins.length<=20/\vs.length<=2000/\outs.length<=50)/\ins.all lenB=true/\(∀j,j<vs.length->okV ins vs j=true)/\(∀o∈outs,0<=o/\o<vs.length)/\fe vs<=50000:=by
 unfold okG at h;simp only[Bool.and_eq_true]at h;obtain⟨B,R,h3,a8,bQ⟩:=h;exact⟨of_decide_eq_true B,R,λj hj=>List.all_eq_true.1 h3 j (List.mem_range.2 hj),λo av=>of_decide_eq_true (List.all_eq_true.1 a8 o av),of_decide_eq_true bQ⟩
theorem th(B:ins.length<=20/\vs.length<=2000/\outs.length<=50)(R:ins.all lenB=true)(h3:∀j,j<vs.length->okV ins vs j=true)(a8:∀o∈outs,0<=o/\o<vs.length)(bQ:fe vs<=50000):okG ins vs outs=true:=by
 unfold okG;simp only[Bool.and_eq_true];exact⟨decide_eq_true B,R,List.all_eq_true.2 λj hj=>h3 j (List.mem_range.1 hj),List.all_eq_true.2 λo av=>decide_eq_true (a8 o av),decide_eq_true bQ⟩
theorem rg:∀(us vs:List Vl),us.length=vs.length->(∀j,j<us.length->(us.getD j hM).len=(vs.getD j hM).len)->fe us=fe vs
 |[],[],_,_=>rfl
 |u::us,v::vs,ah,h=>by
  have aj:=h 0 xac
  have:=rg _ _ (by simpa using ah) (λj hj=>by
   have:=h (j+1) yaf
   simpa using this)
  simp only[fe,this]
  have P:u.len=v.len:=by simpa using aj
  rw[P]
theorem Mu(p)(h:okG ins vs outs=true):okG ins (eqM p vs outs).1 (eqM p vs outs).2=true:=by
 obtain⟨B,R,h3,a8,bQ⟩:=gz h;have E:=lz _ _ p _ h3;have bP:=E.l1;unfold eqM;refine th ⟨B.1,hU bP B.2.1,by simp[mI];exact B.2.2⟩ R (λj hj=>E.ok j (hV bP hj)) ?_ ?_
 ·intro o av;simp only[mI,List.mem_map]at av;obtain⟨q,aq,rfl⟩:=av;have hb:=a8 q aq;have:=E.to0 q.toNat xaa;rw[bP];omega
 rw[rg _ _ bP (λj hj=>E.len j (hV bP hj))];exact bQ
def Kb (vs:List Vl):Prop:=∀v∈vs,v.k<18446744073709551616
theorem Kb.at_(h:Kb vs)(k):(vs.getD k hM).k<18446744073709551616:=by
 rw[yah];by_cases O:k<vs.length
 ·exact xld
 rw[List.getElem?_eq_none xaa];exact(by decide:hM.k<18446744073709551616)
theorem Kb.app(h:Kb vs)(aL:v.k<18446744073709551616):Kb (vs++[v]):=by
 intro u aJ;simp only[List.mem_append,List.mem_singleton]at aJ;rcases aJ with c|rfl
 ·exact h u c
 exact aL
theorem jZ(h:okV ins vs i=true):lenB (vs.getD i hM).len=true:=by
 grind [okV]
def jz (F:List Bool)(os:List Int):List Bool:=os.foldl (λF o=>F.set o.toNat true) F
theorem nj(s):∀F,(jz F s).length=F.length:=by
 induction s with
 |nil=>intro F;rfl
 |cons o r ag=>intro F;show(jz (F.set o.toNat true) r).length=_;rw[ag];simp
theorem oT(s i):∀F:List Bool,i<F.length->(jz F s).getD i false=(F.getD i false||s.any λo=>o.toNat==i):=by
 induction s with
 |nil=>intro F _;simp[jz]
 |cons o r ag=>
  intro F hi;show(jz (F.set o.toNat true) r).getD i false=_;rw[ag _ (by simp;exact hi)]
  have e:(F.set o.toNat true).getD i false=(F.getD i false||o.toNat==i):=by
   rw[yah,List.getElem?_set,yah];by_cases c:o.toNat=i
   ·subst c;simp[hi]
   simp[c]
  rw[e,List.any_cons,Bool.or_assoc]
def ndI (vs:List Vl)(outs:List Int):Nat->List Bool
 |0=>jz (List.replicate vs.length false) outs
 |k+1=>if (ndI vs outs k).getD (vs.length-1-k) false=true then jz (ndI vs outs k) (eW (vs.getD (vs.length-1-k) hM))else ndI vs outs k
theorem qr(vs outs):∀k,(ndI vs outs k).length=vs.length
 |0=>by simp[ndI,nj]
 |k+1=>by
  rw[ndI]
  split
  ·rw[nj];exact qr _ _ k
  ·exact qr _ _ k
theorem yH(h:(ndI vs outs k).getD i false=true):(ndI vs outs (k+1)).getD i false=true:=by
 have hi:i<(ndI vs outs k).length:=by
  rcases Nat.lt_or_ge i (ndI vs outs k).length with c|c
  ·exact c
  rw[yah,List.getElem?_eq_none c]at h;cases h
 rw[ndI];split
 ·rw[oT _ _ _ hi,h,Bool.true_or]
 exact h
theorem nu{ins vs outs}(aL:∀j,j<vs.length->okV ins vs j=true):∀k,k<=vs.length->∀i,vs.length-k<=i->i<vs.length->(ndI vs outs k).getD i false=true->∀o∈eW (vs.getD i hM),(ndI vs outs k).getD o.toNat false=true
 |0,_,i,B,R,_,_,_=>by omega
 |k+1,O,i,B,R,h3,o,av=>by
  have bP:=qr vs outs k
  have hb:=jl (aL i R) o av
  by_cases c:vs.length-k<=i
  ·refine yH (nu aL k xaa i c R ?_ o av)
   rw[ndI]at h3
   split at h3
   ·rw[oT _ _ _ (hU bP R),Bool.or_eq_true]at h3
    rcases h3 with h3|h3
    ·exact h3
    ·exfalso
     rw[List.any_eq_true]at h3
     obtain⟨q,aO,aR⟩:=h3
     have:=jl (aL _ xaa) q aO
     rw[beq_iff_eq]at aR
     omega
   ·exact h3
  ·have e:i=vs.length-1-k:=xaa
   rw[ndI]at h3⊢
   rw[<-e]at h3⊢
   by_cases d:(ndI vs outs k).getD i false=true
   ·rw[hK d,oT _ _ _ (hW bP),Bool.or_eq_true]
    right
    rw[List.any_eq_true]
    exact⟨o,av,by rw[beq_iff_eq]⟩
   ·rw[hJ d]at h3
    exact absurd h3 d
theorem tr{vs outs}(av:∀o∈outs,0<=o/\o<vs.length):∀k,∀o∈outs,(ndI vs outs k).getD o.toNat false=true
 |0,o,h=>by
  have:=av o h
  rw[ndI,oT _ _ _ yaf,Bool.or_eq_true]
  right
  rw[List.any_eq_true]
  exact⟨o,h,by rw[beq_iff_eq]⟩
 |k+1,o,h=>yH (tr av k o h)
def iJ (F:List Bool)(vs:List Vl):Nat->List Vl×List Int
 |0=>([],List.replicate vs.length 0)
 |i+1=>if F.getD i false=true then ((iJ F vs i).1++[rnm ((iJ F vs i).2.set i (iJ F vs i).1.length) (vs.getD i hM)],(iJ F vs i).2.set i (iJ F vs i).1.length)else iJ F vs i
def pz (vs:List Vl)(outs:List Int):List Vl×List Int:=((iJ (ndI vs outs vs.length) vs vs.length).1,mI (iJ (ndI vs outs vs.length) vs vs.length).2 outs)
structure DkI (ins:List Int)(F:List Bool)(vs:List Vl)(i:Nat)(S:List Vl×List Int):Prop where
 l2:S.2.length=vs.length
 l1:S.1.length<=i
 to0:∀j,j<i->F.getD j false=true->0<=S.2.getD j 0/\S.2.getD j 0<S.1.length
 tlen:∀j,j<i->F.getD j false=true->(S.1.getD (S.2.getD j 0).toNat hM).len=(vs.getD j hM).len
 ok:∀j,j<S.1.length->okV ins S.1 j=true
 cells:fe S.1<=fe (vs.take i)
theorem wQ(G:List Int)(j b i)(hi:i<G.length):(G.set j b).getD i 0=if j=i then b else G.getD i 0:=by
 rw[yah,List.getElem?_set,yah];by_cases c:j=i
 ·subst c;simp[hi]
 simp[c]
theorem sD{ins F vs}(aL:∀j,j<vs.length->okV ins vs j=true)(bu:∀i,i<vs.length->F.getD i false=true->∀o∈eW (vs.getD i hM),F.getD o.toNat false=true):∀i,i<=vs.length->DkI ins F vs i (iJ F vs i)
 |0,_=>⟨by simp[iJ],yad,by intro j hj;omega,by intro j hj;omega,by intro j hj;simp[iJ]at hj,by simp[iJ]⟩
 |i+1,hi=>by
  have D:=sD aL bu i xaa
  have b4:1<=(vs.getD i hM).len:=by
   have:=jZ (aL i xaa);have:=of_decide_eq_true this
   omega
  rw[iJ]
  by_cases c:F.getD i false=true
  ·rw[hK c]
   generalize aT:iJ F _ i=S at*;have Z:∀j,j<vs.length->(S.2.set i _).getD j 0=if i=j then (S.1.length:Int)else S.2.getD j 0:=λj hj=>wQ _ _ _ _ (hU D.l2 hj)
   have h:okV ins (S.1++[rnm (S.2.set i S.1.length) (vs.getD i hM)]) S.1.length=true:=by
    have ae:=gX S.1 (rnm (S.2.set i S.1.length) (vs.getD i hM));refine wN (aL i xaa) (λo=>(S.2.set i S.1.length).getD o.toNat 0) ?_ ?_ ?_ ?_ ?_ ?_ ?_
    ·rw[ae];rfl
    ·rw[ae];rfl
    ·intro c;rw[ae];unfold rnm;simp only;rw[hJ xaa]
    ·intro c;rw[ae];unfold rnm;simp only;rw[hJ xaa]
    ·intro c;rw[ae];unfold rnm;simp only;rw[hJ xaa]
    ·rw[ae];exact re _ _
    intro o av aj B;have g:=bu i xaa c o av;have t:=D.to0 _ xaa g;rw[Z _ xaa,hJ xaa];refine⟨t,?_⟩;rw[im _ _ xaa];exact D.tlen _ xaa g
   refine⟨by simp[D.l2],by simp;have:=D.l1;omega,?_,?_,?_,?_⟩
   ·intro j hj f;simp only;rw[Z _ xaa];rw[yak,List.length_singleton];by_cases e:i=j
    ·rw[hK e];omega
    rw[hJ e];have:=D.to0 j xaa f;omega
   ·intro j hj f;simp only;rw[Z _ xaa];by_cases e:i=j
    ·subst e;rw[hK rfl,Int.toNat_natCast,gX];rfl
    rw[hJ e];have:=D.to0 j xaa f;rw[im _ _ xaa];exact D.tlen j xaa f
   ·intro j hj;simp only at hj⊢;rw[yak,List.length_singleton]at hj;by_cases e:j<S.1.length
    ·exact nh e (D.ok j e)
    have:j=S.1.length:=xaa;subst this;exact h
   ·simp only
    rw[py,mw xaa]
    have:=D.cells
    have e:(rnm (S.2.set i S.1.length) _).len=(vs.getD i hM).len:=rfl
    omega
  ·rw[hJ c]
   refine⟨D.l2,hR D.l1,?_,?_,D.ok,?_⟩
   ·intro j hj f;by_cases e:j=i
    ·subst e;exact absurd f c
    exact D.to0 j xaa f
   ·intro j hj f;by_cases e:j=i
    ·subst e;exact absurd f c
    exact D.tlen j xaa f
   rw[mw xaa];have:=D.cells;omega
theorem Fb(h:okG ins vs outs=true):okG ins (pz vs outs).1 (pz vs outs).2=true:=by
 obtain⟨B,R,h3,a8,bQ⟩:=gz h;have D:=sD (F:=ndI _ outs _) h3 (λi hi bu o av=>nu h3 _ yad i xaa hi bu o av) _ yad;have bP:=D.l1;unfold pz;refine th ⟨B.1,by simp only;omega,by simp[mI];exact B.2.2⟩ R D.ok ?_ ?_
 ·intro o av;simp only[mI,List.mem_map]at av;obtain⟨q,aq,rfl⟩:=av;have hb:=a8 q aq;exact D.to0 _ xaa (tr a8 _ q aq)
 have:=D.cells;rw[yao yad]at this;simp only;omega
end
section
attribute [local go_sem] eG eE eD
variable {w a J b c W':World}{lo base e hi g size p n l cap h Y U:Nat}{T S:Nat->Prop}{aC:Option Nat}{vs:List Vl}{bb N aA:Value}{ins:List Int}{xs:List Value}
theorem CW(b w):
  Calls prog 135 #[.int .u64 b] w λe J=>e=.returned (.float .f64 b.toNat)/\J=w:=by
 have ai:=ER;go_enter func135,ntmps135;go_wp2;go_ret;exact⟨rfl,rfl⟩
theorem BL(x y:Nat):((x:Int)==y)=(x==y):=by
 rw[Bool.eq_iff_iff,beq_iff_eq,beq_iff_eq];omega
def oU (op:Int):Bool:=op==4||op==2
theorem Fc(op w):Calls prog 113 #[hI op] w λe J=>e=.returned (.bool (oU op))/\J=w:=by
 unfold oU;cases aQ:(op==4)
 ·cases a6:(op==2)
  all_goals
   go_enter func113,ntmps113
   go_wp2
   go_ret
   exact⟨rfl,rfl⟩
 go_enter func113,ntmps113;go_wp2;go_ret;exact⟨rfl,rfl⟩
def kL (op:Int):Nat:=if op=4\/op=5 then 4607182418800017408 else if op=2 then 9223372036854775808 else 0
def rT (op:Int):Bool:=decide (op=4\/op=5\/op=3\/op=2)
theorem CX(op w):Calls prog 111 #[hI op] w λe J=>e=.returned (.tuple #[.float .f64 (kL op),.bool (rT op)])/\J=w:=by
 rcases (by omega:op=4\/op=5\/op=3\/op=2\/(op≠4/\op≠5/\op≠3/\op≠2)) with rfl|rfl|rfl|rfl|h
 ·exact xfy
 ·exact xfy
 ·exact xfy
 ·go_enter func111,ntmps111;go_wp2_with fail;refine(CW _ _).mono ?_;rintro e af ⟨rfl,rfl⟩;go_wp2;go_ret2
  exact⟨rfl,rfl⟩
 have ae:kL op=0:=by unfold kL;rw[hJ xaa,hJ xaa]
 have a9:rT op=false:=yax xaa;rw[ae,a9];have aQ:(op==4)=false:=yam h.1;have a6:(op==5)=false:=yam h.2.1;have bK:(op==3)=false:=yam h.2.2.1;have b1:(op==2)=false:=yam h.2.2.2;clear h ae a9;exact xfy
theorem uT(w)(v:Vl)(k):Calls prog 112 #[v.agg,.float .f64 k] w λe J=>e=.returned (.bool (v.op==1&&fb v.k==fb k))/\Kept 0 0 w J:=by
 have aw:V (∀w,Calls prog 134 #[.float .f64 v.k,.float .f64 k] w λe J=>e=.returned (.bool (fb v.k==fb k))/\J=w):=λw=>(yq v.k k w).mono λ_ _ h=>⟨by rw[h.1,BL],h.2⟩
 generalize (fb v.k==fb k)=q at aw⊢;cases t:(v.op==1)
 ·go_enter func112,ntmps112;go_wp2;go_ret;exact⟨rfl,ez _ _ _ _⟩
 go_enter func112,ntmps112;go_wp2_with fail;refine yai (aw.o _) ?_;rintro e af ⟨rfl,rfl⟩;go_wp2;go_ret;exact⟨by simp,ez _ _ _ _⟩
theorem G0.keepT{W}(t:G0 W p bb N aA)(k:Kept l h W W')(aV:p<l\/h<=p\/h<=l):G0 W' p bb N aA:=by
 have e:∀o,_:=λo=>k.cell (p:=⟨p,o,none⟩) t.sz (by grind);exact⟨yaj t.sz k.size,hU e t.q0,hU e t.q1,hU e t.q2⟩
theorem Kept.chg1(k:Kept g (g+1) w J)(h:S g):Chg S w J:=
 ⟨k.os,k.tape,k.output,k.size,λi hi hn=>k.block i hi λc=>hn ((show g=i by omega) ▸ h)⟩
theorem Chg.andThen(h:Chg S a b)(k:Chg S b c):Chg S a c:=
 ⟨k.os.trans h.os,k.tape.trans h.tape,k.output.trans h.output,yan h.size k.size,λi hi hn=>(k.block i (yaj hi h.size) hn).trans (h.block i hi hn)⟩
theorem e8{v W}(h:W.ownsRow base e size v n xs)(k:Kept 0 0 W W'):W'.ownsRow base e size v n xs:=by
 refine⟨h.1,h.2.imp id ?_⟩;rintro⟨g,cap,H,ae,N,aA,ab⟩;refine⟨g,_,_,ae,N,?_,ab⟩;have aW:g<W.heap.size:=by grind
 rw[k.block g aW xaa];exact aA
theorem OS{xs:List Int}(au:xs.length=n)(ai:∀k,k<n->w.cell? ⟨g,k,none⟩=some (hI (xs.getD k 0))):
  ∀j u,(xs.map (Value.int .i64))[j]? =some u->w.cell? ((⟨g,0,none⟩:Addr).add j)=some u:=λj u aJ=>by
 have hj:j<n:=by
  rcases Nat.lt_or_ge j n with c|c
  ·exact c
  ·rw[List.getElem?_eq_none yaf]at aJ;cases aJ
 have B:=ai j hj
 have e:(⟨g,0,none⟩:Addr).add j=⟨g,j,none⟩:=by
  unfold Addr.add;split
  ·rename_i aj;rw[aj]
  ·simp
 rw[e,B]
 rw[List.getElem?_map,yal (by omega:j<xs.length)]at aJ
 simp only[Option.map_some]at aJ
 rw[<-aJ,yah,yal (by omega:j<xs.length)];rfl
theorem OT(au:vs.length=n)(ai:∀k,k<n->At w g (k*6) (vs.getD k hM)):
  ∀j u,(fQ vs)[j]? =some u->w.cell? ((⟨g,0,none⟩:Addr).add j)=some u:=λj u aJ=>by
 have hj:j<n*6:=by
  rcases Nat.lt_or_ge j (n*6) with c|c
  ·exact c
  ·rw[List.getElem?_eq_none (by rw[qn];omega)]at aJ;cases aJ
 have e:(⟨g,0,none⟩:Addr).add j=⟨g,j,none⟩:=by
  unfold Addr.add;split
  ·rename_i aj;rw[aj]
  ·simp
 have t:j=j/6*6+j%6:=xaa
 have O:j/6<n:=xaa
 rw[t,sB _ _ _ xaa xaa]at aJ
 rw[e,t]
 obtain⟨c0,c1,c2,c3,c4,c5⟩:=ai _ O
 have:j%6=0\/j%6=1\/j%6=2\/j%6=3\/j%6=4\/j%6=5:=xaa
 rcases this with h|h|h|h|h|h
 all_goals
  rw[h]at aJ⊢;simp[Vl.cells]at aJ
  subst aJ
 ·rw[Nat.add_zero];exact c0
 ·exact c1
 ·exact c2
 ·exact c3
 ·exact c4
 ·exact c5
theorem mx(h:w.grownBy J aC)(ay:∀k,aC=some k->base<=k){w0}(k:Kept 0 0 w0 w)(hb:w0.heap.size<=base):Kept 0 0 w0 J:=
 ⟨h.os.trans k.os,h.tape.trans k.tape,h.output.trans k.output,yan k.size h.size,λi hi _=>by
  rw[h.block i (yaj hi k.size) (λc=>by grind)]
  exact k.block i hi xaa⟩
theorem Mw:∀(vs:List Vl),∀u∈fQ vs,u.oneCell'=true
 |[],_,h=>by cases h
 |v::r,u,h=>by
  rcases List.mem_append.1 h with c|c
  ·exact CS v u c
  ·exact Mw r u c
theorem yI{v}{W:World}(h:W.ownsRow base e size v n xs)(aL:v≠.slice none 0 0):∃g cap,v=hH g n cap/\base<=g/\g<W.heap.size:=by
 rcases h.2 with⟨e,_⟩|⟨g,cap,H,e,N,aA,_⟩<;>grind
theorem Mx(w g n c xs)(b8:n<=1000000)(h:IE w g xs)(au:xs.length=n):
  Calls prog 69 #[hH g n c] w λe J=>∃G cap,e=.returned (hH G n cap)/\w.heap.size<=G/\G<J.heap.size/\J.ownsRow w.heap.size 3 1 (hH G n cap) n (xs.map (Value.int .i64))/\Kept 0 0 w J:=by
 obtain⟨bK,hi,bU,bO,bR⟩:=info_parts sW
 have i:(binOp .eql 23 (hH g n c) (.slice none 0 0)).run prog w=.ok (.bool false) w:=by
  simp only[binOp];simp[run_equal_slice_nil w 23 3 (some ⟨g,0,none⟩) n c underlying23]
 have bH:=ez 0 0 w (.cells #[] 3);have ai:∀k,k<n->_:=λk O=>h.cell k xaa;have bD:V _:=OS au (λk O=>jh bH h.lt (ai k O));have HO:V _:=World.ownsRow_made (e:=3) (size:=1) w #[] 0 yad (by unfold maxLen;omega) rfl;have q:V _:=bH;have bv:V _:=au;clear ai au bH h;go_enter func69,ntmps69;go_wp2_with (first|(at_builtin;refine wpList_append_own _ rfl _ _ _ rfl _ 3 _ _ 1 8 underlying23 hi bU bO bR rfl xab _ _ _ rfl HO.o _ n c _ rfl ?c0 bD.o ?c2 ?c3 ?c4 ?c5 ?_))
 case c0=>exact bv.o
 case c2=>intro u aJ;rfl
 case c3=>unfold maxLen;omega
 case c4=>omega
 exact xfj
theorem My(w g n c vs)(b8:n<=1000000)(h:VA w g n vs):
  Calls prog 70 #[hH g n c] w λe J=>∃G cap,e=.returned (hH G n cap)/\w.heap.size<=G/\G<J.heap.size/\J.ownsRow w.heap.size 53 6 (hH G n cap) n (fQ vs)/\Kept 0 0 w J:=by
 obtain⟨bK,hi,bU,bO,bR⟩:=info_parts sV
 have i:(binOp .eql 24 (hH g n c) (.slice none 0 0)).run prog w=.ok (.bool false) w:=by
  simp only[binOp];simp[run_equal_slice_nil w 24 53 (some ⟨g,0,none⟩) n c underlying24]
 have bH:=ez 0 0 w (.cells #[] 53);have bD:V _:=OT h.len (λk O=>(h.at_ k O).keep h.lt bH yaa);have HO:V _:=World.ownsRow_made (e:=53) (size:=6) w #[] 0 yad (by unfold maxLen;omega) rfl;have q:V _:=bH;have bv:V _:=h.len;clear bH h;go_enter func70,ntmps70;go_wp2_with (first|(at_builtin;refine wpList_append_own _ rfl _ _ _ rfl _ 53 _ _ 6 _ underlying24 hi bU bO bR rfl xab _ _ _ rfl HO.o _ n c _ rfl ?c0 bD.o ?c2 ?c3 ?c4 ?c5 ?_))
 case c0=>rw[qn,bv.o]
 case c2=>exact Mw _
 case c3=>unfold maxLen;omega
 case c4=>omega
 exact xfj
theorem kY{xs:List Int}{q}(h:q<xs.length):xs.getD q 0∈xs:=by
 simp_all
theorem jd{f v}{W:World}(h:W.ownsRow base e size v n xs)(hb:f<=base):W.ownsRow f e size v n xs:=
 ⟨h.1,h.2.imp id λ⟨g,cap,H,ae,N,aA⟩=>⟨g,cap,H,ae,yan hb N,aA⟩⟩
theorem Kept.drew(h:Kept lo hi w J):Kept lo hi w J.drew:=⟨h.os,h.tape,h.output,h.size,h.block⟩
theorem cH.qcr(h:Zp:=by
 have:=aV g (hX ae);rw[k.block g aW xaa];exact aA):Zp:=h
open cH in
theorem gM{v W}(o:W.ownsRow base e size v n xs)(k:Kept l h W W')(aV:∀g,v.ownBlock=some g->g<l\/h<=g):W'.ownsRow base e size v n xs:=by
 exact qcq
abbrev OI (w:World)(base G n cap:Nat)(xs:List Int):Prop:=w.ownsRow base 3 1 (.slice (some ⟨G,0,none⟩) n cap) n (xs.map (Value.int .i64))
abbrev fp:Obj:=.cells #[.slice none 0 0,.slice none 0 0,.slice none 0 0] 26
structure RB (W:World)(p:Nat)(b0 b1 b2:Value):Prop where
 sz:p<W.heap.size
 q0:W.cell? ⟨p,0,none⟩=some b0
 q1:W.cell? ⟨p,1,none⟩=some b1
 q2:W.cell? ⟨p,2,none⟩=some b2
 f0:W.frozen? ⟨p,0,none⟩=false
 f1:W.frozen? ⟨p,1,none⟩=false
 f2:W.frozen? ⟨p,2,none⟩=false
theorem RB.keep{W}(t:RB W p bb N aA)(k:Kept 0 0 W W'):RB W' p bb N aA:=
 ⟨yaj t.sz k.size,jh k t.sz t.q0,jh k t.sz t.q1,jh k t.sz t.q2,by rw[k.frozen t.sz xaa];exact t.f0,by rw[k.frozen t.sz xaa];exact t.f1,by rw[k.frozen t.sz xaa];exact t.f2⟩
theorem fY(w:World):RB (w.alloc fp) w.heap.size (.slice none 0 0) (.slice none 0 0) (.slice none 0 0):=by
 exact xkf
theorem fj(w:World)(g a b c)(aj:w.cell? ⟨g,0,none⟩=some a)(B:w.cell? ⟨g,1,none⟩=some b)(R:w.cell? ⟨g,2,none⟩=some c)(x y z):
  (((w.setCell ⟨g,0,none⟩ x).setCell ⟨g,1,none⟩ y).setCell ⟨g,2,none⟩ z).cell? ⟨g,0,none⟩=some x/\(((w.setCell ⟨g,0,none⟩ x).setCell ⟨g,1,none⟩ y).setCell ⟨g,2,none⟩ z).cell? ⟨g,1,none⟩=some y/\(((w.setCell ⟨g,0,none⟩ x).setCell ⟨g,1,none⟩ y).setCell ⟨g,2,none⟩ z).cell? ⟨g,2,none⟩=some z:=by
 refine⟨?_,?_,?_⟩
 ·rw[eO _ _ _ _ _ _ (.inr xaa),eO _ _ _ _ _ _ (.inr xaa)];exact fJ _ _ _ _ _ aj
 ·rw[eO _ _ _ _ _ _ (.inr xaa)];exact fJ _ _ _ _ _ (by rw[eO _ _ _ _ _ _ (.inr xaa)];exact B)
 exact fJ _ _ _ _ _ (by rw[eO _ _ _ _ _ _ (.inr xaa),eO _ _ _ _ _ _ (.inr xaa)];exact R)
theorem eF(w):Kept 0 0 w w.drew:=⟨rfl,rfl,rfl,yad,λ_ _ _=>rfl⟩
theorem l9{v}{W:World}(h:W.ownsRow base e size v n xs):∃a cap,v=.slice a n cap:=by
 rcases h.2 with⟨e,rfl⟩|⟨g,cap,H,e,_⟩<;>grind
def Apart (u v:Value):Prop:=∀k,u.ownBlock=some k->v.ownBlock≠some k
theorem mP{N aA ae a9 ax aN:Nat}{u v bd}{W:World}(B:W.ownsRow N ae ax u Y xs)(R:W'.ownsRow aA a9 aN v U bd)(hb:W.heap.size<=aA):Apart u v:=λk O aL=>by
 have:=(eI B O).2
 have:=(eI R aL).1
 omega
theorem Fd(w:World)(P I o x y z)(h:I≠P):(((w.setCell ⟨P,0,none⟩ x).setCell ⟨P,1,none⟩ y).setCell ⟨P,2,none⟩ z).cell? ⟨I,o,none⟩=w.cell? ⟨I,o,none⟩:=by
 exact xiq
theorem Fe{W d b xs}(h:W.ownsRow base 3 1 (.slice b n d) n (xs.map (Value.int .i64)))(ah:xs.length=n):n=0\/∃g,b=some ⟨g,0,none⟩/\base<=g/\IBk W g n xs:=by
 rcases h.2 with⟨_,c⟩|⟨g,cap,H,e,N,aA,ab,_,b9,cn⟩
 ·exact .inl c
 injection e with aO aR b2;subst aO;have aW:g<W.heap.size:=by grind
 refine .inr ⟨g,rfl,N,ah,aW,λk O=>?_,λo=>frozen_of_row W g o _ _ aA⟩;rw[cell_of_row W g _ _ _ _ aA,<-Array.getElem?_toList];exact xjy
theorem G0.keepC{W}(t:G0 W p bb N aA)(k:Chg S W W')(aV:¬S p):G0 W' p bb N aA:=by
 have e:∀o,_:=λo=>k.cell (p:=⟨p,o,none⟩) t.sz aV;exact⟨yaj t.sz k.size,hU e t.q0,hU e t.q1,hU e t.q2⟩
theorem OU{op}(aj:0<=op)(B:op<=13):iB op=cnt op:=by
 rcases (by omega:op=0\/op=1\/op=2\/op=3\/op=4\/op=5\/op=6\/op=7\/op=8\/op=9\/op=10\/op=11\/op=12\/op=13) with rfl|rfl|rfl|rfl|rfl|rfl|rfl|rfl|rfl|rfl|rfl|rfl|rfl|rfl<;>decide
theorem wR{i}(h:okV ins vs i=true):0<=(vs.getD i hM).op/\(vs.getD i hM).op<=13:=by
 grind [okV,eR]
theorem IS.at_idx{a xs}(f:IS w lo hi a n xs){o:Int}(aj:0<=o)(B:o<n):∃g off k,a=some ⟨g,off,none⟩/\o=(k:Nat)/\k<n/\g<w.heap.size/\w.cell? ⟨g,off+k,none⟩=some (hI (xs.getD o.toNat 0)):=by
 rcases f.at_ with z|⟨g,off,e,_,_,bz,bE⟩
 ·omega
 exact⟨g,_,_,e,by omega,by omega,bz,bE _ xaa⟩
theorem mQ{o x}(aW:g<w.heap.size)(h:w.cell? ⟨g,o,none⟩=some x)(b1 bS b5):(((w.alloc b1).alloc bS).alloc b5).cell? ⟨g,o,none⟩=some x:=
 jh (((ez 0 0 w b1).trans (ez 0 0 _ bS)).trans (ez 0 0 _ b5)) aW h
theorem CY(w)(op len A I C:Int)(K q g off n cap a x y z)(aq:q<=3)(G:1<=q->a=some ⟨g,off,none⟩/\g<w.heap.size)
  (bl:V (∀w,Calls prog 73 #[hI op] w λe J=>e=.returned (hI (q:Nat))/\J=w))
  (a7:1<=q->∃k:Nat,A=k/\k<n/\w.cell? ⟨g,off+k,none⟩=some (hI x)) (aS:2<=q->∃k:Nat,I=k/\k<n/\w.cell? ⟨g,off+k,none⟩=some (hI y)) (ap:3<=q->∃k:Nat,C=k/\k<n/\w.cell? ⟨g,off+k,none⟩=some (hI z)):
  Calls prog 102 #[ii op len A I C K,.slice a n cap] w λe J=>e=.returned (ii op len (if 0<q then x else A) (if 1<q then y else I) (if 2<q then z else C) K)/\Kept 0 0 w J:=by
 rcases (by omega:q=0\/q=1\/q=2\/q=3) with rfl|rfl|rfl|rfl
 ·clear a7 aS ap G;go_enter func102,ntmps102;go_wp2_with (go_at_call 73;refine(bl.o _).mono ?_;rintro e af ⟨rfl,rfl⟩);refine wp_loop_rounds 1 ?_;rw[rounds_succ];go_wp2;refine yay (v:=ii op len A I C K) (by simp[results,results102,go_sem]) rfl ⟨rfl,?_⟩;first|exact((ez 0 0 w _).trans (ez 0 0 _ _))|exact((ez 0 0 w _).trans (ez 0 0 _ _)).trans (ez 0 0 _ _)
 ·obtain⟨rfl,aW⟩:=G xaa;have bT:w.heap.size≠g:=xaa;have f:w.heap.size+1≠g:=xaa;have i:w.heap.size+1+1≠g:=xaa;obtain⟨an,rfl,bP,ae⟩:=a7 xaa;clear a7 aS ap G;have E1:=mQ aW ae;go_enter func102,ntmps102;go_wp2_with (go_at_call 73;refine(bl.o _).mono ?_;rintro e af ⟨rfl,rfl⟩);refine wp_loop_rounds 2 ?_;rw[rounds_succ];go_wp2;rw[rounds_succ];go_wp2;refine yay (v:=ii op len x I C K) (by simp[results,results102,go_sem]) rfl ⟨rfl,?_⟩;first|exact((ez 0 0 w _).trans (ez 0 0 _ _))|exact((ez 0 0 w _).trans (ez 0 0 _ _)).trans (ez 0 0 _ _)
 ·obtain⟨rfl,aW⟩:=G xaa;have bT:w.heap.size≠g:=xaa;have f:w.heap.size+1≠g:=xaa;have i:w.heap.size+1+1≠g:=xaa;obtain⟨an,rfl,bP,ae⟩:=a7 xaa;obtain⟨ao,rfl,b8,a9⟩:=aS xaa;clear a7 aS ap G;have E1:=mQ aW ae;have E2:=mQ aW a9;go_enter func102,ntmps102;go_wp2_with (go_at_call 73;refine(bl.o _).mono ?_;rintro e af ⟨rfl,rfl⟩);refine wp_loop_rounds 3 ?_;rw[rounds_succ];go_wp2;rw[rounds_succ];go_wp2;rw[rounds_succ];go_wp2;refine yay (v:=ii op len x y C K) (by simp[results,results102,go_sem]) rfl ⟨rfl,?_⟩;first|exact((ez 0 0 w _).trans (ez 0 0 _ _))|exact((ez 0 0 w _).trans (ez 0 0 _ _)).trans (ez 0 0 _ _)
 obtain⟨rfl,aW⟩:=G xaa;have bT:w.heap.size≠g:=xaa;have f:w.heap.size+1≠g:=xaa;have i:w.heap.size+1+1≠g:=xaa;obtain⟨an,rfl,bP,ae⟩:=a7 xaa;obtain⟨ao,rfl,b8,a9⟩:=aS xaa;obtain⟨aM,rfl,cx,ak⟩:=ap xaa;clear a7 aS ap G;have E1:=mQ aW ae;have E2:=mQ aW a9;have E3:=mQ aW ak;go_enter func102,ntmps102;go_wp2_with (go_at_call 73;refine(bl.o _).mono ?_;rintro e af ⟨rfl,rfl⟩);refine wp_loop_rounds 4 ?_;rw[rounds_succ];go_wp2;rw[rounds_succ];go_wp2;rw[rounds_succ];go_wp2;rw[rounds_succ];go_wp2;refine yay (v:=ii op len x y z K) (by simp[results,results102,go_sem]) rfl ⟨rfl,?_⟩;first|exact((ez 0 0 w _).trans (ez 0 0 _ _))|exact((ez 0 0 w _).trans (ez 0 0 _ _)).trans (ez 0 0 _ _)
theorem BM(w v lo hi a n cap tq)(f:IS w lo hi a n tq)(h:∀o∈eW v,0<=o/\o<n):
  Calls prog 102 #[v.agg,.slice a n cap] w λe J=>e=.returned (rnm tq v).agg/\Kept 0 0 w J:=by
 have ai:=gK v.op;have aw:∀o,o∈eW v->∃g off k,a=some ⟨g,off,none⟩/\o=(k:Nat)/\k<n/\g<w.heap.size/\w.cell? ⟨g,off+k,none⟩=some (hI (tq.getD o.toNat 0)):=λo av=>f.at_idx (h o av).1 (h o av).2
 obtain⟨g,off,G⟩:∃g off,1<=cnt v.op->a=some ⟨g,off,none⟩/\g<w.heap.size:=by
  by_cases c:1<=cnt v.op
  ·obtain⟨g,off,k,ae,_,_,e4,_⟩:=aw v.a (gI c);exact⟨g,off,λ_=>⟨ae,e4⟩⟩
  exact⟨0,0,λaP=>absurd aP c⟩
 have Z:∀o,o∈eW v->1<=cnt v.op->∃k:Nat,o=k/\k<n/\w.cell? ⟨g,off+k,none⟩=some (hI (tq.getD o.toNat 0)):=λo av c=>by
  obtain⟨aG,H,k,ae,a9,ak,_,bx⟩:=aw o av
  have:=(G c).1
  rw[this]at ae
  cases ae
  exact⟨k,a9,ak,bx⟩
 exact CY w v.op v.len v.a v.b v.c v.k (cnt v.op) g off n cap a (tq.getD v.a.toNat 0) (tq.getD v.b.toNat 0) (tq.getD v.c.toNat 0) ai G (λw=>qj v.op w) (λc=>Z _ (gI c) c) (λc=>Z _ (jm c) xaa) (λc=>Z _ (lR c) xaa)
theorem LB(op)(aj:0<=op)(B:op<=13)(w):Calls prog 37 #[hI op] w λe J=>e=.returned (hI (cnt op:Nat))/\w=J:=by
 have:=fd _ w aj B;rw[OU aj B]at this;exact this.mono λ_ _ h=>⟨h.1,h.2.symm⟩
theorem cI.qcr(h:Zp:=by
 rw[k.block g aW (aV g (hX ae))];exact aA):Zp:=h
open cI in
theorem fN{v W}(o:W.ownsRow base e size v n xs)(k:Chg S W W')(aV:∀g,v.ownBlock=some g->¬S g):W'.ownsRow base e size v n xs:=by
 exact qcq
theorem i7(h:w.grownBy J aC):Chg (λb=>aC=some b) w J:=
 ⟨h.os,h.tape,h.output,h.size,λk O hn=>h.block k O (λc=>hn c.symm)⟩
theorem tu(a b):fe (a++b)=fe a+fe b:=by
 induction a with
 |nil=>simp[fe]
 |cons y bd ag=>simp[fe,ag];omega
abbrev eL (op n p q r:Int):Vl:=⟨op,n,p,q,r,0⟩
def yJ (n p q:Int)(N:Nat):List Vl×Int:=if p=-1 then ([],q)else if q=-1 then ([],p)else ([eL 2 n p q 0],N)
def yK (n p q:Int)(N:Nat):List Vl×Int:=if q=-1 then ([],p)else if p=-1 then ([eL 6 n q 0 0],N)else ([eL 3 n p q 0],N)
def chM (n d p q:Int)(N:Nat):List Vl×Int:=
 if p=-1 then (if q=-1 then ([eL 1 n 0 0 0,eL 1 n 0 0 0,eL 8 n d N ((N+1:Nat):Int)],((N+2:Nat):Int))else ([eL 1 n 0 0 0,eL 8 n d N q],((N+1:Nat):Int)))
 else (if q=-1 then ([eL 1 n 0 0 0,eL 8 n d p N],((N+1:Nat):Int))else ([eL 8 n d p q],(N:Int)))
def yL (v:Vl)(ta tb:Int)(N:Nat):List Vl×Int:=
 if ta=-1 then (if tb=-1 then ([],-1)else ([eL 4 v.len v.a tb 0],(N:Int)))
 else (if tb=-1 then ([eL 4 v.len ta v.b 0],(N:Int))else ([eL 4 v.len ta v.b 0,eL 4 v.len v.a tb 0,eL 2 v.len N ((N+1:Nat):Int) 0],((N+2:Nat):Int)))
def yM (i:Int)(v:Vl)(ta tb:Int)(N:Nat):List Vl×Int:=
 if ta=-1 then (if tb=-1 then ([],-1)else ([eL 4 v.len i tb 0,eL 5 v.len N v.b 0,eL 6 v.len ((N+1:Nat):Int) 0 0],((N+2:Nat):Int)))
 else (if tb=-1 then ([eL 5 v.len ta v.b 0],(N:Int))else ([eL 5 v.len ta v.b 0,eL 4 v.len i tb 0,eL 5 v.len ((N+1:Nat):Int) v.b 0,eL 3 v.len N ((N+2:Nat):Int) 0],((N+3:Nat):Int)))
def BR (w:World)(g:Nat)(xs:List Bool):Prop:=w.heap[g]? =some (.cells (xs.map Value.bool).toArray 4 (0,0))
theorem BR.lt{xs}(h:BR w g xs):g<w.heap.size:=by
 grind [BR]
theorem BR.cell{xs}(h:BR w g xs)(k)(O:k<xs.length):w.cell? ⟨g,k,none⟩=some (.bool (xs.getD k false)):=by
 rw[cell_of_row w g k _ _ _ h];grind
theorem BR.free{xs}(h:BR w g xs)(k):w.frozen? ⟨g,k,none⟩=false:=frozen_of_row w g k _ _ h
theorem BR.keep{xs}(f:BR w g xs)(k:Kept l h w J)(aV:g<l\/h<=g\/h<=l):BR J g xs:=by
 unfold BR;rw[k.block g f.lt xaa];exact f
theorem BR.keepC{xs}(f:BR w g xs)(k:Chg S w J)(aV:¬S g):BR J g xs:=by
 unfold BR;rw[k.block g f.lt aV];exact f
theorem BR.set{xs}(h:BR w g xs)(k x):BR (w.setCell ⟨g,k,none⟩ (.bool x)) g (xs.set k x):=by
 unfold BR at h⊢;exact qdc
theorem BR.made(w:World)(n):BR (w.alloc (.cells (madeCells #[.bool false] n) 4)) w.heap.size (List.replicate n false):=by
 unfold BR;rw[heap_alloc_new]
 have:(madeCells #[.bool false] n)=(List.map Value.bool (List.replicate n false)).toArray:=by
  apply Array.toList_inj.1;rw[toList_madeCells_one];simp
 rw[this]
theorem OV:(prog.info? 4).map (λi=>(i.zero,i.size,i.bytes))=some (some (.bool false),1,1):=by kernel_rfl
theorem Ff(n:Nat)(w)(hn:n<=1099511627776):
  (Instr.makeSlice 130 (hI n) (hI n)).run prog w=.ok (hH w.heap.size n n) (w.alloc (.cells (madeCells #[.bool false] n) 4)):=by
 obtain⟨i,hi,bU,bO,bR⟩:=info_parts OV;have:=run_make w 130 4 i _ underlying130 hi bU .i64 .i64 n n xaa xaa (by grind) xaa;exact qcn
theorem IR.keepC{xs}(f:IR w g xs)(k:Chg S w J)(aV:¬S g):IR J g xs:=by
 unfold IR;rw[k.block g f.lt aV];exact f
theorem VA.keepC(q:VA w g n vs)(k:Chg S w J)(aV:¬S g):VA J g n vs:=
 ⟨q.len,yaj q.lt k.size,λj hj=>by
  have e:∀o,_:=λo=>k.cell (p:=⟨g,o,none⟩) q.lt aV
  obtain⟨c0,c1,c2,c3,c4,c5⟩:=q.at_ j hj
  exact⟨by grind,by grind,by grind,by grind,by grind,by grind⟩,λo=>by rw[k.frozen q.lt aV];exact q.free o⟩
theorem IBk.keepC{xs}(q:IBk w g n xs)(k:Chg S w J)(aV:¬S g):IBk J g n xs:=
 ⟨q.len,yaj q.lt k.size,λj hj=>by rw[k.cell q.lt aV];exact q.at_ j hj,λo=>by rw[k.frozen q.lt aV];exact q.free o⟩
theorem Chg.mono(h:Chg S w J)(ad:∀b,b<w.heap.size->S b->T b):Chg T w J:=
 ⟨h.os,h.tape,h.output,h.size,λk O hn=>h.block k O λc=>hn (ad k O c)⟩
theorem Chg.trans(h:Chg S a b)(k:Chg S b c):Chg S a c:=Chg.andThen h k
theorem Chg.new(h:Chg S a b)(k:Chg T b c)(bi:∀i,i<a.heap.size->T i->S i):Chg S a c:=
 ⟨k.os.trans h.os,k.tape.trans h.tape,k.output.trans h.output,yan h.size k.size,λi hi hn=>(k.block i (yaj hi h.size) (λc=>hn (bi i hi c))).trans (h.block i hi hn)⟩
theorem od(w g o v)(h:S g):Chg S w (w.setCell ⟨g,o,none⟩ v):=
 (eX (lo:=g) (hi:=g+1) w ⟨g,o,none⟩ v yac).chg1 h
structure PG (w:World)(g1 g2 g3 n1 n2 n3:Nat)(ins:List Int)(vs:List Vl)(outs:List Int):Prop where
 i:IBk w g1 n1 ins
 v:VA w g2 n2 vs
 o:IBk w g3 n3 outs
 d12:g1≠g2
 d13:g1≠g3
 d23:g2≠g3
theorem PG.keep{br ag aD Z outs}(f:PG w br ag aD Y U Z ins vs outs)(k:Kept 0 0 w J):PG J br ag aD Y U Z ins vs outs:=
 ⟨f.i.keep k yaa,f.v.keep k yaa,f.o.keep k yaa,f.d12,f.d13,f.d23⟩
theorem wS{tq f v}(h:∀o∈eW v,0<=o/\o<tq.length):rnm (tq++f) v=rnm tq v:=by
 have aw:∀o,o∈eW v->(tq++f).getD o.toNat 0=tq.getD _ 0:=λo av=>by
  exact xil
 unfold rnm;have ai:=gK v.op;congr 1
 ·split
  ·exact aw _ (gI xaa)
  rfl
 ·split
  ·exact aw _ (jm xaa)
  rfl
 split
 ·exact aw _ (lR xaa)
 rfl
theorem BN{ad:Type}(xs bd)(y z:ad):(xs++y::bd).set xs.length z=xs++z::bd:=by
 rw[List.set_append_right _ _ yad,Nat.sub_self];rfl
theorem uU{i}(h:i<vs.length):vs.drop i=vs.getD i hM::vs.drop (i+1):=by
 rw[List.drop_eq_getElem_cons h,yah,yal h];rfl
theorem AH{W gk ay}(h:W.ownsRow base 53 6 (hH gk n cap) n (fQ ay))(ah:ay.length=n):VA W gk n ay/\base<=gk:=by
 rcases Nat.eq_zero_or_pos n with aj|aj
 ·subst aj;rcases h.2 with⟨e,_⟩|⟨g,c,H,e,N,aA,ab⟩
  ·cases e
  cases e
  have aF:gk<W.heap.size:=by
   rcases Nat.lt_or_ge gk W.heap.size with c|c
   ·exact c
   rw[Array.getElem?_eq_none c]at aA;cases aA
  exact⟨⟨ah,aF,λk O=>by omega,λo=>frozen_of_row W gk o _ _ aA⟩,N⟩
 obtain⟨g,c,e,B,_,_,a7⟩:=ng h aj ah;cases e;exact⟨a7,B⟩
theorem BO{W G xs}(h:OI W base G n cap xs)(ah:xs.length=n):IBk W G n xs:=by
 rcases Nat.eq_zero_or_pos n with aj|aj
 ·subst aj;rcases h.2 with⟨e,_⟩|⟨g,c,H,e,N,aA,ab⟩
  ·cases e
  cases e
  have aF:G<W.heap.size:=by
   rcases Nat.lt_or_ge G W.heap.size with c|c
   ·exact c
   rw[Array.getElem?_eq_none c]at aA;cases aA
  exact⟨ah,aF,λk O=>by omega,λo=>frozen_of_row W G o _ _ aA⟩
 rcases Fe h ah with B|⟨g,e,_,B⟩
 ·omega
 cases e;exact B
