import Derived.Test.YtbhmhdllnfkjhaaGreatP43
import Derived.Test.YtbhmhdllnfkjhaaGreatP37
import Derived.Test.YtbhmhdllnfkjhaaGreatP24
import Derived.Test.YtbhmhdllnfkjhaaGreatP21
namespace Go.Proofs.Z
variable{Zp:Prop}
open Tryz Go.RowKit Flt
set_option maxRecDepth 1000000
set_option maxHeartbeats 0
section
attribute[local go_sem] eG eE eD
variable{l:List (List UInt8)}{p:ByteArray}{L c cw m P n cap:Nat}{w:World}{a:Option Addr}
def flE(env:List (List UInt8×Int)):List Value:=env.flatMap λx=>[.string ⟨x.1.toArray⟩,.int .i64 x.2]
def nmL:List (List UInt8):=[[97],[98,50],[99,95],[100],[101],[103],[104]]
theorem Ls(a b):flE (a++b)=flE a++flE b:=by simp[flE]
theorem Bz(a):∀k,k<a.length->(flE a)[k*2]? =some (eN (a.getD k ([],0)).1)/\(flE a)[k*2+1]? =some (hD (a.getD k ([],0)).2):=by
 induction a with
 |nil=>intro k N;cases N
 |cons x r aa=>
  intro k N;cases k with
  |zero=>exact⟨rfl,rfl⟩
  |succ k=>
   have h:=aa k (Nat.lt_of_succ_lt_succ N);have e:flE (x::r)=[.string ⟨x.1.toArray⟩,hD x.2]++flE r:=rfl;rw[e,show(k+1)*2=2+k*2 by omega,yas xac,yas yag];simpa[show 2+k*2+1-2=k*2+1 by omega] using h
theorem PB:(prog.info? 103).map (λi=>(i.zero,i.size,i.bytes))=some (some (.agg #[.string ⟨#[]⟩,hD 0]),2,24):=by kernel_rfl
theorem mD(w){br rest o a Q}(X:o.guard=none)(s x)
  (al:o.op=.call {callee:=.builtin .append,args:=#[s,x],argTypes:=#[101,101]})
  (R) (u) (env) (ar:a.eval s=u) (aZ:w.ownsRow R 103 2 u env.length (flE env))
  (b) (v) (ak:a.eval x=hC b 1 1) (ae:w.cell? ⟨b,0,none⟩=some (.string ⟨v.1.toArray⟩)) (B:w.cell? ⟨b,1,none⟩=some (hD v.2))
  (C:env.length+1<=1000) (T:R<=w.heap.size)
  (h:∀g cap n I,n=(env++[v]).length->I.ownsRow R 103 2 (hC g n cap) n (flE (env++[v]))->Chg (λb=>u.ownBlock=some b) w I->(u.ownBlock=some g\/g=w.heap.size)->wpList prog br Q rest (a.put o.dst (hC g n cap)) I):wpList prog br Q (o::rest) a w:=by
 obtain⟨b3,hi,a6,b8,b5⟩:=info_parts PB;refine wpList_append_lies w X s x 101 al R 103 b3 _ 2 24 underlying101 hi a6 b8 b5 rfl xab u env.length _ ar aZ ⟨b,0,none⟩ 1 1 [.string ⟨v.1.toArray⟩,hD v.2] ak rfl ?_ ?_ xab (by unfold maxLen;omega) xaa T _ rfl ?_
 ·intro j u aH;match j,aH with
  |0,aH=>cases aH;exact ae
  |1,aH=>cases aH;exact B
 ·intro u aH;simp at aH;rcases aH with rfl|rfl<;>rfl
 intro g cap I B J h3 _;have e:env.length+1=(env++[v]).length:=by rw[yal];rfl
 rw[e]at B⊢;refine h g cap _ I rfl ?_ (ii J) h3;rw[Ls];exact B
structure Sw(w:World)(P n cap T:Nat)(a:Option Addr)(bs:List Int)(i:Nat)(env:List (List UInt8×Int))(u:Value)(W:World):Prop where
 rd:RdF W P a n cap i bs
 own:W.ownsRow w.heap.size 103 2 u env.length (flE env)
 tb:∀m,m<7->W.cell? ⟨T,m,none⟩=some (.string ⟨(nmL.getD m []).toArray⟩)
 tl:T<W.heap.size
 wl:w.heap.size<=T
 p0:P<w.heap.size
 nt:u.ownBlock≠some T
 kp:Kept P (P+1) w W
variable{w W W':World}{P n cap bl i j:Nat}{a:Option Addr}{bs:List Int}{env:List (List UInt8×Int)}{u:Value}
theorem Sw.step(h:Sw w P n cap bl a bs i env u W)(r:RdF W' P a n cap j bs)(k:Kept P (P+1) W W'):Sw w P n cap bl a bs j env u W':=
 have aK:=h.p0
 have an:=h.wl
 ⟨r,fX h.own k λ_ e=>.inr (hM ((eH h.own e).1)),λm aq=>(k.cell (p:=⟨bl,m,none⟩) h.tl (by show ¬(P<=bl/\bl<P+1);omega)).trans (h.tb m aq),yak h.tl k.size,an,aK,h.nt,h.kp.trans k⟩
theorem Sw.keep0(h:Sw w P n cap bl a bs i env u W)(k:Kept 0 0 W W'):Sw w P n cap bl a bs i env u W':=h.step (h.rd.keep0 k) (fh k)
theorem Sw.next(h:V (Sw w P n cap bl a bs i env u W)):Calls prog 33 #[hB P] W λe W'=>e=.returned (hD (nv bs i:Int))/\Sw w P n cap bl a bs (ni bs i) env u W':=
 (jh W P a n cap i bs h.o.rd).mono λ_ _ ⟨e,r,k,_⟩=>⟨e,h.o.step r k⟩
theorem Sw.form(h:Sw w P n cap bl a bs i env u W):∃aE cE,u=.slice aE env.length cE:=by
 rcases h.own.2 with⟨e,bc⟩|⟨g,c,_,e,_⟩
 ·exact⟨none,0,by rw[e,bc]⟩
 exact⟨_,c,e⟩
theorem Sw.call{aE nE cE f m xs s}(h:V (Sw w P n cap bl a bs i env (.slice aE nE cE) W))(ab:nE<=100)(G:Dr env bs i f xs m s j):
  Calls prog f (xs ⟨W,P,n,cap,nE,cE,a,aE⟩) W λe W'=>e=.returned (.string s)/\Sw w P n cap bl a bs j env (.slice aE nE cE) W'/\Kept P (P+1) W W':=by
 have hn:=jP h.o.own;subst hn;refine(G.2 ⟨W,P,n,cap,env.length,cE,a,aE⟩ W ⟨h.o.rd,⟨rfl,ab,λk N=>?_⟩,Kept.refl _ _ _⟩).mono λ_ _ ⟨e,ar⟩=>⟨e,h.o.step ar.rd ar.kp,ar.kp⟩
 replace N:k<env.length:=N;obtain⟨g,c,e,B,J⟩:=h.o.own.form xaa;injection e with e1;have q:=λm v z=>h.o.own.cells (g:=g) (by rw[e1];rfl) m v z;simp only[jX,Nat.zero_add]at q;have aK:=h.o.p0;exact⟨g,e1,by show P<g;omega,J,q _ _ (Bz env k N).1,q _ _ (Bz env k N).2⟩
theorem Sw.last{es v}(h:Sw w P n cap bl a bs i env u W)(Q:env=es++[v]):∃g cE,u=hC g env.length cE/\W.cell? ⟨g,es.length*2,none⟩=some (.string ⟨v.1.toArray⟩)/\W.cell? ⟨g,es.length*2+1,none⟩=some (hD v.2):=by
 have ab:env.length=es.length+1:=by rw[Q,yal];rfl
 obtain⟨g,c,e,_,_⟩:=h.own.form xaa;have q:=λm v z=>h.own.cells (g:=g) (hS e) m v z;simp only[jX,Nat.zero_add]at q;have z:=Bz env es.length xaa;have e2:env.getD es.length ([],0)=v:=by simp[Q,List.getD_eq_getElem?_getD]
 rw[e2]at z;exact⟨g,c,e,q _ _ z.1,q _ _ z.2⟩
theorem Sw.app(h:Sw w P n cap bl a bs i env u W)(v){g}(aq:m=(env++[v]).length)(o:W'.ownsRow w.heap.size 103 2 (hC g m c) m (flE (env++[v])))(k:Chg (λb=>u.ownBlock=some b) W W')(aR:u.ownBlock=some g\/g=W.heap.size):Sw w P n cap bl a bs i (env++[v]) (hC g m c) W':=by
 have aK:=h.p0;subst aq;have ai:Kept w.heap.size W.heap.size W W':=⟨k.os,k.tape,k.output,k.size,λb hb hn=>k.block b hb λe=>hn (eH h.own e)⟩
 refine⟨h.rd.keep ai (.inl aK),o,λm aq=>(k.cell (p:=⟨bl,m,none⟩) h.tl h.nt).trans (h.tb m aq),yak h.tl k.size,h.wl,aK,?_,h.kp.new ai yad⟩;rcases aR with e|e
 ·show some g≠some bl;rw[<-e];exact h.nt
 have:=h.tl;simp only[Value.ownBlock];intro c;injection c;omega
variable{bs:List Int}
theorem Ol{Y:Type}{G:Nat->Y->Prop}{U:Nat->Y->Y->Prop}(h:∀k a,G k a->∃b,G (k+1) b/\U k a b){bV}(ae:G 0 bV):∃f:Nat->Y,f 0=bV/\∀k,G k (f k)/\U k (f k) (f (k+1)):=by
 let F:(k:Nat)->{a//G k a}:=λk=>Nat.rec ⟨_,ae⟩ (λk x=>⟨_,(Classical.choose_spec (h k _ x.2)).1⟩) k
 exact⟨_,rfl,λk=>⟨(F k).2,(Classical.choose_spec (h k _ (F k).2)).2⟩⟩
structure Ss where
 e:List (List UInt8×Int)
 o:ByteArray
 i:Nat
def Gs(L Z:Nat)(s:Ss):Prop:=s.e.length=L/\(∀x∈s.e,x.1.length<=5)/\s.o.size<=Z
def nmB(k:Nat):List UInt8:=nmL.getD k []
theorem yi(k):(nmB k).length<=5:=by
 match k with
 |0|1|2|3|4|5|6=>decide
 |k+7=>exact yae
theorem nv3(i):1<=1+(nv bs i:Int)%3/\1+(nv bs i:Int)%3<=3:=xaa
theorem Gs.put{L cw z s}(h:Gs L cw s)(k q x j)(ak:x.size<=z):Gs (L+1) (cw+z) ⟨s.e++[(nmB k,q)],s.o++x,j⟩:=
 ⟨by rw[yal,h.1];rfl,λy bX=>by
  rcases List.mem_append.1 bX with c|c
  ·exact h.2.1 y c
  ·rw[List.mem_singleton.1 c];exact yi k,by have:=h.2.2;rw[yar];omega⟩
def ex3(q:Int)(d:Int):Xd->Array Value:=λX=>#[.slice X.aE X.nE X.cE,.int .i64 q,.int .i64 d,.pointer (some ⟨X.P,0,none⟩)]
def inX(bs:List Int)(gap:ByteArray)(k:Nat)(s:Ss):ByteArray:=⟨#[105,110,32]⟩++⟨(nmB k).toArray⟩++⟨#[32,58,32]⟩++⟨(gZ (1+nv bs s.i%3)).toArray⟩++⟨#[59]⟩++gap
def R1(bs:List Int)(gap:ByteArray)(k:Nat)(s s':Ss):Prop:=s'=⟨s.e++[(nmB k,1+(nv bs s.i:Int)%3)],s.o++inX bs gap k s,ni bs s.i⟩
def R2(bs:List Int)(gap:ByteArray)(n k:Nat)(s s':Ss):Prop:=∃x j,Dr s.e bs (ni bs s.i) 72 (ex3 (1+(nv bs s.i:Int)%3) 3) 64000 x j/\s'=⟨s.e++[(nmB (n+k),1+(nv bs s.i:Int)%3)],s.o++(⟨#[108,101,116,32]⟩++⟨(nmB (n+k)).toArray⟩++⟨#[32,61,32]⟩++x++⟨#[59]⟩++gap),j⟩
def R3(bs:List Int)(gap:ByteArray)(_:Nat)(s s':Ss):Prop:=∃x j,Dr s.e bs (ni bs s.i) 72 (ex3 (1+(nv bs s.i:Int)%3) 4) 256000 x j/\s'=⟨s.e,s.o++(⟨#[111,117,116,32]⟩++x++⟨#[59]⟩++gap),j⟩
theorem Qc(aR:p.size<=8){s}(h:Gs L cw s):∃f:Nat->Ss,f 0=s/\∀k,Gs (L+k) (cw+k*100) (f k)/\R1 bs p k (f k) (f (k+1)):=
 Ol (G:=λk=>Gs (L+k) (cw+k*100)) (λk a bv=>by
  have:=(bv.put k (1+(nv bs a.i:Int)%3) (inX bs p k a) (ni bs a.i) (z:=100) (by
   have:=yi k
   have:=jO (1+nv bs a.i%3)
   simp only[inX,yar,gi,yaq,List.length_nil]
   omega))
  rw[show L+k+1=L+(k+1) by omega,show cw+k*100+100=cw+(k+1)*100 by omega]at this
  exact⟨_,this,rfl⟩) h
theorem Qd(hb:∀i,nv bs i<256)(aR:p.size<=8){s}(n)(h:Gs L cw s):∃f:Nat->Ss,f 0=s/\∀k,Gs (L+k) (cw+k*64100) (f k)/\R2 bs p n k (f k) (f (k+1)):=
 Ol (G:=λk=>Gs (L+k) (cw+k*64100)) (λk a bv=>by
  obtain⟨x,j,G⟩:=In bv.2.1 hb 3 xab _ (nv3 (bs:=bs) a.i) (ni bs a.i)
  have ak:=G.1
  have:=(bv.put (n+k) (1+(nv bs a.i:Int)%3) (⟨#[108,101,116,32]⟩++⟨(nmB (n+k)).toArray⟩++⟨#[32,61,32]⟩++x++⟨#[59]⟩++p) j (z:=64100) (by
   have:=yi (n+k)
   simp only[yar,gi,yaq,List.length_nil]
   omega))
  rw[show L+k+1=L+(k+1) by omega,show cw+k*64100+64100=cw+(k+1)*64100 by omega]at this
  exact⟨_,this,x,j,G,rfl⟩) h
theorem Qe(hb:∀i,nv bs i<256)(aR:p.size<=8){s}(h:Gs L cw s):∃f:Nat->Ss,f 0=s/\∀k,Gs L (cw+k*256100) (f k)/\R3 bs p k (f k) (f (k+1)):=
 Ol (G:=λk=>Gs L (cw+k*256100)) (λk a bv=>by
  obtain⟨x,j,G⟩:=In bv.2.1 hb 4 xab _ (nv3 (bs:=bs) a.i) (ni bs a.i)
  have ak:=G.1
  exact⟨⟨_,_,j⟩,⟨bv.1,bv.2.1,by
   have:=bv.2.2
   simp only[yar,gi,yaq,List.length_nil]
   omega⟩,x,j,G,rfl⟩) h
variable{bs:List Int}
def pL(l:List (List UInt8)):Array Value:=(l.map λx=>Value.string ⟨x.toArray⟩).toArray
def gapL:List (List UInt8):=[[32],[10],[32,32,35,32,61,32,59,10]]
def bodL:List (List UInt8):=[[112,42,112,32,43,32,49],[101,120,112,40,45,112,41],[112,32,47,32,40,49,32,43,32,112,42,112,41],[109,97,120,40,112,44,32,45,112,41],[103,114,97,100,40,115,117,109,40,112,42,112,42,112,41,44,32,112,41]]
theorem r6{W r}(k:Kept P (P+1) (w.alloc (.cells (pL l) r)) W)(aK:P<w.heap.size)(aq:m<l.length):W.cell? ⟨w.heap.size,m,none⟩=some (.string ⟨(l.getD m []).toArray⟩):=by
 rw[k.cell (p:=⟨w.heap.size,m,none⟩) xac (by show ¬(P<=w.heap.size/\w.heap.size<P+1);omega),yav];simp[pL,List.getD_eq_getElem?_getD,List.getElem?_eq_getElem aq]
theorem IM{z}(h:∀x∈l,x.length<=z)(m):(⟨(l.getD m []).toArray⟩:ByteArray).size<=z:=by
 rw[gi,yai];cases e:l[m]? with
 |none=>exact yae
 |some x=>exact h x (List.mem_of_getElem? e)
def SrO(w:World)(P n cap:Nat)(a:Option Addr)(bs:List Int)(j:Nat)(t:List UInt8)(e:Ending)(w':World):Prop:=∃g c,e=.returned (.slice (some ⟨g,0,none⟩) t.length c)/\t.length<=c/\YS w' (some ⟨g,0,none⟩) t.length (io t)/\RdF w' P a n cap j bs/\Kept P (P+1) w w'
theorem Sw.start{W i env u}(an:RdF W P a n cap i bs)(own:W.ownsRow w.heap.size 103 2 u env.length (flE env))(K:Kept P (P+1) w W)(a8:P<w.heap.size):V (Sw w P n cap W.heap.size a bs i env u (W.alloc (.cells (pL nmL) 9))):=
 have k:=ez 0 0 W (.cells (pL nmL) 9)
 ⟨an.keep0 k,eR own k,λ_ aq=>r6 (l:=nmL) (Kept.refl P _ _) (yak a8 K.size) aq,by simp,K.size,a8,λe=>hM ((eH own e).2),K.trans (fh k)⟩
def rpX(gap:ByteArray)(c:Nat)(nl:List UInt8)(x:ByteArray):ByteArray:=⟨#[114,101,112,101,97,116,32]⟩++⟨(gZ (c/5%4)).toArray⟩++⟨#[32]⟩++⟨nl.toArray⟩++⟨#[32,61,32]⟩++x++⟨#[59]⟩++gap
def hd0(body gap:ByteArray):ByteArray:=⟨#[]⟩++(⟨#[100,101,102,32,102,40,112,41,32,61,32]⟩++body++⟨#[59]⟩++gap)
theorem ER(W)(bF:List UInt8):(convert 9 22 (.string ⟨bF.toArray⟩)).run prog W=.ok (hC W.heap.size bF.length (grownCap W bF.length 0 5)) (Lib.bytesWorld W 5 ⟨bF.toArray⟩):=
 Lib.run_convert_string_bytes (P:=prog) W 9 22 5 ⟨bF.toArray⟩ underlying9 underlying22 underlying5
theorem WkM{P:Prop}(h:P:=by
  try dsimp only at e4
  go_upto_region 31 with (go_at_call 33;refine yaj (Sw.next au) ?_;rintro e a7 ⟨rfl,aZ⟩;clear au;have au:V _:=aZ;clear aZ);go_wp2_with fail;go_loopw [6,19] (λo t W=>∃k:Nat,k<=m3/\t=hD k/\o=.string (f3 k).o/\V (Sw w P n cap bl a bs (f3 k).i (f3 k).e (.slice aE (f2 mm).e.length cE) W)) (λ_ t _=>m3-(intOf t).toNat)
  case atStart=>
   have e1:=H3.o.1;exact⟨0,yae,rfl,by rw[e1],by rw[e1];exact au.o⟩
  case round=>
   obtain⟨k,N,rfl,rfl,aZ⟩:=hrel;clear au;by_cases aC:k<m3
   ·have bv:=(H3.o.2 k).1;have v:=(H3.o.2 (k+1)).1;obtain⟨x,r,a5,av⟩:=(H3.o.2 k).2
    have z:((f3 k).o++(⟨#[111,117,116,32]⟩++x++⟨#[59]⟩++p)).size<=1000000:=by
     exact xgn
    have aN:(⟨#[111,117,116,32]⟩++x++⟨#[59]⟩++p:ByteArray).size<=1000000:=by rw[yar]at z;omega
    have bZ:V _:=av;have f:V _:=aZ.o;clear bv v av aZ;generalize f3 k=s at*;have ak:=hb s.i;repeat (rw[yar]at z;refine sz2 z ?_;clear z;intro _ z)
    repeat (rw[yar]at aN;refine sz2 aN ?_;clear aN;intro _ aN)
    go_wp2_with (first
     |(go_at_call 33;refine yaj (Sw.next f) ?_;rintro e bi ⟨rfl,aZ⟩;clear f;have f:V _:=aZ;clear aZ)
     |(go_at_call 72;have bT:=Sw.call f HL.o a5;simp only[ex3]at bT;(with_reducible refine yaj bT ?_);clear bT;rintro e ag ⟨rfl,aZ,-⟩;clear f;have f:V _:=aZ;clear aZ))
    go_roundw
    case rel=>
     refine⟨k+1,by omega,by go_num,?_,?_⟩
     ·rw[bZ.o]
     rw[bZ.o];exact f.o
    case measure=>simp[intOf];omega
   have b2:k=m3:=xaa;have au:V _:=aZ.o;clear aZ N aC;rw[b2]at au⊢;clear b2 k;subst hj;have K:¬((m3:Int)<m3):=xaa;have I:=ER wr t;have bO:V _:=qZ wr 5 t;have R:V _:=m8 wr 5 ⟨t.toArray⟩;generalize Lib.bytesWorld wr 5 ⟨t.toArray⟩=br at I bO R;have g:V _:=grownCap_ge wr t.length 0 5;generalize grownCap wr t.length 0 5=bK at I g;rcases ht.o with⟨a0,aS⟩|⟨a0,aS⟩
   ·rw[aS]at I;have b3:¬(4000<((f3 m3).o.size:Int)):=xaa;clear aS;go_wp2;go_ret;exact⟨_,bK,rfl,g.o,bO.o,au.o.rd.keep0 R.o,au.o.kp.trans (fh R.o)⟩
   rw[aS]at I;have b3:4000<((f3 m3).o.size:Int):=xaa;clear aS;go_wp2;go_ret;exact⟨_,bK,rfl,g.o,bO.o,au.o.rd.keep0 R.o,au.o.kp.trans (fh R.o)⟩):P:=h
theorem WkL{P:Prop}(h:P:=by
  have bu:V _:=jh _ _ _ _ _ _ _ HR.o;go_upto_region 11 with (go_at_call 33;refine yaj bu.o ?_;rintro e a7 ⟨rfl,C,cc,-⟩;have au:V _:=Sw.start C (fX HO.o cc λ_ e=>.inr (hM ((eH HO.o e).1))) (HK.o.trans cc) hP;clear C cc);clear bu HO HR HK;go_upto_region 12 with fail;change Code.wp _ _ _ _ (a7.alloc (.cells (pL nmL) 9));generalize a7.alloc (.cells (pL nmL) 9)=cj at*;generalize a7.heap.size=bl at*;go_wp2_with fail;go_loopw [5,6,11] (λu o t W=>∃k:Nat,k<=nn/\t=hD k/\o=.string (f1 k).o/\V (Sw w P n cap bl a bs (f1 k).i (f1 k).e u W)) (λ_ _ t _=>nn-(intOf t).toNat)
  case atStart=>
   have e:=HE.o;have e1:=H1.o.1;subst e;exact⟨0,yae,rfl,by rw[e1],by rw[e1];exact au.o⟩
  case round=>
   obtain⟨k,N,rfl,rfl,aZ⟩:=hrel;clear au HE;by_cases aC:k<nn
   ·have bv:=(H1.o.2 k).1;have v:=(H1.o.2 (k+1)).1;have av:=(H1.o.2 k).2
    have z:((f1 k).o++inX bs p k (f1 k)).size<=1000000:=by
     exact xgn
    have aN:(inX bs p k (f1 k)).size<=1000000:=by rw[yar]at z;omega
    have aX:V _:=bv;have bZ:V _:=av;have f:V _:=aZ.o;clear bv v av aZ;unfold R1 inX at bZ;unfold inX at z aN;generalize f1 k=s at*;have ak:=hb s.i
    have HD:V (∀W:World,Calls prog 71 #[hD (1+(nv bs s.i:Int)%3)] W λe I=>e=.returned (eN (gZ (1+nv bs s.i%3)))/\I=W):=λW=>by
     rw[show(1:Int)+(nv bs s.i:Int)%3=((1+nv bs s.i%3:Nat):Int) by omega]
     exact y9 _ _ yad xaa W
    unfold eN at HD;generalize (⟨(gZ (1+nv bs s.i%3)).toArray⟩:ByteArray)=J at HD bZ z aN;go_upto_region 16 with (go_at_call 33;refine yaj (Sw.next f) ?_;rintro e bi ⟨rfl,aZ⟩;clear f;have f:V _:=aZ;have am:=aZ.tb k xaa;clear aZ);change bi.cell? ⟨bl,k,none⟩=some (.string ⟨(nmB k).toArray⟩)at am;generalize O:(⟨(nmB k).toArray⟩:ByteArray)=y at am bZ z aN;repeat (rw[yar]at z;refine sz2 z ?_;clear z;intro _ z)
    repeat (rw[yar]at aN;refine sz2 aN ?_;clear aN;intro _ aN)
    have aS:(k:Int)<7:=xaa;go_quiet ((go_at_call 71;exact Calls.quiet_of_same (HD.o _)))
    have bo:V (∀(m:Nat) (o:Obj),Sw w P n cap bl a bs (ni bs s.i) s.e u5 ((bi.alloc o).drewN m)):=λm o=>(f.o.keep0 (ez 0 0 _ o)).keep0 (eK 0 0 _ m);have bc:V (∀m,((bi.alloc (.cells #[.string y,hD (1+(nv bs s.i:Int)%3)] 103)).drewN m).cell? ⟨bi.heap.size,0,none⟩=some (.string ⟨(nmB k).toArray⟩)/\((bi.alloc (.cells #[.string y,hD (1+(nv bs s.i:Int)%3)] 103)).drewN m).cell? ⟨bi.heap.size,1,none⟩=some (hD (1+(nv bs s.i:Int)%3))):=λm=>by rw[O];exact⟨by simp,by simp⟩
    have HL:V (s.e.length+1<=1000):=by have:=aX.o.1;show _<=_;omega
    go_wp2_with (at_builtin;refine mD _ rfl _ _ rfl w.heap.size u5 s.e rfl (bo.o _ _).own bi.heap.size (nmB k,1+(nv bs s.i:Int)%3) rfl (bc.o _).1 (bc.o _).2 HL.o (yao f.o.wl (Nat.le_of_lt (bo.o _ _).tl)) ?_;intro g9 X n9 bg bJ G F cd;have H:V _:=(bo.o _ _).app _ bJ G F cd;clear bJ G F cd);exact xgd
   have b2:k=nn:=xaa;have au:V _:=aZ.o;clear aZ N aC;rw[b2]at au⊢;clear b2 k;go_upto_region 19 with (go_at_call 33;refine yaj (Sw.next au) ?_;rintro e a7 ⟨rfl,aZ⟩;clear au;have au:V _:=aZ;clear aZ);rw[em];go_wp2_with fail;go_loopw [5,6,14] (λu o t W=>∃k:Nat,k<=mm/\t=hD k/\o=.string (f2 k).o/\V (Sw w P n cap bl a bs (f2 k).i (f2 k).e u W)) (λ_ _ t _=>mm-(intOf t).toNat)
   case atStart=>
    have e1:=H2.o.1;exact⟨0,yae,rfl,by rw[e1],by rw[e1];exact au.o⟩
   case round=>
    obtain⟨k,N,rfl,rfl,aZ⟩:=hrel;clear au;by_cases aC:k<mm
    ·have bv:=(H2.o.2 k).1;have v:=(H2.o.2 (k+1)).1;obtain⟨x,r,a5,av⟩:=(H2.o.2 k).2
     have z:((f2 k).o++(⟨#[108,101,116,32]⟩++⟨(nmB (nn+k)).toArray⟩++⟨#[32,61,32]⟩++x++⟨#[59]⟩++p)).size<=1000000:=by
      exact xgn
     have aN:(⟨#[108,101,116,32]⟩++⟨(nmB (nn+k)).toArray⟩++⟨#[32,61,32]⟩++x++⟨#[59]⟩++p:ByteArray).size<=1000000:=by rw[yar]at z;omega
     have aX:V _:=bv;have bZ:V _:=av;have f:V _:=aZ.o;obtain⟨aE,cE,aH⟩:=aZ.o.form;subst aH;clear bv v av aZ;generalize f2 k=s at*;have ak:=hb s.i;have Y:(nn:Int)+k<7:=xaa;have K:(k:Int)<mm:=xaa;have HL:V (s.e.length<=100):=by have:=aX.o.1;show _<=_;omega
     go_upto_region 24 with (first
      |(go_at_call 33;refine yaj (Sw.next f) ?_;rintro e bi ⟨rfl,aZ⟩;clear f;have f:V _:=aZ;clear aZ)
      |(go_at_call 72;have bT:=Sw.call f HL.o a5;simp only[ex3]at bT;(with_reducible refine yaj bT ?_);clear bT;rintro e ag ⟨rfl,aZ,-⟩;clear f;have f:V _:=aZ;have am:=aZ.tb (nn+k) xaa;clear aZ))
     change ag.cell? ⟨bl,nn+k,none⟩=some (.string ⟨(nmB (nn+k)).toArray⟩)at am;generalize O:(⟨(nmB (nn+k)).toArray⟩:ByteArray)=y at am bZ z aN;repeat (rw[yar]at z;refine sz2 z ?_;clear z;intro _ z)
     repeat (rw[yar]at aN;refine sz2 aN ?_;clear aN;intro _ aN)
     have bo:V (∀(o:Obj),Sw w P n cap bl a bs r s.e _ (ag.alloc o)):=λo=>f.o.keep0 (ez 0 0 _ o);have bc:V ((ag.alloc (.cells #[.string y,hD (1+(nv bs s.i:Int)%3)] 103)).cell? ⟨ag.heap.size,0,none⟩=some (.string ⟨(nmB (nn+k)).toArray⟩)/\(ag.alloc (.cells #[.string y,hD (1+(nv bs s.i:Int)%3)] 103)).cell? ⟨ag.heap.size,1,none⟩=some (hD (1+(nv bs s.i:Int)%3))):=by rw[O];exact⟨by simp,by simp⟩
     have R:V (s.e.length+1<=1000):=by have:=aX.o.1;show _<=_;omega
     go_wp2_with (at_builtin;refine mD _ rfl _ _ rfl w.heap.size (.slice aE s.e.length cE) s.e rfl (bo.o _).own ag.heap.size (nmB (nn+k),1+(nv bs s.i:Int)%3) rfl bc.o.1 bc.o.2 R.o (yao f.o.wl (Nat.le_of_lt (bo.o _).tl)) ?_;intro g9 X n9 bg bJ G F cd;have H:V _:=(bo.o _).app _ bJ G F cd;clear bJ G F cd);exact xgd
    have b2:k=mm:=xaa;have au:V _:=aZ.o;clear aZ N aC;rw[b2]at au⊢;clear b2 k;have K:¬((mm:Int)<mm):=xaa;have S:V ((f2 mm).o.size<=200000):=yao (H2.o.2 mm).1.2.2 xaa;have HL:V ((f2 mm).e.length<=100):=by have:=(H2.o.2 mm).1.1;show _<=_;omega
    rcases h3.o with⟨cN,af⟩|⟨br,cN,es,g,q,x,r,Q,a5,ad,af⟩
    ·rcases (by omega:mm=0\/(0<mm/\¬(c:Int)%5=1)) with br|⟨br,U⟩
     ·have cu:¬(0<(mm:Int)):=xaa;clear br cN;exact xhw
     have cu:0<(mm:Int):=xaa;exact xhw
    have cu:0<(mm:Int):=xaa;obtain⟨T,cE,aH,bb,aM⟩:=au.o.last Q;subst aH;have ab:((f2 mm).e.length:Int)-1=(es.length:Int):=by rw[Q,yal];simp
    have aa:(es.length:Int)<((f2 mm).e.length:Int):=xaa;clear Q;have Z:=HL.o;go_upto_region 28 with fail;have aU:V _:=au.o.keep0 (ez 0 0 wr (.cells #[.string ⟨g.toArray⟩,hD q] 103))
    have b1:V (∀W',Kept P (P+1) (wr.alloc (.cells #[.string ⟨g.toArray⟩,hD q] 103)) W'->W'.cell? ⟨wr.heap.size,0,none⟩=some (.string ⟨g.toArray⟩)):=λW' k=>by
     have B:=au.o.rd.lt
     rw[k.cell (p:=⟨wr.heap.size,0,none⟩) xac (by show ¬(P<=wr.heap.size/\wr.heap.size<P+1);omega)]
     simp
    have z:((f2 mm).o++rpX p c g x).size<=1000000:=by have:=S.o;rw[yar];omega
    have aN:(rpX p c g x).size<=1000000:=xaa
    have HD:V (∀W:World,Calls prog 71 #[hD ((c:Int)/5%4)] W λe I=>e=.returned (eN (gZ (c/5%4)))/\I=W):=λW=>by
     rw[show(c:Int)/5%4=((c/5%4:Nat):Int) by omega]
     exact y9 _ _ yad xaa W
    unfold rpX at z aN af;unfold eN at HD;generalize (⟨(gZ (c/5%4)).toArray⟩:ByteArray)=J at HD af z aN;generalize (⟨g.toArray⟩:ByteArray)=y at b1 aU af z aN⊢;go_upto_region 29 with (go_at_call 72;have bT:=Sw.call aU HL.o a5;simp only[ex3]at bT;(with_reducible refine yaj bT ?_);clear bT;rintro e ag ⟨rfl,aZ,cB⟩;have aQ:=b1.o ag cB;clear au aU;have au:V _:=aZ;clear aZ cB);repeat (rw[yar]at z;refine sz2 z ?_;clear z;intro _ z)
    repeat (rw[yar]at aN;refine sz2 aN ?_;clear aN;intro _ aN)
    go_quiet ((go_at_call 71;exact Calls.quiet_of_same (HD.o _)))
    go_upto_region 30 with fail;subst af;replace au:V _:=au.o.keep0 (eK 0 0 ag nq);(try unfold hC at au);(try unfold hC);generalize some (⟨T,0,none⟩:Addr)=aE at au⊢;exact WkM):P:=h
theorem Qf(hb:∀i,nv bs i<256){i f:Nat}(ad:nv bs (ni bs i)=c)(N:f<3)(a6:(nv bs i:Int)%3=(f:Int))(v:p.size<=8)(y:⟨(gapL.getD f []).toArray⟩=p)
  {aJ}{bZ:Nat} (ch:(c:Int)/2%5=(bZ:Int)) (s:bZ<5) (K:⟨(bodL.getD bZ []).toArray⟩=aJ) (B:aJ.size<=30)
  {aT:Ss} (ae:((c:Int)%2=1/\V (aT=⟨[([102],0)],hd0 aJ p,ni bs (ni bs i)⟩))\/((c:Int)%2=0/\V (aT=⟨[],⟨#[]⟩,ni bs (ni bs i)⟩)))
  {f1:Nat->Ss}{J O} (H1:V (f1 0=⟨aT.e,aT.o,ni bs aT.i⟩/\∀k,Gs (J+k) (O+k*100) (f1 k)/\R1 bs p k (f1 k) (f1 (k+1)))) (I:J<=1) (Y:O<=1000)
  {nn:Nat} (am:1+(nv bs (ni bs (ni bs i)):Int)%3=(nn:Int)) (_hn3:nn<=3)
  {f2:Nat->Ss}{L2 R} (H2:V (f2 0=⟨(f1 nn).e,(f1 nn).o,ni bs (f1 nn).i⟩/\∀k,Gs (L2+k) (R+k*64100) (f2 k)/\R2 bs p nn k (f2 k) (f2 (k+1)))) (aA:L2<=4) (Z:R<=2000)
  {mm:Nat} (em:(nv bs (f1 nn).i:Int)%4=(mm:Int)) (_hm3:mm<=3)
  {Q} (h3:V (((mm=0\/¬(c:Int)%5=1)/\Q=f2 mm)\/(0<mm/\(c:Int)%5=1/\∃es g q x r,(f2 mm).e=es++[(g,q)]/\Dr (f2 mm).e bs (f2 mm).i 72 (ex3 q 2) 16000 x r/\(rpX p c g x).size<=100000/\Q=⟨(f2 mm).e,(f2 mm).o++rpX p c g x,r⟩)))
  {f3:Nat->Ss}{h S} (H3:V (f3 0=⟨Q.e,Q.o,ni bs Q.i⟩/\∀k,Gs h (S+k*256100) (f3 k)/\R3 bs p k (f3 k) (f3 (k+1)))) (_hL3:h<=10) (af:S<=220000)
  {m3:Nat} (e4:1+(nv bs Q.i:Int)%3=(m3:Int)) (U:m3<=3)
  {t}{j} (hj:j=(f3 m3).i) (ht:V (((f3 m3).o.size<=4000/\⟨t.toArray⟩=(f3 m3).o)\/(4000<(f3 m3).o.size/\⟨t.toArray⟩=(f3 m3).o.extract 0 4000))) (C:RdF w P a n cap i bs):Calls prog 36 #[hB P] w (SrO w P n cap a bs j t):=by
 have hP:=C.lt;have aa:(c:Int)<256:=hM (hb (ni bs i))
 have au:V _:=C;clear C;go_enter func36,ntmps36;go_upto_region 2 with fail;change Code.wp _ _ _ _ (w.alloc (.cells (pL gapL) 9));have aK:V _:=au.o.keep0 (ez 0 0 w (.cells (pL gapL) 9));have bu:V _:=jh _ _ _ _ _ _ _ aK.o;have b1:V (∀W,Kept P (P+1) (w.alloc (.cells (pL gapL) 9)) W->_):=λW k=>r6 (l:=gapL) (m:=f) k hP N;have HK:V _:=ez P (P+1) w (.cells (pL gapL) 9);clear au aK;generalize w.alloc (.cells (pL gapL) 9)=az at*;rw[y]at b1;clear y;go_upto_region 5 with (go_at_call 33;refine yaj bu.o ?_;rintro e W2 ⟨rfl,C,ah,-⟩;have aR:=b1.o W2 ah;have bD:V _:=HK.o.trans ah;have bi:V _:=jh _ _ _ _ _ _ _ C;clear C ah);clear aR b1 bu HK;rw[ad]at bi;rcases ae with⟨c2,HE⟩|⟨c2,HE⟩
 ·go_upto_region 7 with (go_at_call 33;refine yaj bi.o ?_;rintro e ab ⟨rfl,(H:V _),aF,-⟩;have bR:V _:=bD.o.trans aF;have T:=H.o.lt;clear aF);clear bi bD;go_upto_region 8 with fail;change Code.wp _ _ _ _ (ab.alloc (.cells (pL bodL) 9));have an:=r6 (l:=bodL) (m:=bZ) (Kept.refl P (P+1) (ab.alloc (.cells (pL bodL) 9))) T s;rw[K]at an;have ar:V _:=H.o.keep0 (ez 0 0 ab (.cells (pL bodL) 9));have b0:V _:=bR.o.trans (ez _ _ ab (.cells (pL bodL) 9));clear H bR;generalize ab.alloc (.cells (pL bodL) 9)=bj at*
  have z:(hd0 aJ p).size<=1000:=by
   simp only[hd0,yar,gi,yaq,List.length_nil];omega
  unfold hd0 at z HE;have aN:(⟨#[100,101,102,32,102,40,112,41,32,61,32]⟩++aJ++⟨#[59]⟩++p:ByteArray).size<=1000000:=by rw[yar]at z;omega
  replace z:=yao z (by decide:1000<=1000000);repeat (rw[yar]at z;refine sz2 z ?_;clear z;intro _ z)
  repeat (rw[yar]at aN;refine sz2 aN ?_;clear aN;intro _ aN)
  have bS:=ez 0 0 bj (.cells #[.string ⟨#[102]⟩,hD 0] 103);have ea:V _:=ar.o.keep0 bS;have cC:V _:=b0.o.trans (fh bS);clear ar b0;have bf:=cC.o.size;go_upto_region 10 with (at_builtin;refine mD _ rfl _ _ rfl w.heap.size iS [] rfl (yaw _ _ _ _) bj.heap.size ([102],0) rfl xac xac xab bf ?_;intro g9 X n9 ci bJ G F _;subst bJ;have cB:Kept 0 0 _ ci:=⟨F.os,F.tape,F.output,F.size,λb hb _=>F.block b hb (λe=>by cases e)⟩;have HO:V (ci.ownsRow w.heap.size 103 2 (hC g9 1 X) ([([102],0)]:List (List UInt8×Int)).length (flE [([102],0)])):=G;have HR:V _:=ea.o.keep0 cB;have HK:V _:=cC.o.trans (fh cB);clear F cB G);clear ea cC bf z aN;exact WkL
 go_upto_region 10 with (go_at_call 33;refine yaj bi.o ?_;rintro e ab ⟨rfl,(HR:V _),aF,-⟩;have HK:V _:=bD.o.trans aF;clear aF);have HO:V (ab.ownsRow w.heap.size 103 2 (.slice none 0 0) ([]:List (List UInt8×Int)).length (flE [])):=yaw ab w.heap.size 103 2;clear bi bD;exact WkL
end
section
variable{bs:List Int}
theorem Qg(hb:∀i,nv bs i<256)(i):∃(t:List UInt8) (j:Nat),t.length<=4000/\∀{w:World}{P n cap:Nat}{a:Option Addr},RdF w P a n cap i bs->Calls prog 36 #[hB P] w (SrO w P n cap a bs j t):=by
 obtain⟨f,N,a6⟩:∃k:Nat,k<3/\(nv bs i:Int)%3=k:=⟨nv bs i%3,by omega,by omega⟩
 obtain⟨c,ad⟩:∃c,nv bs (ni bs i)=c:=⟨_,rfl⟩
 have T:=hb (ni bs i);rw[ad]at T;obtain⟨bZ,s,ch⟩:∃k:Nat,k<5/\c/2%5=(k:Int):=⟨c/2%5,by omega,by omega⟩
 have v:=IM (l:=gapL) (z:=8) xab f;have B:=IM (l:=bodL) (z:=30) xab bZ;generalize y:(⟨_⟩:ByteArray)=p at v;generalize K:(⟨_⟩:ByteArray)=aJ at B
 obtain⟨aT,gp,ae,cy,F⟩:∃aT L,(((c:Int)%2=1/\V (aT=⟨[([102],0)],hd0 aJ p,ni bs (ni bs i)⟩))\/((c:Int)%2=0/\V (aT=⟨[],⟨#[]⟩,ni bs (ni bs i)⟩)))/\Gs L 1000 aT/\L<=1:=by
  rcases (by omega:(c:Int)%2=1\/(c:Int)%2=0) with h|h
  ·exact⟨_,1,.inl ⟨h,rfl⟩,⟨rfl,by show ∀x∈[(([102]:List UInt8),(0:Int))],x.1.length<=5;decide,by simp only[hd0,yar,gi,yaq,List.length_nil];omega⟩,by decide⟩
  exact⟨_,0,.inr ⟨h,rfl⟩,⟨rfl,(λ_ h=>by cases h),yae⟩,by decide⟩
 obtain⟨f1,u⟩:=Qc (bs:=bs) v (s:=⟨aT.e,aT.o,ni bs aT.i⟩) cy;have I:aT.i=ni bs (ni bs i):=by rcases ae with h|h<;>rw[h.2.o]
 obtain⟨nn,cS,am⟩:∃n:Nat,n<=3/\1+(nv bs (ni bs (ni bs i)):Int)%3=n:=⟨1+nv bs (ni bs (ni bs i))%3,by omega,by omega⟩
 obtain⟨f2,e⟩:=Qd hb v (s:=⟨(f1 _).e,(f1 nn).o,ni bs (f1 nn).i⟩) nn (u.2 _).1;obtain⟨mm,l,em⟩:∃n:Nat,n<=3/\(nv bs (f1 nn).i:Int)%4=n:=⟨nv bs (f1 nn).i%4,by omega,by omega⟩
 have ap:=(e.2 mm).1
 obtain⟨Q,h3,bM⟩:∃Q:Ss,(((mm=0\/¬(c:Int)%5=1)/\Q=f2 _)\/(0<mm/\(c:Int)%5=1/\∃es g q x r,(f2 mm).e=es++[(g,q)]/\Dr (f2 mm).e bs (f2 mm).i 72 (ex3 q 2) 16000 x r/\(rpX p c g x).size<=100000/\Q=⟨(f2 mm).e,(f2 mm).o++rpX p c g x,r⟩))/\Gs _ 220000 Q:=by
  by_cases h:mm=0\/¬(c:Int)%5=1
  ·exact⟨_,.inl ⟨h,rfl⟩,ap.1,ap.2.1,yao ap.2.2 xaa⟩
  obtain⟨m,rfl⟩:∃m,mm=m+1:=⟨mm-1,by omega⟩
  obtain⟨bI,b9,_,bc⟩:=(e.2 m).2;obtain⟨x,r,G⟩:=In ap.2.1 hb 2 xab _ (nv3 (bs:=bs) (f2 m).i) (f2 (m+1)).i
  have z:(rpX p c (nmB (nn+m)) x).size<=17000:=by
   have:=G.1;have:=yi (nn+m);have:=jO (c/5%4);simp only[rpX,yar,gi,yaq,List.length_nil];omega
  exact⟨_,.inr ⟨by omega,by omega,_,_,_,x,_,by rw[bc],G,by omega,rfl⟩,ap.1,ap.2.1,by have:=ap.2.2;rw[yar];omega⟩
 obtain⟨f3,H⟩:=Qe hb v (s:=⟨Q.e,Q.o,ni bs Q.i⟩) bM;obtain⟨m3,U,e4⟩:∃n:Nat,n<=3/\1+(nv bs Q.i:Int)%3=n:=⟨1+nv bs Q.i%3,by omega,by omega⟩
 obtain⟨t,a0,ht⟩:∃t:List _,t.length<=4000/\(((f3 _).o.size<=4000/\⟨t.toArray⟩=(f3 _).o)\/(4000<(f3 m3).o.size/\⟨t.toArray⟩=(f3 _).o.extract 0 _)):=by
  by_cases h:(f3 m3).o.size<=4000
  ·exact⟨_,h,.inl ⟨h,rfl⟩⟩
  exact⟨((f3 m3).o.extract 0 4000).data.toList,by show ByteArray.size _<=_;rw[ByteArray.size_extract];omega,.inr ⟨by omega,rfl⟩⟩
 exact⟨t,_,a0,λC=>Qf hb ad N a6 v y ch s K B ae u F yad am cS e xaa xaa em l h3 H xaa yad e4 U rfl ht C⟩
end
section
attribute[local go_sem] eG eE eD
variable{w I:World}{q j A n R k:Nat}{bT:List Nat}{vs:List Vl}{a:Option Addr}{xss:List (List Nat)}{ins xs:List Int}{v bI bB bE:Value}
def lR(xs:List Int)(i:Nat):Nat:=if xs.length=0 then 0 else (xs.getD (i%xs.length) 0).toNat
theorem IN(h:YS w a n xs)(i):lR xs i<256:=by
 unfold lR;split
 ·omega
 rename_i ae;have aq:i%xs.length<xs.length:=Nat.mod_lt _ xaa;rw[yai,yam aq];have:=h.lt _ (List.getElem_mem aq);show(xs[i%xs.length]).toNat<256;omega
theorem PC{cap}(h:YS w a n xs)(hn:n<=1048576)(i:Nat):
  Calls prog 22 #[.slice a n cap,hD i] w λe I=>e=.returned (hD (lR xs i:Int))/\I=w:=by
 have ab:=h.len;by_cases ae:n=0
 ·have HR:V ((lR xs i:Int)=0):=by show _=_;unfold lR;rw[hG xaa];rfl
  have ai:(n:Int)<=0:=xaa;clear h ab ae;exact xil
 have aq:i%n<n:=Nat.mod_lt _ xaa
 obtain⟨g,off,rfl,ad⟩:∃g off,a=some ⟨g,off,none⟩/\w.cell? ⟨g,off+i%n,none⟩=some (.int .u8 (xs.getD (i%n) 0)):=by
  rcases h.at_ with q|⟨g,off,e,h3,a0⟩
  ·exact absurd q ae
  exact⟨g,off,e,a0 _ aq⟩
 have hb:0<=xs.getD (i%n) 0/\xs.getD (i%n) 0<256:=by
  rw[yai,yam xaa];exact h.lt _ (List.getElem_mem _)
 have HR:V ((lR xs i:Int)=xs.getD (i%n) 0):=by show _=_;unfold lR;rw[hF xaa,ab];omega
 have c:(i:Int).tmod (n:Int)=((i%n:Nat):Int):=rfl;have f:(i:Int)%n=((i%n:Nat):Int):=by rw[Int.natCast_emod]
 obtain⟨ay,au⟩:=hb;generalize xs.getD (i%n) 0=x at ad ay au HR;generalize i%n=j at aq ad c f;clear h ab;exact xil
theorem re(outs:List Int)(z:List (List Nat))(h:j<outs.length):(outs.map λo=>z.getD o.toNat []).getD j []=z.getD (outs.getD j 0).toNat []:=by
 have e:outs.getD j 0=outs[j]:=by rw[yai,yam h];rfl
 rw[e,yai,List.getElem?_map,yam h];rfl
theorem bX.qce(h:Zp:=by
 clear aw h f s al aD an;go_enter func11,ntmps11;go_wp2_with fail;generalize w.alloc _=aO at bn aA aI au HK b7⊢;refine yaj bn.o ?_;rintro e ag ⟨rfl,ah⟩;obtain⟨_,bd,aL,aJ⟩:=G0.keep aA.o ah;have bO:V _:=DF _ _ _ _ b _ m c1 cb _ _ (GS.keep aI.o ah).i (SS.keep au.o ah) xaa;exact qgv):Zp:=h
theorem bX.qes(h:Zp:=by
 have bo:V _:=j9 an (λk=>by
  rw[yai]
  cases cG:vs[k]? with
  |none=>decide
  |some v=>exact f.v.lt v (List.mem_of_getElem? cG))
 have P:V _:=m4 J _ aD
 have aa:V (m=n1):=by
  exact xhi
 have aw:=ez 0 0 w (eW a1 n1 c1 Y T c2 a3 n3 c3);have bn:V _:=vf _ _ _ _ _ c1 _ c2 _ c3 _ _ _ (f.keep aw);rw[h]at bn;exact qcd):Zp:=h
theorem bX.qfh(h:Zp:=by
 have bn:V _:=Bf _ (vs.getD k hI) _ _ T m cb k b _ _ (hP.o.keep bZ) (SS.keep au.o (Kept.trans aw.o bZ)) N (by
   rw[yai]
   cases cG:vs[k]? with
   |none=>decide
   |some v=>exact Z v (List.mem_of_getElem? cG)) (bo.o k) (λae=>by
   unfold okV at ok
   rw[hG ae]at ok
   simp only[Bool.and_eq_true]at ok
   have:=of_decide_eq_true ok.2.1
   rw[e1]at this
   rw[aa.o]
   exact this) (λae=>by
   unfold okV at ok
   rw[hF ae]at ok
   simp only[Bool.and_eq_true]at ok
   exact ok.2.1)
 have aU:V (∀{I:World}{b:Option _}{m c:Nat},Kept 0 0 _ I->Cl _ (.slice b m c) _->_):=λq aH=>hP.o.step aC q aH;have cw:V _:=bZ;clear aN a2 bk bq ok Z bp bZ;generalize vs.getD k _=v at be bn aU cw;obtain⟨bu,d1,d2,d3,H,aj⟩:=be;subst b4;go_wp2_with fail;refine yaj bn.o ?_;rintro e br ⟨cj,cJ,c5,rfl,cN,bS⟩;have cc:=Kept.trans cw.o bS;have r:=hP.o.keep cc;obtain⟨bG,X,aX,aM,_⟩:=r.at_ k aC;have aQ:=r.free k;have R1:V _:=aU.o cc cN;have R2:V _:=oy _ _ (Kept.trans aw.o cc) _ k (.slice cj cJ c5) cU.o;clear r cc bS cN bn aU cw bu d1 d2 d3 H aj hP aw;exact xdm):Zp:=h
theorem bX.qgw(h:Zp:=by
 have aq:=A7 T a7 xaa;have bV:V _:=LV.made a7 T (eX xss vs 0);have ca:=aF.trans (ez 0 0 _ (.cells (madeCells #[.slice none 0 0] T) 48));have p:=(G0.keep aA.o aF).q1;obtain⟨_,bd,aL,aJ⟩:=G0.keep aA.o ca;have bR:V _:=ca;have cU:V _:=aF.size;clear d3 aF ca bO bD;generalize a7.alloc _=bj at aq bV bR bd aL aJ;go_wp2_with fail;clear aq p bd aL aJ;go_loopw [27] (λi W=>∃k:Nat,k<=T/\i=hD k/\V (LV W a7.heap.size T k (eX xss vs k))/\V (Kept 0 0 aO W)) (λi _=>T-(intOf i).toNat)
 case atStart=>exact⟨0,yae,rfl,bV,bR⟩
 case round=>
  obtain⟨k,N,rfl,hP,aw⟩:=hrel;clear bV bR;by_cases aC:k<T
  ·have bp:=GS.keep aI.o aw.o;rcases bp.v.at_ with bC|⟨bw,bh,b4,aN,a2,bk,bq⟩
   ·omega
   have be:=bq k aC;have Z:=bp.v.lt;have ok:=List.all_eq_true.1 bL.o k (List.mem_range.2 aC);exact qfg
  obtain rfl:k=T:=xaa;obtain⟨br,K⟩:∃br,br=wr:=⟨_,rfl⟩
  subst K;obtain⟨z,(av:V _),(y:V _)⟩:=hP.o.ss;have aJ:=(G0.keep aA.o aw.o).q2;have aq:=A7 n3 br xaa;have ai:=ez 0 0 br (.cells (madeCells #[.slice none 0 0] n3) 48);have F:=(G0.keep aA.o (Kept.trans aw.o ai)).q2;have ax:V _:=SP.made br n3 id id (outs.map λo=>z.getD o.toNat []);have cC:V _:=ai;have HK:V _:=Kept.trans HK.o aw.o;have U:V _:=aw.o.size;have bl:V _:=aw.o;clear hP ai aw;generalize br.alloc _=cq at aq ax cC F;go_wp2_with fail;clear aq aJ F;go_loopw [47] (λi W=>∃k:Nat,k<=n3/\i=hD k/\V (∃ar cx,SP W br.heap.size n3 k ar cx (outs.map λo=>z.getD o.toNat []))/\V (Kept 0 0 br W)) (λi _=>n3-(intOf i).toNat)
  case atStart=>exact⟨0,yae,rfl,⟨_,_,ax.o⟩,cC⟩
  case round=>
   obtain⟨j,hj,rfl,hP,aw⟩:=hrel;clear ax cC;obtain⟨ar,cx,hP⟩:=hP.o;by_cases aC:j<n3
   ·rcases (GS.keep aI.o (Kept.trans bl.o aw.o)).o.at_ with bC|⟨bw,bh,b4,aN,a2,bk,bq⟩
    ·omega
    have c1:=bq j aC
    have g:=List.all_eq_true.1 HO.o (outs.getD j 0) (by
     rw[yai,yam xaa]
     exact List.getElem_mem _)
    have t:=of_decide_eq_true g
    have bX:(outs.map λo=>z.getD o.toNat []).getD j []=z.getD (outs.getD j 0).toNat []:=by
     exact re _ _ xaa
    have co:V (∀{I:World}{G c:Nat},Kept 0 0 _ I->FO _ G _ _->wr.heap.size<=G->_<=c->_):=λq al bv ad=>hP.step aC q al bv ad;rw[bX]at co;obtain⟨o,al⟩:∃o:Nat,outs.getD j 0=o:=⟨(outs.getD j 0).toNat,by omega⟩
    rw[al,Int.toNat_natCast]at co;rw[al]at c1 t;have C:o<k:=xaa;rcases (SS.keep av.o aw.o).at_ with bC|⟨aY,aP,ch,aM,aQ⟩
    ·omega
    cases ch;obtain⟨O,l,bA,ap,bM⟩:=aQ o C;rw[Nat.zero_add]at bA
    have b9:1<=(z.getD o []).length/\(z.getD o []).length<=1000:=by
     have ao:=iZ (y.o o C);exact xhz
    rcases bM.at_ with bC|⟨cg,bz,ak,bB,bE,b6,ct⟩
    ·omega
    have bc:V _:=Pf _ _ _ _ l _ b9.1 xaa b6 rfl bM.lt ct;have fa:V (∀I,Kept 0 0 _ I->I.frozen? _=false/\∃u,I.cell? _=some u):=λI q=>⟨(hP.keep q).free j,(hP.keep q).rest j aC⟩
    subst b4 ak;clear aN a2 bk bq aM aQ ap bM bB bE b6 ct bX g t hP al;generalize z.getD o _=bT at bA bc co b9;generalize bT.length=S at bA bc co b9;go_wp2_with fail;refine yaj bc.o ?_;rintro e ci ⟨G,cap,rfl,aS,ck,cl,bU⟩;have R1:V _:=co.o bU ck cl aS;have R2:V _:=oy _ _ (Kept.trans aw.o bU) _ j (hC G S cap) yad;obtain⟨cF,u,aH⟩:=fa.o _ bU;clear bc co fa bA ck bU c1 aw;go_wp2;go_roundw;exact⟨j+1,by omega,by go_num,⟨_,_,R1.o⟩,R2⟩;simp[intOf];omega
   obtain rfl:j=n3:=xaa;have R1:V _:=Kept.trans HK.o aw.o
   have R2:V (∀i,i<j->fO ((outs.map _).getD i _) _):=λi hi=>by
    have g:=List.all_eq_true.1 HO.o (outs.getD i 0) (by
     rw[yai,yam xaa]
     exact List.getElem_mem _)
    have t:=of_decide_eq_true g
    have bX:(outs.map λo=>z.getD o.toNat []).getD i []=z.getD (outs.getD i 0).toNat []:=by
     exact re _ _ xaa
    rw[bX]
    exact y.o _ xaa
   have R3:V _:=hP;clear hP aw;go_wp2;go_ret2
   exact⟨_,_,_,_,rfl,hN U.o b7.o,R3.o,by rw[List.length_map];exact af,R2.o,R1.o⟩):Zp:=h
open bX in
theorem Ai(w a1 Y a3 b n1 c1 T c2 n3 c3 m cb ins vs outs xss)(f:GS w a1 n1 Y T a3 n3 ins vs outs)(s:SS w b m xss)(an:iT xss)(h:okG ins vs outs=true)(J:inB ins xss=true):
  Calls prog 11 #[eV a1 n1 c1 Y T c2 a3 n3 c3,.slice b m cb] w λe I=>∃G ar cx z,e=.returned (.tuple #[hC G n3 n3,hD 0])/\w.heap.size<=G/\SP I G n3 n3 ar cx z/\z.length=n3/\(∀j,j<n3->fO (z.getD j []) ((eX xss vs T).getD (outs.getD j 0).toNat []))/\Kept 0 0 w I:=by
 exact qer
theorem Om(w lo hi a b n m bd cb ins xss)(f:IS w lo hi a n ins)(g:SS w b m xss)(hn:n<=1099511627776):
  Calls prog 19 #[.slice a n bd,.slice b m cb] w λe I=>e=.returned (.bool (inB ins xss))/\Drawn w I:=by
 have aI:V _:=f;have aX:V _:=g;have HL:V (ins.length=n/\xss.length=m):=⟨f.len,g.len⟩
 clear f g;by_cases am:m=n
 ·subst am;go_enter func19,ntmps19;go_wp2_with fail;go_loopw [5] (λi W=>∃k:Nat,k<=m/\i=hD k/\V ((List.range k).all (λi=>((xss.getD i []).length:Int)==ins.getD i 0)=true)/\V (Drawn w W)) (λi _=>m-(intOf i).toNat)
  case atStart=>exact⟨0,yae,rfl,rfl,Drawn.refl _⟩
  case round=>
   obtain⟨k,N,rfl,aU,a5⟩:=hrel;by_cases aC:k<m
   ·rcases aI.o.at_ with bC|⟨bw,bh,b4,aN,a2,bk,bq⟩
    ·omega
    rcases aX.o.at_ with bC|⟨aY,aP,ch,aM,aQ⟩
    ·omega
    have c1:=(a5.o.cell _).trans (bq k aC);obtain⟨ax,J,c2',_,_⟩:=aQ k aC;have c2:=(a5.o.cell _).trans c2';have b9:(0:Int)<=k:=xaa;have bK:(k:Int)<m:=xaa;subst b4 ch;clear aN a2 bk bq aM aQ c2';cases ak:(((xss.getD k []).length:Int)==ins.getD k 0)
    ·have U:V (inB ins xss=false):=by
      show inB ins xss=false;unfold inB;rw[HL.o.1,mb aC ak,Bool.and_false]
     have ah:(((xss.getD k []).length:Int) !=ins.getD k 0)=true:=by rw[bne,ak];rfl
     generalize (xss.getD k _).length=y at c2 ah;generalize ins.getD k 0=x at c1 ah;clear ak aU;go_wp2_with fail;go_quiet (fail)
     go_wp2;go_ret;exact⟨hS U.o,Drawn.more a5.o _⟩
    have U:V _:=kZ aU.o ak;have ah:(((xss.getD k []).length:Int) !=ins.getD k 0)=false:=by rw[bne,ak];rfl
    generalize (xss.getD k _).length=y at c2 ah;generalize ins.getD k 0=x at c1 ah;clear ak aU;go_wp2_with fail;go_quiet (fail)
    go_wp2;go_roundw;exact⟨k+1,by omega,by go_num,U,Drawn.more a5.o _⟩;simp[intOf];omega
   have U:V (inB ins xss=true):=by
    exact xgo
   clear aU;go_wp2;go_ret;exact⟨hS U.o,a5.o⟩
 have e:inB ins xss=false:=by
  exact xjm
 rw[e];have t:((n:Int) !=m)=true:=by simp;omega
 go_enter func19,ntmps19;go_wp2;go_ret;exact⟨rfl,Drawn.refl _⟩
theorem IP(w g off n c xs)(hn:1<=n)(ce:n<=1000000)(ak:xs.length=n)(aC:∀x∈xs,x<18446744073709551616)(ad:∀k,k<n->w.cell? ⟨g,off+k,none⟩=some (.float .f64 (xs.getD k 0))):
  Calls prog 21 #[.slice (some ⟨g,off,none⟩) n c] w λe I=>∃G cap,e=.returned (hC G n cap)/\n<=cap/\FO I G n xs/\w.heap.size<=G/\Kept 0 0 w I:=by
 obtain⟨b3,hi,a6,b8,b5⟩:=info_parts yq;have bu:V _:=B7 ak ad;have HO:V _:=yaw w w.heap.size 50 1;have bn:V _:=ak;have h:V _:=aC;clear ad ak aC;go_enter func21,ntmps21;go_wp2_with (first|(at_builtin;refine wpList_append_own _ rfl _ _ _ rfl _ 50 _ _ 1 8 underlying48 hi a6 b8 b5 rfl xab _ _ _ rfl HO.o _ n c _ rfl ?c0 bu.o ?c2 ?c3 ?c4 ?c5 ?_))
 case c0=>exact bn.o
 case c2=>intro u aH;rfl
 case c3=>unfold maxLen;omega
 case c4=>omega
 intro v' bg bQ a0 _;have aZ:bg.ownsRow w.heap.size 50 1 v' n (xs.map (Value.float .f64)):=by simpa using bQ
 obtain⟨G,cap,rfl,O,ax,Z⟩:=FO.of_own aZ xaa bn.o h.o;have U:V _:=i9 a0 (λk N=>by simp[Value.ownBlock]at N) (Kept.refl 0 0 w) yad;clear bQ a0 aZ;go_wp2;go_ret;exact⟨G,_,by simp,ax,Z,O,U.o⟩
theorem On(v)(am:q<3):fld v q=[v.a,v.b,v.c].getD q 0:=by
 rcases (by omega:q=0\/q=1\/q=2) with rfl|rfl|rfl<;>rfl
theorem Oo(v ai)(am:q<cnt v.op):(opl v ai (cnt v.op)).getD q []=ai.getD (fld v q).toNat []:=by
 have:=f9 v.op;rcases (by omega:q=0\/q=1\/q=2) with rfl|rfl|rfl
 ·show(if 0<cnt v.op then _ else _)=_;rw[hG am];rfl
 ·show(if 1<cnt v.op then _ else _)=_;rw[hG am];rfl
 show(if 2<cnt v.op then _ else _)=_;rw[hG am];rfl
theorem Lt(v ai)(am:q<3)(h:¬q<cnt v.op):(opl v ai (cnt v.op)).getD q []=[]:=by
 rcases (by omega:q=0\/q=1\/q=2) with rfl|rfl|rfl
 ·show(if 0<cnt v.op then _ else _)=_;rw[hF h]
 ·show(if 1<cnt v.op then _ else _)=_;rw[hF h]
 show(if 2<cnt v.op then _ else _)=_;rw[hF h]
theorem jQ{base e size:Nat}{xs}{W:World}(h:W.ownsRow base e size v n xs)(N:v.ownBlock=some k):base<=k/\k<W.heap.size:=by
 rcases h.2 with⟨rfl,_⟩|⟨g,cap,H,rfl,O,ax,_⟩
 ·simp[Value.ownBlock]at N
 have e:g=k:=by simpa[Value.ownBlock] using N
 subst e;refine⟨O,?_⟩;exact xcr
theorem pI{W W'}{us:List Value}{ai:List (List Nat)}(h:∀j,j<k->∃b n c,us[j]? =some (.slice b n c)/\Cl W (.slice b n c) (ai.getD j [])/\(0<n->∀p,b=some p->v.ownBlock≠some p.block))(q:Kept 0 0 W W'):
  ∀j,j<k->∃b n c,us[j]? =some (.slice b n c)/\Cl W' (.slice b n c) (ai.getD j [])/\(0<n->∀p,b=some p->v.ownBlock≠some p.block):=λj hj=>by
 obtain⟨b,n,c,a1,Y,a3⟩:=h j hj
 exact⟨b,n,c,a1,Y.keep q,a3⟩
theorem uI(h:xss.length=k):(xss++[bT]).getD k []=bT:=by
 rw[yai,yas xaa,h,Nat.sub_self];rfl
theorem Aj(h:q<xs.length):xs.getD q 0∈xs:=by
 exact xih
theorem Lu(ok:okV ins vs k=true)(ae:(vs.getD k hI).op≠0):
  (1<=(vs.getD k hI).op/\(vs.getD k hI).op<=13)/\∀q,q<cnt (vs.getD k hI).op->0<=fld (vs.getD k hI) q/\fld (vs.getD k hI) q<k:=by
 unfold okV at ok;rw[hF ae]at ok;simp only[Bool.and_eq_true]at ok;refine⟨?_,λq am=>?_⟩
 ·by_cases c:0<=(vs.getD k hI).op/\(vs.getD k hI).op<=13
  ·omega
  have:=ok.2.2;rw[rD c]at this;cases this
 have h:=List.all_eq_true.1 ok.2.1 _ (Aj (by rw[iz];exact am));have J:=of_decide_eq_true h;rw[zu _ am,<-On _ (hM (f9 (vs.getD k hI).op))]at J;exact J
theorem PD(ok:okV ins vs k=true)(ae:(vs.getD k hI).op=0):
  0<=(vs.getD k hI).a/\(vs.getD k hI).a<ins.length/\1<=(vs.getD k hI).len/\(vs.getD k hI).len<=1000/\(vs.getD k hI).len=ins.getD (vs.getD k hI).a.toNat 0:=by
 have l:=ir ok;unfold okV at ok;rw[hG ae]at ok;simp only[Bool.and_eq_true]at ok;have:=of_decide_eq_true ok.2.1;exact⟨this.1,this.2,l.1,l.2,by simpa using ok.2.2⟩
def NC(w':World)(A B:Nat)(v:Vl)(x0 x1 x2:Value):Prop:=
 w'.cell? ⟨A,0,none⟩=some (.int .i64 v.op)/\w'.cell? ⟨A,0+1,none⟩=some (.int .i64 v.len)/\w'.cell? ⟨A,0+2,none⟩=some (.int .i64 v.a)/\w'.cell? ⟨A,0+3,none⟩=some (.int .i64 v.b)/\w'.cell? ⟨A,0+4,none⟩=some (.int .i64 v.c)/\w'.cell? ⟨A,0+5,none⟩=some (.float .f64 v.k)/\w'.cell? ⟨B,0,none⟩=some x0/\w'.cell? ⟨B,1,none⟩=some x1/\w'.cell? ⟨B,2,none⟩=some x2
theorem NC.of{v}(h:NC w A R v bI bB bE)(e:∀g o u,(g=A\/g=R)->w.cell? ⟨g,o,none⟩=some u->I.cell? ⟨g,o,none⟩=some u):NC I A R v bI bB bE:=by
 obtain⟨ae,B,J,h3,a0,bz,bP,aS,U⟩:=h;exact⟨e _ _ _ (.inl rfl) ae,e _ _ _ (.inl rfl) B,e _ _ _ (.inl rfl) J,e _ _ _ (.inl rfl) h3,e _ _ _ (.inl rfl) a0,e _ _ _ (.inl rfl) bz,e _ _ _ (.inr rfl) bP,e _ _ _ (.inr rfl) aS,e _ _ _ (.inr rfl) U⟩
theorem NC.keep{v}(h:NC w A R v bI bB bE)(k:Kept 0 0 w I)(aU:A<w.heap.size)(aS:R<w.heap.size):NC I A R v bI bB bE:=
 h.of λg o u aR ad=>iF k (by rcases aR with rfl|rfl;exact aU;exact aS) ad
theorem NC.far{Q aH v}(h:NC w A R v bI bB bE)(aR:w.grownBy I Q)(av:∀i,Q=some i->i<aH)(e:aH<=A)(f:aH<=R)(aU:A<w.heap.size)(aS:R<w.heap.size):NC I A R v bI bB bE:=
 h.of λg o u t ad=>by
  rw[aR.cell_far _ (by rcases t with rfl|rfl;exact aU;exact aS) (λc=>hM (av g c.symm))]
  exact ad
theorem bY.qce(h:Zp:=by
 clear aw h f s an;go_enter func20,ntmps20;go_wp2_with fail;generalize w.alloc _=aO at aA aI au HK b7⊢;go_loopw [5,6] (λu i W=>∃k:Nat,k<=T/\i=hD k/\V (AR W aO.heap.size u k (eX xss vs k))/\V (Kept 0 0 aO W)) (λ_ i _=>T-(intOf i).toNat)
 case atStart=>exact⟨0,yae,rfl,AR.nil _ _ _,Kept.refl _ _ _⟩
 case round=>
  obtain⟨k,N,rfl,hP,aw⟩:=hrel;have aL:=(G0.keep aA.o aw.o).q1;by_cases aC:k<T
  ·have bp:=GS.keep aI.o aw.o;rcases bp.v.at_ with bC|⟨bw,bh,b4,aN,a2,bk,bq⟩
   ·omega
   have be:=bq k aC;have ok:=List.all_eq_true.1 bL.o k (List.mem_range.2 aC)
   have Z:(vs.getD k hI).k<18446744073709551616:=by
    rw[yai];cases cG:vs[k]? with
    |none=>decide
    |some v=>exact bp.v.lt v (List.mem_of_getElem? cG)
   have bm:V _:=Z;exact qfg
  obtain rfl:k=T:=xaa;obtain⟨a,cap,z,rfl,(R1:V _),(R2:V _)⟩:=hP.o.ss;have R3:V _:=Kept.trans HK.o aw.o;clear hP aw;go_wp2;go_ret;exact⟨a,_,_,rfl,R1.o,R2.o,R3.o⟩):Zp:=h
theorem bY.qfh(h:Zp:=by
 have cw:V _:=bZ;obtain⟨us,aZ,(F:V _)⟩:=hP.o;have b2:V (∀i,u5.ownBlock=some i->_):=λi hi=>(jQ aZ hi).2;have aB:V _:=kN aZ bZ;clear aZ;by_cases bD:(vs.getD k hI).op=0
 ·have U:V (eX xss vs (k+1)=eX xss vs k++[xss.getD (vs.getD k hI).a.toNat []]):=by
   show _=_;rw[eX];unfold one;rw[hG bD]
  have bi:=PD ok bD;rw[e1]at bi;have ah:=bW.o (vs.getD k hI).a.toNat xaa;rw[<-bi.2.2.2.2]at ah;clear aN a2 bk bq ok bp bZ Z;generalize vs.getD k _=v at be cw aB U bD bi ah bm;obtain⟨op,len,A,R,C,K⟩:=v;simp only at bD bi ah U;subst bD;obtain⟨x,rfl⟩:∃x:Nat,A=x:=⟨A.toNat,by omega⟩
  rw[Int.toNat_natCast]at ah U;have cu:x<m:=hM aa.o
  rcases (SS.keep au.o (Kept.trans aw.o cw.o)).at_ with bC|⟨aY,aP,ch,aM,aQ⟩
  ·omega
  obtain⟨O,l,bA,ap,bM⟩:=aQ x cu;rcases bM.at_ with bC|⟨cg,bz,ak,bB,bE,b6,ct⟩
  ·omega
  have bc:V _:=IP _ _ _ _ l _ xaa xaa rfl bM.lt ct;subst b4 ch ak;clear aM aQ ap bM bB bE b6 ct;generalize xss.getD x _=bT at bA bc U ah;obtain⟨S,ai⟩:∃S,S=bT.length:=⟨_,rfl⟩
  rw[<-ai]at bA bc ah;have P:V (S=bT.length/\1<=S/\S<=1000):=⟨ai,by omega,by omega⟩
  clear bi ah ai;obtain⟨bu,d1,d2,d3,H,aj⟩:=be;simp only at bu d1 d2 d3 H aj;go_wp2_with fail;refine yaj bc.o ?_;rintro e br ⟨G,cap,rfl,aS,ck,cl,bU⟩;have aZ:=kN aB.o bU;have bx:=(Kept.trans aw.o (Kept.trans cw.o bU)).size;clear bc bA bu d1 d2 d3 H aj aL;go_wp2_with (first|(at_builtin;refine wpList_append_lies _ rfl _ _ _ rfl _ 48 _ _ 1 _ underlying31 hi a6 b8 b5 rfl xab _ _ _ rfl (aZ.alloc _) _ 1 1 [hC G S cap] rfl rfl ?c1 ?c2 xab ?c3 ?c4 ?c5 _ rfl ?_))
  case c1=>exact cell_one_new _ _ _
  case c2=>intro u aH;simp at aH;subst aH;rfl
  case c3=>unfold maxLen;omega
  case c4=>omega
  case c5=>simp;omega
  intro g9 cap9 bg bQ a0 cd _
  have R1:V (AR bg _ _ _ _):=
   AR.step aZ (pI F.o (Kept.trans cw.o bU)) ⟨_,_,_,_,rfl,aS,ck.fs,rfl⟩ (λ_ p aK c=>by
    cases aK
    have:=(jQ aB.o (k:=G) c).2
    omega) bQ a0 (by rcases cd with h|h;exact .inl h;exact .inr (by rw[h];simp)) (λj hj=>iX _ _ hj) (by rw[U.o];exact uI (iB _ _ _))
  have R2:V _:=i9 a0 (λi hi=>(jQ aZ hi).1) ((Kept.trans aw.o (Kept.trans cw.o bU)).trans (ez 0 0 _ _)) yad;clear bQ a0 cd aZ bU ck F aB cw hP aw;exact xdm
 have U:V (eX xss vs (k+1)=eX xss vs k++[kop (vs.getD k hI) (eX xss vs k)]):=by
  show _=_;rw[eX];unfold one;rw[hF bD];rfl
 have bX:=Lu ok bD;have aF:V _:=bX.2;have av:=bX.1;clear bX aN a2 bk bq ok bp bZ Z;generalize vs.getD k _=v at be cw aB U bD av aF bm;subst b4;have bP:V _:=Ca wr v;have aD:V (wr.heap.size<(wr.alloc (fB v.op v.len v.a v.b v.c v.k)).heap.size):=by show _<_;simp
 obtain⟨bu,d1,d2,d3,H,aj⟩:=be;have bf:=yan bD;clear bD;obtain⟨ag,cc⟩:∃ag,ag=wr:=⟨_,rfl⟩
 subst cc;go_wp2_with fail;clear bu d1 d2 d3 H aj aL bf;have az:V _:=(⟨_,aB.o,pI F.o cw.o⟩:AR _ _ _ k _)
 have bR:V _:=Kept.trans aw.o cw.o;have bY:=cw;clear cw aB F aw;generalize ag.alloc _=a7 at bP aD az bR bY⊢;go_loopw [8,9] (λa i W=>∃q:Nat,q<=3/\i=hD q/\V (AR W a7.heap.size a q (opl v (eX xss vs k) (cnt v.op)))/\V (Kept 0 0 a7 W)) (λ_ i _=>3-(intOf i).toNat)
 case atStart=>exact⟨0,yae,rfl,AR.nil _ _ _,Kept.refl _ _ _⟩
 case round=>
  obtain⟨q,am,rfl,aU,r⟩:=hrel;obtain⟨aT,ao,aG,Q,cf,bv⟩:=bP.o.keep aD.o r.o yaa;have HO:V _:=qI v.op wr xaa xaa;rw[yR av.1 av.2]at HO;have ad:=f9 v.op;by_cases cx:q<3
  ·obtain⟨t,y,bd⟩:=aU.o;by_cases aX:q<cnt v.op
   ·have af:=aF.o q aX;have tq:q<(cnt v.op:Int):=xaa;obtain⟨o,al⟩:∃o:Nat,fld v q=o:=⟨(fld v q).toNat,by omega⟩
    have a5:=lW wr v q xaa;have ar:=Oo v (eX xss vs k) aX;rw[al]at a5 af ar;rw[Int.toNat_natCast]at ar;have bn:V _:=a5;have HE:V _:=ar;obtain⟨cK,co,cn,ca,cI,bO⟩:=AR.cell az.o xaa;obtain⟨O,m1,l,bA,ap,_⟩:=bO o xaa;have cD:V _:=ap;have bN:o<k:=xaa;subst cn;clear bO ca ap;go_wp2_with (first|(go_at_call 48;refine yaj HO.o ?_;rintro e bj ⟨rfl,rfl⟩)|fail);refine yaj bn.o ?_;rintro e br ⟨rfl,bS⟩;have X:=kN y bS;have bM:=iF (Kept.trans r.o bS) cI bA;have bx:=(Kept.trans r.o bS).size;clear aT ao aG Q cf bv bn HO;go_wp2_with (first|(at_builtin;refine wpList_append_lies _ rfl _ _ _ rfl _ 48 _ _ 1 _ underlying31 hi a6 b8 b5 rfl xab _ _ _ rfl (X.alloc _) _ 1 1 [.slice O m1 l] rfl rfl ?c1 ?c2 xab ?c3 ?c4 ?c5 _ rfl ?_))
    case c1=>exact cell_one_new _ _ _
    case c2=>intro u aH;simp at aH;subst aH;rfl
    case c3=>unfold maxLen;omega
    case c4=>omega
    case c5=>simp;omega
    intro g9 cap9 bg bQ a0 cd _
    have R1:V (AR bg _ _ _ _):=
     AR.step X (pI bd bS) (Cl.keep cD.o (Kept.trans r.o bS)) (λhn p aK c=>by
      have B:=(jQ X c).1
      have J:=Cl.lt cD.o hn p aK
      omega) bQ a0 (by rcases cd with h|h;exact .inl h;exact .inr (by rw[h];simp)) (λj hj=>rfl) HE.o
    have R2:V _:=i9 a0 (λi hi=>(jQ X hi).1) ((Kept.trans r.o bS).trans (ez 0 0 _ _)) yad;clear bQ a0 cd X bS bd y aU r bM bA;exact xhk
   have tq:¬(q<(cnt v.op:Int)):=xaa;have HE:V _:=Lt v (eX xss vs k) cx aX;have bx:=r.o.size;go_wp2_with (first|(go_at_call 48;refine yaj HO.o ?_;rintro e bj ⟨rfl,rfl⟩)|(at_builtin;refine wpList_append_lies _ rfl _ _ _ rfl _ 48 _ _ 1 _ underlying31 hi a6 b8 b5 rfl xab _ _ _ rfl (y.alloc _) _ 1 1 [.slice none 0 0] rfl rfl ?c1 ?c2 xab ?c3 ?c4 ?c5 _ rfl ?_))
   case c1=>exact cell_one_new _ _ _
   case c2=>intro u aH;simp at aH;subst aH;rfl
   case c3=>unfold maxLen;omega
   case c4=>omega
   case c5=>simp;omega
   intro g9 cap9 bg bQ a0 cd _
   have R1:V (AR bg _ _ _ _):=
    AR.step y bd (Cl.nil _) (λhn=>absurd hn (Nat.lt_irrefl _)) bQ a0 (by rcases cd with h|h;exact .inl h;exact .inr (by rw[h];simp)) (λj hj=>rfl) HE.o
   have R2:V _:=i9 a0 (λi hi=>(jQ y hi).1) (Kept.trans r.o (ez 0 0 _ _)) yad;clear bQ a0 cd bd y aU r aT ao aG Q cf bv HO;exact xhk
  obtain rfl:q=3:=xaa;obtain⟨ab,dd,cq,cQ,bl,cP⟩:=AR.cell aU.o xaa;obtain⟨bI,bb,a8,cy,bG,_⟩:=cP 0 xaa;obtain⟨bB,aM,aV,bA,f1,_⟩:=cP 1 xaa;obtain⟨bE,aQ,p2,ap,f2,_⟩:=cP 2 xaa;have HE:V _:=λm=>oM _ v bm.o _ _ _ _ _ _ (bG.keep (eK 0 0 _ m)) (f1.keep (eK 0 0 _ m)) (f2.keep (eK 0 0 _ m)) (km (bo.o k _));obtain⟨us,ax,bV⟩:=AR.keep az.o r.o;have bF:V _:=bV;have bH:V _:=Kept.trans bR.o r.o;have cM:=bH.o.size;subst cq;have ci:=cQ;clear cP cQ bG f1 f2 bV aU HO az;go_wp2_with fail;have aq:V (NC _ _ _ v _ _ _):=⟨aT,ao,aG,Q,cf,bv,cy,bA,ap⟩
  have g:V (a7.heap.size<=ab/\ab<wr.heap.size/\ag.heap.size<wr.heap.size/\ag.heap.size<=ab):=⟨ci,bl,hN r.o.size aD.o,hM aD.o⟩
  go_region_held3 (λI=>I.cell? ⟨ag.heap.size,0,none⟩=some (hD v.op)/\I.cell? ⟨ag.heap.size,0+1,none⟩=some (hD v.len)/\I.cell? ⟨ag.heap.size,0+2,none⟩=some (hD v.a)/\I.cell? ⟨ag.heap.size,0+3,none⟩=some (hD v.b)/\I.cell? ⟨ag.heap.size,0+4,none⟩=some (hD v.c)/\I.cell? ⟨ag.heap.size,0+5,none⟩=some (.float .f64 v.k)/\I.cell? ⟨ab,0,none⟩=some (.slice bI bb a8)/\I.cell? ⟨ab,1,none⟩=some (.slice bB aM aV)/\I.cell? ⟨ab,2,none⟩=some (.slice bE aQ p2)) (go_keep)
   (first
    |(go_at_call 50;refine yaj (HE.o _) ?_;rintro e br ⟨u,rfl,⟨cj,cJ,c5,cU,rfl,cB,b0,et⟩,bS⟩;have cz:=NC.keep aq.o (Kept.trans (eK 0 0 _ 1) bS) g.o.2.2.1 g.o.2.1;obtain⟨b9,bK,cr,c7,cN,cT,cV,cX,c6⟩:=cz)
    |(refine step_append_lies _ rfl _ _ _ rfl _ 48 _ _ 1 _ underlying31 hi a6 b8 b5 rfl xab _ _ _ (by simp[Act.eval]) ((kN ax (Kept.trans (eK 0 0 _ 1) bS)).alloc _) _ 1 1 _ (by simp[Act.eval]) rfl (cell_one_new _ _ _) (by intro u aH;simp at aH;subst aH;rfl) xab (by unfold maxLen;omega) xaa (by have:=bS.size;simp at this;simp;omega) _ rfl ?_;intro g9 cap9 bg bQ a0 cd _;have bJ:=NC.far (NC.keep aq.o ((Kept.trans (eK 0 0 _ 1) bS).trans (ez 0 0 _ _)) g.o.2.2.1 g.o.2.1) a0 b2.o yad g.o.2.2.2 (by have:=bS.size;have:=g.o;simp at*;omega) (by have:=bS.size;have:=g.o;simp at*;omega);obtain⟨aJ,b1,ce,a9,cA,c8,cC,cF,cH⟩:=bJ))
  have aR:=Kept.trans (eK 0 0 _ 1) bS
  have R1:V (AR bg _ _ _ _):=
   AR.step (kN ax aR) (pI bF.o aR) (Cn.cl ⟨_,_,_,_,rfl,cB,b0,et⟩) (λae p aK c=>by
    have B:=(jQ ax c).2
    have J:=Cn.ge ⟨_,_,_,_,rfl,cB,b0,et⟩ ae p aK
    have h3:(wr.drewN 1).heap.size=wr.heap.size:=rfl
    omega) bQ a0 (by rcases cd with h|h;exact .inl h;exact .inr h) (λj hj=>iX _ _ hj) (by rw[U.o];exact uI (iB _ _ _))
  have R2:V _:=i9 a0 (λi hi=>(jQ ax hi).1) ((Kept.trans bH.o aR).trans (ez 0 0 _ _)) yad;clear bQ a0 cd ax bF HE bH aq g bS aR cB b0 et aJ b1 ce a9 cA c8 cC cF cH b9 bK cr c7 cN cT cV cX c6 aT ao aG Q cf bv;exact xdm):Zp:=h
open bY in
theorem IQ(w a1 Y a3 b n1 c1 T c2 n3 c3 m cb ins vs outs xss)(f:GS w a1 n1 Y T a3 n3 ins vs outs)(s:SS w b m xss)(an:iT xss)(h:(List.range T).all (okV ins vs)=true)(J:inB ins xss=true)(ce:T<=2000):
  Calls prog 20 #[eV a1 n1 c1 Y T c2 a3 n3 c3,.slice b m cb] w λe I=>∃a cap z,e=.returned (.slice a T cap)/\SS I a T z/\(∀j,j<T->fO (z.getD j []) ((eX xss vs T).getD j []))/\Kept 0 0 w I:=by
 obtain⟨b3,hi,a6,b8,b5⟩:=info_parts zi;have e1:=f.i.len;have e2:=f.v.len;have bL:V _:=h
 have bo:V _:=j9 an (λk=>by
  rw[yai]
  cases cG:vs[k]? with
  |none=>decide
  |some v=>exact f.v.lt v (List.mem_of_getElem? cG))
 have bW:V (∀i,i<n1->((xss.getD i _).length:Int)=ins.getD i 0):=λi hi=>by
  have:=J
  unfold inB at this
  simp only[Bool.and_eq_true,e1]at this
  simpa using List.all_eq_true.1 this.2 i (List.mem_range.2 hi)
 have aa:V (m=n1):=by
  exact xhi
 have aw:=ez 0 0 w (eW a1 n1 c1 Y T c2 a3 n3 c3);exact qcd
theorem dC.qes(h:Zp:=by
 have B:V _:=an;have P:V _:=m4 J _ aD;have aw:=ez 0 0 w (eW a1 n1 c1 Y T c2 a3 n3 c3);have bn:V _:=vG _ _ _ _ _ c1 _ c2 _ c3 _ _ _ (f.keep aw);rw[h]at bn;have aA:V _:=ft w (.slice a1 n1 c1) (.slice Y T c2) (.slice a3 n3 c3);have aI:V _:=f.keep aw;have au:V _:=s.keep aw;have HK:V _:=aw;clear aw h f s al aD an;go_enter func6,ntmps6;go_wp2_with fail;generalize w.alloc _=aO at bn aA aI au HK⊢;refine yaj bn.o ?_;rintro e ag ⟨rfl,ah⟩;obtain⟨_,bd,aL,aJ⟩:=G0.keep aA.o ah;have bO:V _:=Om _ _ _ _ b _ m c1 cb _ _ (GS.keep aI.o ah).i (SS.keep au.o ah) xaa;exact qgv):Zp:=h
theorem dC.qgw(h:Zp:=by
 obtain⟨_,bd,aL,aJ⟩:=G0.keep aA.o aF;have b7:V _:=IQ _ _ _ _ b _ c1 _ c2 _ c3 m cb _ _ _ _ (GS.keep aI.o aF) (SS.keep au.o aF) B.o bL.o J ce;have bR:V _:=aF;clear d3 aF bO bD;go_wp2_with fail;clear bd aL aJ;refine yaj b7.o ?_;rintro e bj ⟨cn,co,z,rfl,(aa:V _),(N:V _),ca⟩;have b0:V _:=Kept.trans bR.o ca;clear b7 bR ca;go_wp2_with fail;go_loopw [7,8] (λu i W=>∃k:Nat,k<=n3/\i=hD k/\V (AR W bj.heap.size u k (outs.map λo=>(eX xss vs T).getD o.toNat []))/\V (Kept 0 0 bj W)) (λ_ i _=>n3-(intOf i).toNat)
 case atStart=>exact⟨0,yae,rfl,AR.nil _ _ _,Kept.refl _ _ _⟩
 case round=>
  obtain⟨j,hj,rfl,hP,aw⟩:=hrel;have aJ:=(G0.keep aA.o (Kept.trans b0.o aw.o)).q2;by_cases aC:j<n3
  ·rcases (GS.keep aI.o (Kept.trans b0.o aw.o)).o.at_ with bC|⟨bw,bh,b4,aN,a2,bk,bq⟩
   ·omega
   have c1:=bq j aC;have g:=List.all_eq_true.1 HO.o (outs.getD j 0) (Aj xaa);have t:=of_decide_eq_true g;have bX:=re outs (eX xss vs T) (j:=j) xaa;obtain⟨o,al⟩:∃o:Nat,outs.getD j 0=o:=⟨(outs.getD j 0).toNat,by omega⟩
   rw[al,Int.toNat_natCast]at bX;rw[al]at c1 t;have H:V _:=bX;have C:o<T:=xaa;rcases (SS.keep aa.o aw.o).at_ with bC|⟨aY,aP,ch,aM,aQ⟩
   ·omega
   obtain⟨O,l,bA,ap,bM⟩:=aQ o C;have y:=N.o o C
   have b9:1<=(z.getD o []).length/\(z.getD o []).length<=1000:=by
    have ao:=iZ y;exact xhz
   have x:V _:=y;rcases bM.at_ with bC|⟨cg,bz,ak,bB,bE,b6,ct⟩
   ·omega
   have bc:V _:=IP _ _ _ _ l _ b9.1 xaa rfl bM.lt ct;obtain⟨us,aZ,ba⟩:=hP.o;have F:V _:=ba;subst b4 ch ak;clear aN a2 bk bq aM aQ ap bM bB bE b6 ct bX g t hP al y ba;generalize z.getD o _=bT at bA bc x b9;obtain⟨S,ai⟩:∃S,S=bT.length:=⟨_,rfl⟩
   rw[<-ai]at bA bc b9;clear ai;go_wp2_with fail;refine yaj bc.o ?_;rintro e br ⟨G,cap,rfl,aS,ck,cl,bU⟩;have X:=kN aZ bU;have bx:=(Kept.trans aw.o bU).size;clear bc bA aJ c1;go_wp2_with (first|(at_builtin;refine wpList_append_lies _ rfl _ _ _ rfl _ 48 _ _ 1 _ underlying31 hi a6 b8 b5 rfl xab _ _ _ rfl (X.alloc _) _ 1 1 [hC G S cap] rfl rfl ?c1 ?c2 xab ?c3 ?c4 ?c5 _ rfl ?_))
   case c1=>exact cell_one_new _ _ _
   case c2=>intro u aH;simp at aH;subst aH;rfl
   case c3=>unfold maxLen;omega
   case c4=>omega
   case c5=>simp;omega
   intro g9 cap9 bg bQ a0 cd _
   have R1:V (AR bg _ _ _ _):=
    AR.step X (pI F.o bU) ⟨_,_,_,_,rfl,aS,ck.fs,x.o⟩ (λ_ p aK c=>by
     cases aK
     have:=(jQ aZ (k:=G) c).2
     omega) bQ a0 (by rcases cd with h|h;exact .inl h;exact .inr (by rw[h];simp)) (λ_ _=>rfl) H.o
   have R2:V _:=i9 a0 (λi hi=>(jQ X hi).1) ((Kept.trans aw.o bU).trans (ez 0 0 _ _)) yad;clear bQ a0 cd aZ X bU ck F aw;go_wp2;go_roundw;exact⟨j+1,by omega,by go_num,R1,R2⟩;simp[intOf];omega
  obtain rfl:j=n3:=xaa;obtain⟨a,cap,r,rfl,ay,aW⟩:=AR.ss hP.o;have R1:V _:=ay
  have R2:V (∀i,i<j->fO _ ((eX _ _ _).getD (outs.getD i 0).toNat _)):=λi hi=>by
   rw[<-re _ _ xaa]
   exact aW i hi
  have R3:V _:=Kept.trans HK.o (Kept.trans b0.o aw.o);clear ay aW hP aw;go_wp2;go_ret2
  exact⟨a,_,_,rfl,R1.o,R2.o,R3.o⟩):Zp:=h
open dC in
theorem Ak(w a1 Y a3 b n1 c1 T c2 n3 c3 m cb ins vs outs xss)(f:GS w a1 n1 Y T a3 n3 ins vs outs)(s:SS w b m xss)(an:iT xss)(h:okG ins vs outs=true)(J:inB ins xss=true):
  Calls prog 6 #[eV a1 n1 c1 Y T c2 a3 n3 c3,.slice b m cb] w λe I=>∃a cap z,e=.returned (.tuple #[.slice a n3 cap,hD 0])/\SS I a n3 z/\(∀j,j<n3->fO (z.getD j []) ((eX xss vs T).getD (outs.getD j 0).toNat []))/\Kept 0 0 w I:=by
 obtain⟨b3,hi,a6,b8,b5⟩:=info_parts zi;exact qer
def ES(ins:List Int):Nat->Nat
 |0=>0
 |j+1=>ES ins j+(ins.getD j 0).toNat
def inW(ys:List Int)(p:Nat):Nat:=
 if lR ys p%16=9 then cop .quo (floatOfInt .f64 ((lR ys p:Int)%7-3)) 4613937818241073152
 else if lR ys p=250 then cop .quo 4607182418800017408 0
 else if lR ys p=251 then cop .quo 0 0
 else if lR ys p=252 then Op.negFloat .f64 0
 else if lR ys p=253 then cop .mul 9214871658872686752 (floatOfInt .f64 ((lR ys p:Int)%7-3))
 else floatOfInt .f64 ((lR ys p:Int)%7-3)
def Al(ys:List Int)(q n:Nat):List Nat:=(List.range n).map λk=>inW ys (q+k)
def inN(ys ins:List Int):List (List Nat):=(List.range ins.length).map λj=>Al ys (ES ins j) (ins.getD j 0).toNat
theorem ET(bT q n):Al bT q (n+1)=Al bT q n++[inW bT (q+n)]:=by
 unfold Al;rw[List.range_succ,List.map_append];rfl
theorem CF(bT)(h:j<ins.length):(inN bT ins).getD j []=Al bT (ES ins j) (ins.getD j 0).toNat:=by
 unfold inN;exact mw _ h
theorem EU{xs x y}(h:fO xs bT)(e:fb x=fb y):fO (xs++[x]) (bT++[y]):=by
 unfold fO at*;simp[h,e]
theorem SS.words(f:SS w a n xss):iT xss:=λk x ak=>by
 by_cases c:k<n
 ·rcases f.at_ with z|⟨g,off,_,_,h⟩
  ·omega
  ·obtain⟨b,c,_,_,S⟩:=h k c
   exact S.lt x ak
 ·rw[yai,List.getElem?_eq_none (hR f.len)]at ak
  cases ak
theorem IT{ai z bC bl B U R'}(h:w.ownsRow R bl 1 v n (B.map (Value.float .f64)++[.float .f64 z]))(ar:fO B U/\B.length=ai/\∀x∈B,x<18446744073709551616)(C:R'=U++[bC])(e:fb z=fb bC)(bi:z<18446744073709551616):
  ∃r:List Nat,w.ownsRow R bl 1 v n (r.map (Value.float .f64))/\fO r R'/\r.length=ai+1/\∀x∈r,x<18446744073709551616:=by
 refine⟨B++[z],by rw[List.map_append];exact h,by rw[C];exact EU ar.1 e,by rw[yal,ar.2.1];rfl,λx ak=>?_⟩;rcases List.mem_append.1 ak with c|c
 ·exact ar.2.2 x c
 rw[List.mem_singleton.1 c];exact bi
theorem Lv{lo X b bd af cm bT}(f:IS w lo X a n ins)(bX:YS w b af bT)(aq:af<=1048576)(hn:n<=21)(ab:∀j,j<n->1<=ins.getD j 0/\ins.getD j 0<=1000):
  Calls prog 7 #[.slice a n bd,.slice b af cm,.bool true] w λe I=>∃ag cap z,e=.returned (.slice ag n cap)/\SS I ag n z/\(∀j,j<n->fO (z.getD j []) ((inN bT ins).getD j []))/\Kept 0 0 w I:=by
 obtain⟨b3,hi,a6,b8,b5⟩:=info_parts zi;obtain⟨cB,ae,ah,aj,an⟩:=info_parts yq;have aI:V _:=f;have bO:V _:=bX;have HL:V _:=ab;have bu:V _:=f.len;have f1:=@kK prog;have f2:=@mg prog;have f3:=qQ;clear f bX ab;go_enter func7,ntmps7;go_wp2_with fail;go_loopw [8,9,10] (λu p i W=>∃k q:Nat,k<=n/\q<=1000*k/\i=hD k/\p=hD q/\V (q=ES ins k)/\V (AR W w.heap.size u k (inN bT ins))/\V (Kept 0 0 w W)) (λ_ _ i _=>n-(intOf i).toNat)
 case atStart=>exact⟨0,0,yae,yae,rfl,rfl,rfl,AR.nil _ _ _,Kept.refl _ _ _⟩
 case round=>
  obtain⟨az,Q⟩:∃az,az=wr:=⟨_,rfl⟩
  subst Q;obtain⟨k,q,N,am,rfl,rfl,ad,aU,aw⟩:=hrel;by_cases aC:k<n
  ·rcases (aI.o.keep aw.o yaa).at_ with bC|⟨g,off,b4,aN,a2,bk,bq⟩
   ·omega
   cases b4;have cx:=HL.o k aC;obtain⟨m,S⟩:∃m:Nat,ins.getD k 0=m:=⟨(ins.getD k 0).toNat,by omega⟩
   have s:V ((inN bT ins).getD k []=Al bT q m):=by
    show _=_;rw[CF _ (hO bu.o aC),S,ad.o];rfl
   have eb:V (ES ins (k+1)=q+m):=by show ES ins k+_=_;rw[S,ad.o];rfl
   have av:V (az.cell? ⟨g,off+k,none⟩=some (hD m)/\g<az.heap.size):=⟨by rw[<-S];exact bq k aC,bk⟩
   rw[S]at cx;have aX:m<=1000:=xaa;have C:V (1<=m):=by show 1<=m;omega
   obtain⟨us,(aB:V _),(F:V _)⟩:=aU.o;clear aN a2 bk bq cx S aU;have cb:=av.o.1;go_wp2_with fail;clear cb;go_loopw [9,11,12] (λp v j W=>∃(ai:Nat) (B:List Nat),ai<=m/\p=hD ((q:Int)+ai)/\j=hD ai/\V (W.ownsRow az.heap.size 50 1 v ai (B.map (Value.float .f64)))/\V (fO B (Al bT q ai)/\B.length=ai/\∀x∈B,x<18446744073709551616)/\V (Kept 0 0 az W)) (λ_ _ j _=>m-(intOf j).toNat)
   case atStart=>exact⟨0,[],yae,by simp,rfl,yaw _ _ _ _,⟨rfl,rfl,λx ak=>by cases ak⟩,Kept.refl _ _ _⟩
   case round=>
    obtain⟨ai,B,K,rfl,rfl,al,Y,P⟩:=hrel;have aA:=P.o.cell (p:=⟨g,off+k,none⟩) av.o.2 (by show ¬(0<=g/\g<0);omega);rw[av.o.1]at aA;by_cases cz:ai<m
    ·have b1:V (Calls _ _ #[.slice b _ cm,.int _ (q+ai)] _ λe I=>e=.returned _/\wr=I):=(PC (bO.o.keep (aw.o.trans P.o)) aq _).mono λ_ _ h=>⟨h.1,h.2.symm⟩
     have J:=IN bO.o (q+ai);have au:V _:=ET bT q ai;obtain⟨bC,bi⟩:∃bC,inW bT (q+ai)=bC:=⟨_,rfl⟩
     rw[bi]at au;unfold inW at bi;have l:V _:=bi.symm;clear bi;generalize lR bT _=t at b1 J l;have aZ:=al.o;have ci:=P.o.size;clear al;rcases (by omega:t%16=9\/t=250\/t=251\/t=252\/t=253\/(t%16≠9/\t≠250/\t≠251/\t≠252/\t≠253)) with c|c|c|c|c|c
     case' inl=>have bo:V _:=l.o;rw[hG c]at bo
     case' inr.inl=>have bo:V _:=l.o;rw[hF xaa,hG c]at bo
     case' inr.inr.inl=>have bo:V _:=l.o;rw[hF xaa,hF xaa,hG c]at bo
     case' inr.inr.inr.inl=>have bo:V _:=l.o;rw[hF xaa,hF xaa,hF xaa,hG c]at bo
     case' inr.inr.inr.inr.inl=>have bo:V _:=l.o;rw[hF xaa,hF xaa,hF xaa,hF xaa,hG c]at bo
     case' inr.inr.inr.inr.inr=>have bo:V _:=l.o;rw[hF xaa,hF xaa,hF xaa,hF xaa,hF xaa]at bo;obtain⟨c,c2,c3,c4,c5⟩:=c
     all_goals
      clear l
      go_wp2_with (first
       |(go_at_call 22;refine yaj b1.o ?_;rintro _ _ ⟨rfl,rfl⟩)
       |(at_builtin;refine wpList_append_lies _ rfl _ _ 48 rfl az.heap.size 50 cB (.float .f64 0) 1 8 underlying48 ae ah aj an rfl xab _ _ (B.map (Value.float .f64)) rfl ((kN aZ (eK 0 0 _ _)).alloc _) ⟨wr.heap.size,0,none⟩ 1 1 [.float .f64 ?_] rfl rfl ?c1 ?c2 xab ?c3 ?c4 ?c5 _ rfl ?_)
       |(at_builtin;refine wpList_append_lies _ rfl _ _ 48 rfl az.heap.size 50 cB (.float .f64 0) 1 8 underlying48 ae ah aj an rfl xab _ _ (B.map (Value.float .f64)) rfl (aZ.alloc _) ⟨wr.heap.size,0,none⟩ 1 1 [.float .f64 ?_] rfl rfl ?c1 ?c2 xab ?c3 ?c4 ?c5 _ rfl ?_))
      case c1=>exact cell_one_new _ _ _
      case c2=>intro u aH;simp at aH;subst aH;rfl
      case c3=>unfold maxLen;omega
      case c4=>omega
      case c5=>simp;omega
      intro g9 cap9 bg bQ a0 cd _
      obtain⟨r,(R1:V _),(R3:V _)⟩:=IT bQ Y.o au.o (by have bp:=congrArg fb bo.o.symm;first|exact bp|exact(gu _ _ _ _).trans bp|(subst c;exact(gu _ _ _ _).trans bp)) (by first|exact gN _ _ _ _|exact qR _|exact xu xab)
      have R2:V _:=i9 a0 (λi hi=>(jQ aZ hi).1) (by first|exact P.o.trans (ez 0 0 _ _)|exact(P.o.trans (ez 0 0 _ _)).trans (eK 0 0 _ _)) yad
      clear bQ a0 cd aZ b1 P bo au
      go_wp2
      go_roundw;exact⟨ai+1,r,by omega,by go_num,by go_num,R1,R3,R2⟩;simp[intOf];omega
    obtain rfl:ai=m:=xaa;have aZ:=al.o;obtain⟨(ap:V _),H,aO⟩:=Y.o;obtain⟨G,cap,rfl,O,ax,Z⟩:=FO.of_own aZ (hM C.o) H aO;clear H aO Y;have T:=kN aB.o P.o;have ci:=(aw.o.trans P.o).size;have aa:V _:=Z;clear al aZ;go_wp2_with (first|(at_builtin;refine wpList_append_lies _ rfl _ _ _ rfl _ 48 _ _ 1 _ underlying31 hi a6 b8 b5 rfl xab _ _ _ rfl (T.alloc _) _ 1 1 [hC G ai cap] rfl rfl ?c1 ?c2 xab ?c3 ?c4 ?c5 _ rfl ?_))
    case c1=>exact cell_one_new _ _ _
    case c2=>intro u aH;simp at aH;subst aH;rfl
    case c3=>unfold maxLen;omega
    case c4=>omega
    case c5=>simp;omega
    intro g9 cap9 bg bQ a0 cd _
    have R1:V (AR bg _ _ _ _):=
     AR.step T (pI F.o P.o) ⟨_,_,_,_,rfl,ax,aa.o.fs,ap.o⟩ (λ_ p aK c=>by
      cases aK
      have:=(jQ aB.o (k:=G) c).2
      omega) bQ a0 (by rcases cd with h|h;exact .inl h;exact .inr (by rw[h];simp)) (λj hj=>rfl) s.o
    have R2:V _:=i9 a0 (λi hi=>(jQ T hi).1) ((aw.o.trans P.o).trans (ez 0 0 _ _)) yad;clear bQ a0 cd T P F aB aw O ax Z aa;go_wp2;go_roundw;exact⟨k+1,q+ai,by omega,by omega,by go_num,by go_num,eb.o.symm,R1,R2⟩;simp[intOf];omega
  obtain rfl:k=n:=xaa;obtain⟨ag,cap,z,rfl,(U:V _),(R3:V _)⟩:=aU.o.ss;clear aU;go_wp2;go_ret;exact⟨_,_,_,rfl,U.o,R3.o,aw.o⟩
end
section
theorem W0n(s){r}(ae:0<r)(h:r<=9218868437227405312):(FloatKind.f64.format.order (W s r) 0==some .eq)=false:=by
 rw[show FloatKind.f64.format.order _ 0=_ from oh ae h];cases s<;>rfl
theorem IU(x y w)(ak:x<18446744073709551616)(bX:y<18446744073709551616):
  Calls prog 61 #[.float .f64 x,.float .f64 y] w λe I=>e=.returned (.bool ((fb x:Int)==(fb y:Int)))/\I=w:=by
 obtain⟨s,r,av,rfl⟩:=jl x ak;obtain⟨t,q,am,rfl⟩:=jl y bX;clear ak bX;by_cases B:r<=9218868437227405312
 ·have n1:=mE (s:=s) B;by_cases J:q<=9218868437227405312
  ·have T:=mE (s:=t) J;rw[om B,om J,LT av am];by_cases bi:r=0/\q=0
   ·obtain⟨rfl,rfl⟩:=bi;have a1:FloatKind.f64.format.order (W s 0) 0=some _:=lC;have Y:FloatKind.f64.format.order (W t 0) 0=some _:=lC;have O:=λw=>run_float_arith (P:=prog) w .quo 50 .f64 _ (W s 0) _ mR;have ax:=λw=>run_float_arith (P:=prog) w .quo 50 .f64 _ (W t 0) _ mR;have c1:FloatKind.f64.format.order (W s 9218868437227405312) 0=some _:=oh xaa xaa;have c2:FloatKind.f64.format.order (W t 9218868437227405312) 0=some _:=oh xaa xaa;cases s<;>cases t
    all_goals
     go_enter func61,ntmps61
     go_wp2
     go_ret
     exact⟨rfl,rfl⟩
   have ar:(FloatKind.f64.format.order (W s r) (W t q)==some _)=_:=s7 B J
   rw[show decide _=decide (r=q/\s=t) by
    rw[Bool.eq_iff_iff];simp only[decide_eq_true_eq];constructor
    ·rintro⟨a,b|b⟩
     ·exact⟨a,b⟩
     exact absurd ⟨b,by omega⟩ bi
    rintro⟨a,b⟩;exact⟨a,.inl b⟩]at ar
   generalize decide (r=q/\s=t)=D at ar⊢;by_cases cD:r=0
   ·have d4:0<q:=xaa;subst cD;have a1:FloatKind.f64.format.order (W s 0) 0=some _:=lC;have Y:=W0n t d4 J;exact xiv
   have a1:=W0n s (by omega:0<r) B;exact xiv
  have T:=ng (s:=t) (by omega:9218868437227405312<q) am;rw[om B,nh xaa am,show(((9221120237041090560:Nat)):Int)=9221120237041090560 from rfl,(qu B).1];exact xdy
 have n1:=ng (s:=s) (by omega:9218868437227405312<r) av;by_cases J:q<=9218868437227405312
 ·have T:=mE (s:=t) J;rw[om J,nh xaa av,show(((9221120237041090560:Nat)):Int)=9221120237041090560 from rfl,(qu J).2];exact xdy
 have T:=ng (s:=t) (by omega:9218868437227405312<q) am;rw[nh xaa av,nh xaa am,show(((9221120237041090560:Nat):Int)==(9221120237041090560:Nat))=true from beq_self_eq_true _];exact xdy
end
section
attribute[local go_sem] eG eE eD
theorem wi(w a b n c d xs)(Q:IS w 0 w.heap.size a n xs)(fb:IS w 0 w.heap.size b n xs)(hn:n<=1000000):
  Calls prog 27 #[.slice a n c,.slice b n d] w λe I=>e=.returned (.bool true)/\Kept 0 0 w I:=by
 have aa:V _:=Q;have aA:V _:=fb;clear Q fb;go_enter func27,ntmps27;go_wp2_with fail;go_loopw [5] (λi W=>∃k:Nat,k<=n/\i=hD k/\V (Kept 0 0 w W)) (λi _=>n-(intOf i).toNat)
 case atStart=>exact⟨0,yae,rfl,Kept.refl _ _ _⟩
 case round=>
  obtain⟨k,N,rfl,aw⟩:=hrel;by_cases aC:k<n
  ·obtain⟨g,off,m,rfl,em,_,_,bd⟩:=(IS.keep aa.o aw.o yaa).at_idx (o:=k) xaa xaa;obtain⟨aB,F,h,rfl,f,_,_,cb⟩:=(IS.keep aA.o aw.o yaa).at_idx (o:=k) xaa xaa;obtain rfl:k=m:=xaa;obtain rfl:k=h:=xaa;generalize xs.getD _ 0=x at bd cb;clear em f;go_wp2_with fail;go_region
   all_goals
    go_wp2
    go_roundw;exact⟨k+1,by omega,by go_num,Kept.drew aw.o⟩;simp[intOf];omega
  exact xgq
theorem EV(w a b n c d xs bT)(Q:FS w 0 w.heap.size a n xs)(bk:FS w 0 w.heap.size b n bT)(ar:fO xs bT)(hn:n<=1000000):
  Calls prog 32 #[.slice a n c,.slice b n d] w λe I=>e=.returned (.bool true)/\Kept 0 0 w I:=by
 have aa:V _:=Q;have aA:V _:=bk;have au:V _:=ar;clear Q bk ar;go_enter func32,ntmps32;go_wp2_with fail;go_loopw [5] (λi W=>∃k:Nat,k<=n/\i=hD k/\V (Kept 0 0 w W)) (λi _=>n-(intOf i).toNat)
 case atStart=>exact⟨0,yae,rfl,Kept.refl _ _ _⟩
 case round=>
  obtain⟨k,N,rfl,aw⟩:=hrel;by_cases aC:k<n
  ·rcases (FS.keep0 aa.o aw.o).at_ with z|⟨g,off,rfl,_,_,_,a0⟩
   ·omega
   rcases (FS.keep0 aA.o aw.o).at_ with z|⟨aB,F,rfl,_,_,_,h⟩
   ·omega
   have bd:=a0 k aC;have cb:=h k aC
   have aI:V _:=λW=>by
    have:=IU (xs.getD k 0) (bT.getD k 0) W (fR aa.o.lt k) (fR aA.o.lt k)
    rw[gD au.o k,beq_self_eq_true]at this
    exact this
   generalize xs.getD k 0=x at bd aI;generalize bT.getD k 0=y at cb aI;clear a0 h;go_wp2_with fail;go_region_with (go_at_call 61;refine yaj (aI.o _) ?_;rintro e br ⟨rfl,rfl⟩)
   all_goals
    go_wp2
    go_roundw;exact⟨k+1,by omega,by go_num,Kept.drew aw.o⟩;simp[intOf];omega
  exact xgq
theorem BA(w a b n c d xss r)(Q:SS w a n xss)(bk:SS w b n r)(ar:∀k,k<n->fO (xss.getD k []) (r.getD k [])/\(xss.getD k []).length<=1000000)(hn:n<=1000000):
  Calls prog 12 #[.slice a n c,.slice b n d] w λe I=>e=.returned (.bool true)/\Kept 0 0 w I:=by
 have aa:V _:=Q;have aA:V _:=bk;have au:V _:=ar;clear Q bk ar;go_enter func12,ntmps12;go_wp2_with fail;go_loopw [5] (λi W=>∃k:Nat,k<=n/\i=hD k/\V (Kept 0 0 w W)) (λi _=>n-(intOf i).toNat)
 case atStart=>exact⟨0,yae,rfl,Kept.refl _ _ _⟩
 case round=>
  obtain⟨k,N,rfl,aw⟩:=hrel;by_cases aC:k<n
  ·rcases (SS.keep aa.o aw.o).at_ with z|⟨g,off,rfl,_,a0⟩
   ·omega
   rcases (SS.keep aA.o aw.o).at_ with z|⟨aB,F,rfl,_,h⟩
   ·omega
   obtain⟨p,q,bd,_,Q⟩:=a0 k aC;obtain⟨f,j,cb,_,bk⟩:=h k aC;obtain⟨ar,ab⟩:=au.o k aC;rw[<-iZ ar]at cb bk;have aI:V _:=λW l=>EV W p _ _ q j _ _ (FS.keep0 Q l) (FS.keep0 bk l) ar ab;generalize (xss.getD k _).length=m at bd cb aI;clear a0 h Q bk ar ab;go_wp2_with fail;go_region_with (go_at_call 32;refine yaj (aI.o _ (eF _)) ?_;rintro e br ⟨rfl,bS⟩;replace aw:V _:=aw.o.trans ((eF _).trans bS);clear bS)
   all_goals
    go_wp2
    go_roundw;exact⟨k+1,by omega,by go_num,by first|exact aw|exact Kept.drew aw.o⟩;simp[intOf];omega
  exact xgq
