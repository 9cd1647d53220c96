import Derived.Test.YtcjhlkdleojbjaaGreatP39
import Derived.Test.YtcjhlkdleojbjaaGreatP27
import Derived.Test.YtcjhlkdleojbjaaGreatP41
namespace Go.Proofs.Z
variable{Zp:Prop}
open Tryz Go.RowKit Flt
set_option maxRecDepth 1000000
set_option maxHeartbeats 0
section
variable{f P J n g9 n9 cap9:Nat}{K:Type}{bj:World}{u1 u2 u3 u4:Value}{st:LSt}{bs:List Bc}{zs:List Int}
theorem Fg{u k x a d r}(h:eM (f+1) st u (.jvp k a x d)=some r):∃ay a0,r=OT k (fx st u x) ay a0/\(∀v,fx st u x=.ok v->eM f st u a=some ay)/\(∀v,fx st u x=.ok v->∀s y,ay=.ok (s,y)->eM f s u d=some a0):=by
 rw[eM]at h;cases aO:fx st u x with
 |error q=>rw[aO]at h;cases h;exact⟨.error q,.error q,rfl,λv e=>(by cases e),λv e=>(by cases e)⟩
 |ok v=>
  rw[aO]at h;simp only at h;cases F:eM f st u a with
  |none=>rw[F]at h;cases h
  |some ay=>
   rw[F]at h;rcases ay with⟨c,p⟩|⟨ax,y⟩
   ·cases h;exact⟨_,.error (c,p),rfl,λ_ _=>rfl,λ_ _ s y e=>by cases e⟩
   simp only[jp]at h;cases N:eM f ax u d with
   |none=>grind
   |some a0=>
    rw[N]at h;refine⟨.ok (ax,y),a0,?_,λ_ _=>rfl,λ_ _ s R e=>(by cases e;exact N)⟩;rcases a0 with⟨c,p⟩|⟨aU,z⟩<;>(cases h;rfl)
section
variable{f:Nat}{W:World}{P J:Nat}{u1 u2 u3 u4:Value}{bs:List Bc}{st:LSt}{aT:Option Addr}{Q cL:Nat}{u:Loc}{g off m cap:Nat}{ts us:List Tok}{a b:Ex}{r:Rs (LSt×Nat)}
theorem bX.qcr(h:Zp:=by
 have b5:=je ar (λt ht=>Y.ti t (by simp[ht])) a xac;have bY:=je hb (λt ht=>Y.ti t (by simp[ht])) b xac;have d0:=tD (by rw[ad];decide) (by rw[ad];decide) (by rw[ad];decide);have y:=A3 R ah d0 aK B
 have aB:ts++c::([n]++d::us)=((k::l::(ts++c::n::d::(us++[q]))).drop 2).take (m-1-2):=by
  rw[List.drop_succ_cons,List.drop_succ_cons,List.drop_zero,show ts++c::n::d::(us++[q])=(ts++c::([n]++d::us))++[q] by simp,List.take_append_of_le_length yag,yap yag]
 have aX:∀x:List UInt8,x≠J0->(k.sym==x)=false:=λx F=>by
  rw[beq_eq_false_iff_ne]
  rintro rfl
  exact F O
 refine kO Y (Pr.jvp O af ar ah ad aK hb ap) (aX _ xab) (aX _ xab) (aX _ xab) (aX _ xab) (aX _ xab) xaa (ts++c::([n]++d::us)) aB (by rw[oY (X:=[ts,[n]]) (y:=us) xac y _ yag];exact bL) _ (λI bf bB aj aW=>?_);exact qdw):Zp:=h
theorem bX.qdx(h:Zp:=by
 obtain⟨bT,j,N,H,Z⟩:=aS 2 xac
 have HC:(∃v,fx st u n=.ok v)->∀ab,Kept 0 0 I ab->_:=λao ab ak=>
  al ab P J u1 u2 u3 u4 bs st aT Q cL u g o ts.length c0 ts (Y.seg (Y.ws.keep (aj.trans ak)) (Gw.refl Y.gd) (Mv.of (aj.trans ak)) (c2.keep ak) xaa c3 (λt ht=>by simp[ht])) 2 a ar yad ay (ao.elim ae)
 have bg:(∃v,fx st u n=.ok v)->_:=λao=>gn f st u a Y.gd Y.nm Y.lo b5 ay (ao.elim ae)
 have ba:(∃v,fx st u n=.ok v)->∀s x,ay=.ok (s,x)->RsG s a0:=λao s x e=>by
  obtain⟨w,_⟩:=bg ao s x e
  obtain⟨v,aO⟩:=ao
  exact gn f s u b w.g (Y.nm.gw w) (Y.lo.le w.n) bY a0 (a9 v aO s x e)
 have bW:(∃v,fx st u n=.ok v)->∀s x,ay=.ok (s,x)->∀ab aQ a8 bi bk,WS ab P J aQ a8 bi bk bs s->Mv (Mst P u1 u2 u3 u4) I (Mst P aQ a8 bi bk) ab->Calls prog 101 #[hy P,.slice aT Q cL,.slice (some ⟨g,bT,none⟩) us.length j] ab (TrO ab P J aQ a8 bi bk bs a0):=λao s x e ab aQ a8 bi bk X bx=>by
  obtain⟨w,_⟩:=bg ao s x e
  obtain⟨v,aO⟩:=ao
  exact al ab P J aQ a8 bi bk bs s aT Q cL u g bT us.length j us (Y.seg X w ((Mv.of aj).trans bx) (H.keepC bx.chg Y.tg) xaa Z (λt ht=>by simp[ht])) 2 b hb yad a0 (a9 v aO s x e)
 obtain⟨aa,S,C⟩:=k;simp only at O;subst O;exact Fc (Y.ws.keep aj) Y.gd.m (Y.lc.keep aj) Y.ln S C n xac bO (Y.ws.far2 aq) c1 ⟨bO,ai,p⟩ N ay a0 bg (λv aO=>oG Y.nm Y.lo aO) ba HC bW):Zp:=h
open bX in
theorem I9{k l c n d q}(al:TrC f)(Y:TrIn W P J u1 u2 u3 u4 bs st aT Q u g off m cap (k::l::(ts++c::n::d::(us++[q]))))(O:k.sym=J0)(af:l.sym=[40])(ar:Pr 2 [a] ts)(ah:c.sym=[44])(ad:n.sym=gK)(aK:d.sym=[44])(hb:Pr 2 [b] us)(ap:q.sym=[41])(h:eM (f+1) st u (.jvp k a n b)=some r):
  Calls prog 101 #[hy P,.slice aT Q cL,.slice (some ⟨g,off,none⟩) m cap] W (TrO W P J u1 u2 u3 u4 bs r):=by
 obtain⟨ay,a0,rfl,ae,a9⟩:=Fg h;exact qcq
end
theorem Ja(al:TrC f){es ts}(aM:Pr n es ts):∀e,es=[e]->n<=2->∀(W:World) (P J:Nat) (u1 u2 u3 u4:Value) (bs:List Bc) (st:LSt) (aT:Option Addr) (Q cL:Nat) (u:Loc) (g off m cap:Nat),TrIn W P J u1 u2 u3 u4 bs st aT Q u g off m cap ts->∀r,eM (f+1) st u e=some r->
  Calls prog 101 #[hy P,.slice aT Q cL,.slice (some ⟨g,off,none⟩) m cap] W (TrO W P J u1 u2 u3 u4 bs r):=by
 induction aM with
 |up01 _ G=>intro e aZ ad;exact G e aZ xaa
 |up12 _ G=>intro e aZ ad;exact G e aZ xaa
 |arg1 _ _=>intro e aZ ad;omega
 |argM _ _ _ _ _=>intro e aZ ad;omega
 |add ar ho hb _ _=>intro e aZ ad;cases aZ;intro W P J u1 u2 u3 u4 bs st aT Q cL u g off m cap Y r h;exact If al Y ar ho hb h
 |mul ar ho hb _ _=>intro e aZ ad;cases aZ;intro W P J u1 u2 u3 u4 bs st aT Q cL u g off m cap Y r h;exact Ig al Y ar ho hb h
 |neg ho ar _=>intro e aZ ad;cases aZ;intro W P J u1 u2 u3 u4 bs st aT Q cL u g off m cap Y r h;exact Ih al Y ho ar h
 |num ht=>intro e aZ ad;cases aZ;intro W P J u1 u2 u3 u4 bs st aT Q cL u g off m cap Y r h;exact Im Y ht h
 |name ht=>intro e aZ ad;cases aZ;intro W P J u1 u2 u3 u4 bs st aT Q cL u g off m cap Y r h;exact EE Y ht h
 |par af ar ap G=>intro e aZ ad;cases aZ;intro W P J u1 u2 u3 u4 bs st aT Q cL u g off m cap Y r h;exact Ii Y af ar ap (λI o=>G _ rfl yad _ P J _ _ _ _ _ _ _ _ _ _ g _ _ _ o r h)
 |call0 ht af ap=>intro e aZ ad;cases aZ;intro W P J u1 u2 u3 u4 bs st aT Q cL u g off m cap Y r h;exact BA al Y ht af ap h
 |call ht af ar ap _=>intro e aZ ad;cases aZ;intro W P J u1 u2 u3 u4 bs st aT Q cL u g off m cap Y r h;exact EV al Y ht af ar ap h
 |key1 O af ar ap _=>intro e aZ ad;cases aZ;intro W P J u1 u2 u3 u4 bs st aT Q cL u g off m cap Y r h;exact EH al Y O af ar ap h
 |key2 O af ar ah hb ap _ _=>intro e aZ ad;cases aZ;intro W P J u1 u2 u3 u4 bs st aT Q cL u g off m cap Y r h;exact ES al Y O af ar ah hb ap h
 |key3 O af ar ah hb Z aK ap _ _ _=>intro e aZ ad;cases aZ;intro W P J u1 u2 u3 u4 bs st aT Q cL u g off m cap Y r h;exact ET al Y O af ar ah hb Z aK ap h
 |keyN O af ar ah a7 ap _=>intro e aZ ad;cases aZ;intro W P J u1 u2 u3 u4 bs st aT Q cL u g off m cap Y r h;exact EI al Y O af ar ah a7 ap h
 |put O af ar ah hi Z a7 ap _=>intro e aZ ad;cases aZ;intro W P J u1 u2 u3 u4 bs st aT Q cL u g off m cap Y r h;exact Il al Y O af ar ah hi Z a7 ap h
 |grad O af ar ah an ap _=>intro e aZ ad;cases aZ;intro W P J u1 u2 u3 u4 bs st aT Q cL u g off m cap Y r h;exact Fa al Y O af ar ah an ap h
 |jvp O af ar ah an Z hb ap _ _=>intro e aZ ad;cases aZ;intro W P J u1 u2 u3 u4 bs st aT Q cL u g off m cap Y r h;exact I9 al Y O af ar ah an Z hb ap h
theorem trc:∀f,TrC f
 |0=>λW P J u1 u2 u3 u4 bs st aT Q cL u g off m cap ts Y n e aM ad r h=>by rw[eM]at h;cases h
 |f+1=>λW P J u1 u2 u3 u4 bs st aT Q cL u g off m cap ts Y n e aM ad r h=>Ja (trc f) aM e rfl ad W P J u1 u2 u3 u4 bs st aT Q cL u g off m cap Y r h
theorem rD(a b:List K)(z i)(h:i<a.length):(a++b).getD i z=a.getD i z:=by
 grind
theorem vZ(a)(x z:K):(a++[x]).getD a.length z=x:=by
 simp_all
theorem rE(a:List K)(x z i)(h:i<a.length):(a.set i x).getD i z=x:=by
 simp_all
theorem uC(a:List K)(x z i j)(h:i≠j):(a.set i x).getD j z=a.getD j z:=by
 simp_all
theorem aO.qbq(h:Zp:=by
 have C:g9≠P:=λe=>by
  subst e
  rcases a7 with c|c
  ·exact bu c
  ·have:=h.lt;omega
 have w:(Value.slice _ _ _).ownBlock≠some P:=λc=>C ((bU P).1 c);have an:∀o,_:=λo=>bd.cell (p:=⟨P,o,none⟩) h.lt bu;have es:∀o,o≠0->(bj.setCell ⟨P,0,_⟩ (hz g9 n9 cap9)).cell? _=W.cell? _:=λo ho=>(eQ _ _ _ _ _ _ (.inr (λe=>ho e.symm))).trans (an o);have aa:=(eR (lo:=P) (hi:=P+1) bj ⟨P,0,none⟩ (hz g9 n9 cap9) yac)
 have ao:Mv (Mst P u1 u2 u3 u4) W (Mst P (hz g9 n9 cap9) u2 u3 u4) (bj.setCell ⟨P,0,none⟩ (hz g9 n9 cap9)):=by
  refine⟨Chg.andThen ⟨bd.os,bd.tape,bd.output,bd.size,λi hi ad=>bd.block i hi (λc=>ad (.inr (.inl c)))⟩ (aa.chg1 (.inl rfl)),λb hb=>?_⟩;rcases hb with c|c|c|c|c
  ·exact .inl (.inl c)
  ·rw[bU]at c;subst c;rcases a7 with d|d
   ·exact .inl (.inr (.inl d))
   omega
  ·exact .inl (.inr (.inr (.inl c)))
  ·exact .inl (.inr (.inr (.inr (.inl c))))
  exact .inl (.inr (.inr (.inr (.inr c))))
 exact qdz):Zp:=h
theorem aO.qea(h:Zp:=by
 refine⟨⟨by simpa using yak h.lt bd.size,λo=>?_,fy _ _ _ _ _ ((an 0).trans h.c0),(es 1 xab).trans h.c1,(es 2 xab).trans h.c2,(es 3 xab).trans h.c3,(es 4 xab).trans h.c4,(es 5 xab).trans h.c5,(es 6 xab).trans h.c6,?_,?_,?_,?_,⟨w,p2,z,q⟩,⟨(aY h.r2 l.symm).symm,(aY h.r3 g.symm).symm,(aY h.r4 p.symm).symm,m,r,B⟩,h.nl,λi hi=>(h.nb i hi).mv ao,h.sz⟩,ao⟩
 ·have:=(bd.frozen h.lt bu).trans (h.fr o);simp[this]
 ·subst ad;exact eI a6 w
 ·exact eI (fi h.r2 bd (λb hb c=>l b c hb)) p2
 ·exact eI (fi h.r3 bd (λb hb c=>g b c hb)) z
 exact eI (fi h.r4 bd (λb hb c=>p b c hb)) q):Zp:=h
open aO in
theorem WS.ins_{W}(h:WS W P J u1 u2 u3 u4 bs st)(bd:Chg (λb=>u1.ownBlock=some b) W bj)(ad:n9=zs.length)(a6:bj.ownsRow J 3 1 (hz g9 n9 cap9) n9 (zs.map (Value.int .i64)))(a7:u1.ownBlock=some g9\/W.heap.size<=g9):
  WS (bj.setCell ⟨P,0,none⟩ (hz g9 n9 cap9)) P J (hz g9 n9 cap9) u2 u3 u4 bs {st with ins:=zs}/\Mv (Mst P u1 u2 u3 u4) W (Mst P (hz g9 n9 cap9) u2 u3 u4) (bj.setCell ⟨P,0,none⟩ (hz g9 n9 cap9)):=by
 exact qbp
theorem aP.qbq(h:Zp:=by
 have C:g9≠P:=λe=>by
  subst e
  rcases a7 with c|c
  ·exact z c
  ·have:=h.lt;omega
 have w:(Value.slice _ _ _).ownBlock≠some P:=λc=>C ((bU P).1 c);have an:∀o,_:=λo=>bd.cell (p:=⟨P,o,none⟩) h.lt z;have es:∀o,o≠2->(bj.setCell ⟨P,2,_⟩ (hz g9 n9 cap9)).cell? _=W.cell? _:=λo ho=>(eQ _ _ _ _ _ _ (.inr (λe=>ho e.symm))).trans (an o);have aa:=(eR (lo:=P) (hi:=P+1) bj ⟨P,2,none⟩ (hz g9 n9 cap9) yac)
 have ao:Mv (Mst P u1 u2 u3 u4) W (Mst P u1 u2 (hz g9 n9 cap9) u4) (bj.setCell ⟨P,2,none⟩ (hz g9 n9 cap9)):=by
  refine⟨Chg.andThen ⟨bd.os,bd.tape,bd.output,bd.size,λi hi ad=>bd.block i hi (λc=>ad (.inr (.inr (.inr (.inl c)))))⟩ (aa.chg1 (.inl rfl)),λb hb=>?_⟩;rcases hb with c|c|c|c|c
  ·exact .inl (.inl c)
  ·exact .inl (.inr (.inl c))
  ·exact .inl (.inr (.inr (.inl c)))
  ·rw[bU]at c;subst c;rcases a7 with d|d
   ·exact .inl (.inr (.inr (.inr (.inl d))))
   omega
  exact .inl (.inr (.inr (.inr (.inr c))))
 exact qdz):Zp:=h
theorem aP.qea(h:Zp:=by
 refine⟨⟨by simpa using yak h.lt bd.size,λo=>?_,(es 0 xab).trans h.c0,(es 1 xab).trans h.c1,fy _ _ _ _ _ ((an 2).trans h.c2),(es 3 xab).trans h.c3,(es 4 xab).trans h.c4,(es 5 xab).trans h.c5,(es 6 xab).trans h.c6,?_,?_,?_,?_,⟨bu,p2,w,q⟩,⟨l,aY h.r1 g,p,aY h.r2 m,r,(aY h.r4 B.symm).symm⟩,h.nl,λi hi=>(h.nb i hi).mv ao,h.sz⟩,ao⟩
 ·have:=(bd.frozen h.lt z).trans (h.fr o);simp[this]
 ·exact eI (fi h.r1 bd (λb hb c=>g b hb c)) bu
 ·exact eI (fi h.r2 bd (λb hb c=>m b hb c)) p2
 ·subst ad;exact eI a6 w
 exact eI (fi h.r4 bd (λb hb c=>B b c hb)) q):Zp:=h
open aP in
theorem WS.outs_{W}(h:WS W P J u1 u2 u3 u4 bs st)(bd:Chg (λb=>u3.ownBlock=some b) W bj)(ad:n9=zs.length)(a6:bj.ownsRow J 3 1 (hz g9 n9 cap9) n9 (zs.map (Value.int .i64)))(a7:u3.ownBlock=some g9\/W.heap.size<=g9):
  WS (bj.setCell ⟨P,2,none⟩ (hz g9 n9 cap9)) P J u1 u2 (hz g9 n9 cap9) u4 bs {st with outs:=zs}/\Mv (Mst P u1 u2 u3 u4) W (Mst P u1 u2 (hz g9 n9 cap9) u4) (bj.setCell ⟨P,2,none⟩ (hz g9 n9 cap9)):=by
 exact qbp
theorem aQ.qbq(h:Zp:=by
 have C:g9≠P:=λe=>by
  subst e
  rcases a7 with c|c
  ·exact q c
  ·have:=h.lt;omega
 have w:(Value.slice _ _ _).ownBlock≠some P:=λc=>C ((bU P).1 c);have an:∀o,_:=λo=>bd.cell (p:=⟨P,o,none⟩) h.lt q;have es:∀o,o≠3->(bj.setCell ⟨P,3,_⟩ (hz g9 n9 cap9)).cell? _=W.cell? _:=λo ho=>(eQ _ _ _ _ _ _ (.inr (λe=>ho e.symm))).trans (an o);have aa:=(eR (lo:=P) (hi:=P+1) bj ⟨P,3,none⟩ (hz g9 n9 cap9) yac)
 have ao:Mv (Mst P u1 u2 u3 u4) W (Mst P u1 u2 u3 (hz g9 n9 cap9)) (bj.setCell ⟨P,3,none⟩ (hz g9 n9 cap9)):=by
  refine⟨Chg.andThen ⟨bd.os,bd.tape,bd.output,bd.size,λi hi ad=>bd.block i hi (λc=>ad (.inr (.inr (.inr (.inr c)))))⟩ (aa.chg1 (.inl rfl)),λb hb=>?_⟩;rcases hb with c|c|c|c|c
  ·exact .inl (.inl c)
  ·exact .inl (.inr (.inl c))
  ·exact .inl (.inr (.inr (.inl c)))
  ·exact .inl (.inr (.inr (.inr (.inl c))))
  rw[bU]at c;subst c;rcases a7 with d|d
  ·exact .inl (.inr (.inr (.inr (.inr d))))
  omega
 exact qdz):Zp:=h
theorem aQ.qea(h:Zp:=by
 refine⟨⟨by simpa using yak h.lt bd.size,λo=>?_,(es 0 xab).trans h.c0,(es 1 xab).trans h.c1,(es 2 xab).trans h.c2,fy _ _ _ _ _ ((an 3).trans h.c3),(es 4 xab).trans h.c4,(es 5 xab).trans h.c5,(es 6 xab).trans h.c6,?_,?_,?_,?_,⟨bu,p2,z,w⟩,⟨l,g,aY h.r1 p,m,aY h.r2 r,aY h.r3 B⟩,(by simp only[yal,List.length_singleton];rw[h.nl]),λi hi=>by
  simp only
  by_cases c:i<bs.length
  ·rw[rD _ _ _ _ c,rD _ _ _ _ (hM h.nl c)]
   exact(h.nb i c).mv ao
  ·have e:i=bs.length:=by grind
   subst e
   rw[vZ,h.nl,vZ]
   exact hb ao,h.sz⟩,ao⟩
 ·have:=(bd.frozen h.lt q).trans (h.fr o);simp[this]
 ·exact eI (fi h.r1 bd (λb hb c=>p b hb c)) bu
 ·exact eI (fi h.r2 bd (λb hb c=>r b hb c)) p2
 ·exact eI (fi h.r3 bd (λb hb c=>B b hb c)) z
 subst ad;exact eI a6 w):Zp:=h
open aQ in
theorem WS.nms_{W}(h:WS W P J u1 u2 u3 u4 bs st)(bd:Chg (λb=>u4.ownBlock=some b) W bj){b d}(ad:n9=(bs++[b]).length)(a6:bj.ownsRow J 157 5 (hz g9 n9 cap9) n9 (bcF (bs++[b])))(a7:u4.ownBlock=some g9\/W.heap.size<=g9)(hb:Mv (Mst P u1 u2 u3 u4) W (Mst P u1 u2 u3 (hz g9 n9 cap9)) (bj.setCell ⟨P,3,none⟩ (hz g9 n9 cap9))->BcOK (Mst P u1 u2 u3 (hz g9 n9 cap9)) (bj.setCell ⟨P,3,none⟩ (hz g9 n9 cap9)) b d):
  WS (bj.setCell ⟨P,3,none⟩ (hz g9 n9 cap9)) P J u1 u2 u3 (hz g9 n9 cap9) (bs++[b]) {st with names:=st.names++[d]}/\Mv (Mst P u1 u2 u3 u4) W (Mst P u1 u2 u3 (hz g9 n9 cap9)) (bj.setCell ⟨P,3,none⟩ (hz g9 n9 cap9)):=by
 exact qbp
theorem OX{W:World}{e s g cap k:Nat}{xs u}(h:W.ownsRow J e s (hz g n cap) n xs):(W.setCell ⟨g,k,none⟩ u).ownsRow J e s (hz g n cap) n (xs.set k u):=by
 refine⟨by rw[List.length_set];exact h.1,?_⟩;rcases h.2 with⟨c,_⟩|⟨aq,cap',av,ae,R,aS,aa,bi,b7,ba⟩
 ·cases c
 cases ae;refine .inr ⟨g,_,av.setIfInBounds k u,rfl,R,?_,aa,bi,by grind,?_⟩
 ·rw[heap_setCell_same W g k _ _ _ aS]
 grind[List.take_set]
theorem CR:∀(bs:List Bc) (k:Nat) (v:Int),k<bs.length->(bcF bs).set (k*5+2) (hA v)=bcF (bs.set k {bs.getD k hH with val:=v})
 |b::r,0,v,_=>by simp[bcF,Bc.cells]
 |b::r,k+1,v,h=>by
  have hb:b.cells.length=5:=rfl
  rw[bcF,List.set_append_right _ _ xaa,hb,show(k+1)*5+2-5=k*5+2 by omega,CR r k v (by simpa using h)]
  rfl
theorem WS.setv{W}(h:WS W P J u1 u2 u3 u4 bs st){i}(hi:i<bs.length){s}{aD v:Nat}(aK:st.names.getD i (.val [] 0)=.val s aD):∃bz ce,u4=hz bz bs.length ce/\bz<W.heap.size/\W.frozen? ⟨bz,i*5+2,none⟩=false/\WS (W.setCell ⟨bz,i*5+2,none⟩ (hA v)) P J u1 u2 u3 u4 (bs.set i {bs.getD i hH with val:=(v:Int)}) (st.setV i s v)/\Mv (Mst P u1 u2 u3 u4) W (Mst P u1 u2 u3 u4) (W.setCell ⟨bz,i*5+2,none⟩ (hA v)):=by
 obtain⟨bz,ce,e4,_,aJ,_,bp⟩:=lX h.r4 xaa;have bU:u4.ownBlock=some bz:=hO e4
 have ca:W.frozen? ⟨bz,i*5+2,none⟩=false:=by
  rcases h.r4.2 with⟨c,c2⟩|⟨aq,cap',av,ae,R,aS,_⟩
  ·omega
  grind[World.frozen?]
 refine⟨_,_,e4,aJ,ca,?_⟩;have S:=eR (lo:=bz) (hi:=bz+1) W ⟨_,i*5+2,none⟩ (hA v) yac;have ao:Mv _ W (Mst P u1 u2 u3 _) _:=⟨S.chg1 (.inr (.inr (.inr (.inr bU)))),λb hb=>.inl hb⟩
 obtain⟨Z,n2,ab,u⟩:=h.np;obtain⟨l,g,p,m,r,B⟩:=h.ap;have C:bz≠P:=λe=>u (by grind);have es:∀o,(W.setCell ⟨_,i*5+2,_⟩ (hA v)).cell? _=W.cell? ⟨P,o,_⟩:=λo=>eQ _ _ _ _ _ _ (.inl C);refine⟨⟨by simpa using h.lt,λo=>by simp[h.fr o],(es 0).trans h.c0,(es 1).trans h.c1,(es 2).trans h.c2,(es 3).trans h.c3,(es 4).trans h.c4,(es 5).trans h.c5,(es 6).trans h.c6,eI h.r1 (λc=>p _ c bU),eI h.r2 (λc=>r _ c bU),eI h.r3 (λc=>B _ c bU),?_,h.np,h.ap,?_,λj hj=>?_,h.sz⟩,ao⟩
 ·have:=OX (k:=i*5+2) (u:=hA v) (by have:=h.r4;rw[e4]at this;exact this);rw[CR _ i v hi]at this;rw[e4,List.length_set];exact this
 ·show(bs.set i _).length=(st.names.set i _).length;rw[List.length_set,List.length_set,h.nl]
 rw[List.length_set]at hj;show BcOK _ _ ((bs.set i _).getD j hH) ((st.names.set i _).getD j (.val [] 0));by_cases c:j=i
 ·subst c;have hb:=h.nb j hi;rw[aK]at hb;rw[rE _ _ _ _ hi,rE _ _ _ _ (hM h.nl hi)];exact⟨hb.1,hb.2.1,rfl⟩
 rw[uC _ _ _ _ _ (λe=>c e.symm),uC _ _ _ _ _ (λe=>c e.symm)];exact(h.nb j hj).mv ao
def StO(W:World)(P B:Nat)(u1 u2 u3 u4:Value)(r:Rs LSt)(e:Ending)(W':World):Prop:=
 e=.returned (.tuple #[])/\match r with
 |.error (c,p)=>W'.cell? ⟨P,5,none⟩=some (.int .i64 c)/\W'.cell? ⟨P,6,none⟩=some (.int .i64 (p:Int))/\Chg (Mst P u1 u2 u3 u4) W W'
 |.ok st=>∃bs v1 v2 v3 v4,WS W' P B v1 v2 v3 v4 bs st/\Mv (Mst P u1 u2 u3 u4) W (Mst P v1 v2 v3 v4) W'
end
section
attribute[local go_sem] eF eE eD
variable{f P J g off m cap:Nat}{u1 u2 u3 u4:Value}{st:LSt}{bs:List Bc}{ts:List Tok}
theorem Jb{W k e}(Y:TrIn W P J u1 u2 u3 u4 bs st none 0 [] g off m cap (k::ts))(O:k.sym=KD)(ar:Pr 2 [e] ts){r}(h:iI f st (.outS k e)=some r):
  Calls prog 76 #[hy P,.slice (some ⟨g,off,none⟩) m cap] W (StO W P J u1 u2 u3 u4 r):=by
 have am:=Y.tk.len;rw[yaq]at am;have af:=iS ar;have bu:=Y.mc;have cp:=Y.m5;have ho:=Y.gd.o;have c0:=Y.tk.c0 0 xaa;have c1:=Y.tk.c1 0 xaa;rw[show(k::ts).getD 0 hG=k from rfl]at c0 c1;rw[O]at c0;rw[show KD=[111,117,116] from rfl]at c0;have p2:=Y.ws.c2;obtain⟨a3,bR,ai⟩:=ja Y.ws.r3;have bq:E _:=Y.ws;have ch:E _:=Y.gd;simp only[Nat.zero_mul,Nat.add_zero]at c0 c1;simp only[iI]at h;by_cases ah:50<=st.outs.length
 ·rw[hD ah]at h;have HR:E _:=(hE h).symm;have br:E _:=jq Y.ws.c5 Y.ws.c6 Y.ws.fr 5 k.pos (Mst P u1 u2 u3 u4) (.inl rfl);have aV:(50:Int)<=(st.outs.length:Int):=xaa;clear Y h;subst ai;generalize st.outs.length=j at*;generalize k.pos=S at*;go_enter func76,ntmps76;go_wp2_with (go_at_call 100;refine yaj br.o ?_;rintro e aF ⟨rfl,aB⟩);refine yaz (v:=.tuple #[]) (by simp[results,results76,go_sem]) rfl ?_;rw[HR.o];exact⟨rfl,aB.c5,aB.c6,aB.chg⟩
 rw[hC ah]at h;cases aZ:eM f st [] e with
 |none=>rw[aZ]at h;cases h
 |some ay=>
  rw[aZ]at h;have HR:E _:=(hE h).symm;have b5:=je ar (λt ht=>Y.ti t (by simp[ht])) e xac;have bg:=gn f st [] e Y.gd Y.nm Y.lo b5 ay aZ
  have au:=Y.sub Y.ws (Gw.refl Y.gd) (Mv.refl _ _) 1 m yad ts (by
   rw[List.drop_succ_cons,List.drop_zero,yap xaa]) (cap':=cap-1) xaa
  have HC:E _:=trc f W P J u1 u2 u3 u4 bs st none 0 0 [] g _ _ _ ts au 2 e ar yad ay aZ;have aV:¬(50:Int)<=(st.outs.length:Int):=xaa;have be:E _:=bg;clear au bg Y h aZ;subst ai;generalize Q:st.outs.length=j at*;have x:E _:=Q;clear Q;generalize k.pos=S at*;rcases ay with⟨c,p⟩|⟨s,v⟩
  ·go_enter func76,ntmps76;go_wp2_with (go_at_call 101;refine yaj HC.o ?_;rintro e aF ⟨rfl,bd⟩);refine yaz (v:=.tuple #[]) (by simp[results,results76,go_sem]) rfl ?_;rw[HR.o];exact⟨rfl,bd⟩
  obtain⟨w,aO⟩:=be.o s v rfl;have cK:0<=(v:Int):=xaa;have ci:E _:=w.o;go_enter func76,ntmps76;go_upto_region 6 with (go_at_call 101;refine yaj HC.o ?_;rintro e aF ⟨rfl,a5,a7,z,G,aK,bv⟩);have aL:=aK.c2;have bh:=ez 0 0 aF (.cells #[hA v] 3);have i:E _:=aK.keep bh;have b9:(aF.alloc (.cells #[hA v] 3)).cell? ⟨aF.heap.size,0,none⟩=some (hA v):=by rw[yav];rfl
  have bL:E _:=bv.keep bh;have bO:E (J<=aF.heap.size):=by show _<=_;have:=aK.sz;have:=aK.lt;omega
  have aH:E _:=w.g.o;clear aK bv c0 c1 p2 HC be w;go_wp2_with (first|(at_builtin;refine fZ _ rfl _ _ rfl J _ s.outs (by rfl) i.o.r3 ⟨aF.heap.size,0,none⟩ (v:Int) (by rfl) b9 ?c2 ?c3 ?_)|fail)
  case c2=>have:=aH.o;omega
  case c3=>have:=bO.o;simp;omega
  intro g9 cap9 n9 bj aw bM aN b6;obtain⟨(o:E _),H⟩:=i.o.outs_ (n9:=n9) (cap9:=cap9) (g9:=g9) (zs:=s.outs++[(v:Int)]) aN (by rw[aw];simp) (by rw[List.map_append];exact bM) (b6.imp id (λe=>by rw[e];simp));have aG:=i.o.lt;have y2:=(aN.cell (p:=⟨P,2,none⟩) aG i.o.np.2.2.1).trans i.o.c2;have aA:=(aN.frozen (p:=⟨P,2,none⟩) aG i.o.np.2.2.1).trans (i.o.fr 2);have bf:E _:=bL.o.trans H;clear H aN bM b6 aw bh b9 i bL;go_wp2_with fail;refine yaz (v:=.tuple #[]) (by simp[results,results76,go_sem]) rfl ?_;rw[HR.o];exact⟨rfl,_,_,_,_,_,o.o,bf.o⟩
theorem OY{al s k}(O:k<al.length)(F:(al.getD k (.val [] 0)).nm=s)(N:∀j,j<k->(al.getD j (.val [] 0)).nm≠s):KZ al s=k:=by
 grind[KZ,List.findIdx_eq]
theorem Mh(g:Gd st)(i s v):Gd (st.setV i s v):=⟨g.n,g.c,g.ok,g.k,g.i,g.o,by show(st.names.set i _).length<=5000;rw[List.length_set];exact g.m⟩
theorem Mj(h:NmOK st)(i s){v}(aO:v<st.vs.length):NmOK (st.setV i s v):=λb hb=>by
 have Q:b∈st.names.set i _:=hb
 rcases List.mem_or_eq_of_mem_set Q with c|c
 ·exact h b c
 ·subst c;exact aO
theorem Jc(M W):LcR M W none 0 []:=⟨rfl,λh=>by omega⟩
theorem TrIn.later{W aT Q u}(h:TrIn W P J u1 u2 u3 u4 bs st aT Q u g off m cap ts){I a5 a7 z G ao R}(X:WS I P J a5 a7 z G ao R)(an:Gd R)(bb:NmOK R)(k:Mv (Mst P u1 u2 u3 u4) W (Mst P a5 a7 z G) I)(i)(hi:i<m)(us)(aB:us=ts.drop i):TrIn I P J a5 a7 z G ao R none 0 [] g (off+i*3) (m-i) (cap-i) us where
 ws:=X
 gd:=an
 nm:=bb
 lc:=Jc _ _
 ln:=yae
 lo:=λb hb=>by cases hb
 tk:=(h.tk.keepC k.chg h.tg).in_ i m us (by rw[aB,yap (by rw[List.length_drop,h.tk.len];exact yad)]) yad
 tg:=λc=>(k.new g c).elim h.tg (λc=>hJ h.tk.lt)
 m5:=hJ h.m5
 mc:=hJ h.mc
 ti:=λt ht=>h.ti t (by grind)
 tn:=λt ht=>h.tn t (by grind)
theorem Jd{W k i n q e}(Y:TrIn W P J u1 u2 u3 u4 bs st none 0 [] g off m cap (k::i::n::q::ts))(O:k.sym=KE)(hi:i.sym=iK)(ar:Pr 2 [e] ts){r}(h:iI f st (.rep i n e)=some r):
  Calls prog 76 #[hy P,.slice (some ⟨g,off,none⟩) m cap] W (StO W P J u1 u2 u3 u4 r):=by
 have am:=Y.tk.len;simp only[yaq]at am;have af:=iS ar;have bu:=Y.mc;have cp:=Y.m5;have a9:bs.length<=100000:=by rw[Y.ws.nl];have:=Y.gd.m;omega
 have c0:=Y.tk.c0 0 xaa;have bW:=Y.tk.c0 1 xaa;have ch:=Y.tk.c1 1 xaa;have bO:=Y.tk.c2 1 xaa;have Z:=Y.tk.c1 2 xaa;have n2:=Y.tk.c2 2 xaa;rw[show(k::i::n::q::ts).getD 0 _=k from rfl]at c0;rw[show(k::i::n::q::ts).getD 1 _=i from rfl]at bW ch bO;rw[show(k::i::n::q::ts).getD 2 _=n from rfl]at Z n2;rw[O]at c0;rw[show KE=[114,101,112,101,97,116] from rfl]at c0;have bl:=Y.ti i xac hi;have cc:E _:=λI=>zQ i bl I;have aT:=pK bl yad;rw[yap yad]at aT;have aU:E _:=Y;have b5:=je ar (λt ht=>Y.ti t (by simp[ht])) e xac;have bh:E _:=ar;have S:E _:=b5;have aa:E _:=rx Y.ws.c3 Y.ws.r4 a9 n.text;have z:=Y.ws.c3;have F:E _:=lX Y.ws.r4;have br:E (∀I,Kept 0 0 W I->∀c p,_):=λI aj c p=>jq (Y.ws.keep aj).c5 (Y.ws.keep aj).c6 (Y.ws.keep aj).fr c p (Mst P u1 u2 u3 u4) (.inl rfl);have au:E (∀I,Kept 0 0 W I->_):=λI aj=>(aj.cell (p:=⟨g,off+3+1,_⟩) Y.tk.lt xaa).trans ch;obtain⟨a4,cI,aC⟩:=jr Y.ws.r4;simp only[Nat.zero_mul,Nat.add_zero,Nat.one_mul]at c0 bW ch bO Z n2;simp only[iI]at h;have HR:E _:=h;clear h Y ar b5 bl hi O;obtain⟨bG,bD,bH⟩:=i;obtain⟨bw,U,u⟩:=n;unfold iR at cc;simp only at*;subst aC;generalize bE:ik _=K at*;clear bE;go_enter func76,ntmps76;go_upto_region 9 with (go_at_call 102;refine yaj aa.o ?_;rintro e ag ⟨av,rfl,aX,X⟩;obtain rfl:=X.symm);clear aa;rcases aX with⟨ak,bP,rfl,l,be⟩|⟨rfl,ad⟩
 ·have bg:E _:=oD aU.o.ws bP l be;have w:E _:=aU.o.ws.nb _ bP;have a2:E (KZ _ u=ak):=OY (hM aU.o.ws.nl bP) (by rw[<-vJ (aU.o.ws.nb _ bP)];exact l) (λj hj=>by rw[<-vJ (aU.o.ws.nb j xaa)];exact be j hj);obtain⟨bz,ce,e4,_,_,_,bp⟩:=F.o xaa;cases e4;obtain⟨_,aH,_,_,_⟩:=bp _ bP;have bo:¬((ak:Int)<0):=xaa;have HD:E _:=(show st.names.getD _ (.val [] 0)=st.names.getD ak _ from rfl)
  generalize f0:st.names.getD ak _=ai at bg w;have ed:E _:=f0;clear f0 HD;generalize B:bs.getD ak _=b at aH w;clear B;have bB:E _:=bP;cases ai with
  |fn bb ps C=>
   have N:=w.o.2.1;rw[N]at aH
   have bI:E (r=.error (3,U)):=by
    have h:=HR.o;rw[bg.o]at h;exact(hE h).symm
   have ck:E _:=br.o W (Kept.refl 0 0 W) 3 U;clear l be bp w F br;generalize bs.length=nn at*;go_wp2_with (go_at_call 100;refine yaj ck.o ?_;rintro e aF ⟨rfl,aB⟩);refine yaz (v:=.tuple #[]) (by simp[results,results76,go_sem]) rfl ?_;rw[bI.o];exact⟨rfl,aB.c5,aB.c6,aB.chg⟩
  |val bb aD=>
   have N:=w.o.2.1
   have cP:E (bb=u):=by
    have:=vJ (aU.o.ws.nb _ bP);rw[ed.o]at this;exact this.symm.trans l
   rw[N]at aH;clear l be bp w F;have aN:=bP;generalize bC:bs.length=nn at z bP a9;go_upto_region 12 with (go_at_call 103;refine yaj (cc.o _) ?_;rintro e aF ⟨rfl,aR⟩);have aK:E _:=aR;clear aR c0 bW ch bO Z n2 aH z cc;by_cases aI:100<K
   ·have bI:E (r=.error (5,bD)):=by
     have h:=HR.o;rw[bg.o]at h;simp only[hD aI]at h;exact(hE h).symm
    have aw:E _:=br.o _ aK.o 5 bD;have ch:=au.o _ aK.o;clear br au;go_wp2_with (go_at_call 100;refine yaj aw.o ?_;rintro e bc ⟨rfl,aB⟩);refine yaz (v:=.tuple #[]) (by simp[results,results76,go_sem]) rfl ?_;rw[bI.o];exact⟨rfl,aB.c5,aB.c6,(Mv.of aK.o).bad aB.chg⟩
   obtain⟨aV,rfl⟩:∃aV:Nat,K=aV:=⟨K.toNat,by omega⟩
   have bI:E (nH f e ak u aV st=some r):=by
    have h:=HR.o;rw[bg.o]at h;simp only[hC aI]at h;rw[a2.o,Int.toNat_natCast]at h;exact h
   have aW:E (st.names.getD ak (.val [] 0)=.val u aD):=by show _=_;rw[ed.o,cP.o]
   have bn:E (∀I ao aQ a8 bi bk s,WS _ P J aQ _ _ _ ao s->Gd s->NmOK s->Mv _ W _ I->∀ay,eM f s _ e=some _->RsG s _/\Calls _ _ _ _ _):=λI ao aQ a8 bi bk s X aJ R bx ay a5=>⟨gn f s _ e aJ R (λb hb=>by cases hb) S.o _ a5,trc f _ P J _ a8 bi bk _ s _ 0 0 _ g _ _ _ _ (aU.o.later X aJ R bx 4 xaa _ rfl) 2 e bh.o yad ay a5⟩
   have a0:E _:=aU.o.ws.keep aK.o;have aZ:E _:=aU.o.gd;have bj:E _:=aU.o.nm;clear HR a2 bg ed br au cP bh S aU;go_wp2_with fail;go_loopw [8] (λnv I=>∃(j:Nat) (s:LSt) (ao:List Bc) (aQ a8 bi bk:Value) (aY:Nat),j<=aV/\nv=hA j/\E (WS I P J aQ a8 bi bk ao s)/\E (Mv (Mst P u1 u2 u3 (hz bz bs.length cI)) W (Mst P aQ a8 bi bk) I)/\E (nH f e ak u (aV-j) s=some r)/\E (Gd s)/\E (NmOK s)/\E (ao.length=bs.length)/\E (s.names.getD ak (.val [] 0)=.val u aY)) (λnv _=>aV-(intOf nv).toNat)
   case atStart=>exact⟨0,_,_,_,_,_,_,_,yae,rfl,a0,(show E _ from Mv.of aK.o),bI,aZ,bj,(show E _ from rfl),aW⟩
   case round=>
    obtain⟨j,s,ao,aQ,a8,bi,bk,aY,hj,rfl,aL,al,ap,bA,az,Q,bv⟩:=hrel;clear bI aW a0 aZ bj;by_cases aG:j<aV
    ·cases x:eM f s [] e with
     |none=>
      exfalso;have h:=ap.o;rw[show aV-j=(aV-j-1)+1 by omega,nH,x]at h;cases h
     |some ay=>
      obtain⟨ah,bq⟩:=bn.o _ _ _ _ _ _ s aL.o bA.o az.o al.o _ x;have an:E _:=ah;have bZ:E _:=bq;have ab:E _:=ap.o;rw[show aV-j=(aV-j-1)+1 by omega,nH,x]at ab;clear ah bq x ap;rcases ay with⟨c,p⟩|⟨ax,v⟩
      ·have bI:E _:=(hE ab.o).symm;go_wp2_with (go_at_call 101;refine yaj bZ.o ?_;rintro e bc ⟨rfl,bd⟩);refine yaz (v:=.tuple #[]) (by simp[results,results76,go_sem]) rfl ?_;rw[bI.o];exact⟨rfl,bd.1,bd.2.1,al.o.bad bd.2.2⟩
      obtain⟨aA,aO⟩:=an.o _ v rfl;have cK:¬((v:Int)<0):=xaa;have ae:E (ax.names.getD ak (.val [] 0)=.val u aY):=by show _=_;rw[aA.m];exact bv.o
      have bM:E _:=Mh aA.g ak u v;have HN2:E _:=Mj (NmOK.gw az.o aA) ak u aO;have G:E (nH f e ak u (aV-(j+1)) (ax.setV ak u v)=some r):=by show _=_;rw[show aV-(j+1)=aV-j-1 by omega];exact ab.o
      go_upto_region 19 with (go_at_call 101;refine yaj bZ.o ?_;rintro e bc ⟨rfl,aP,y2,y3,y4,a6,bm⟩);obtain⟨cD,bS,b7,aq,ca,aM,H⟩:=a6.setv (v:=v) (hL Q.o aN) ae.o;have b1:=a6.c3;rw[b7,Q.o,bC]at b1;have ba:=(lX a6.r4 (hN Q.o))
      obtain⟨bR,bF,aS,_,_,_,bp⟩:=ba;have cn:=(bp _ (hL Q.o aN)).2.2.1;rw[b7]at aS;cases aS;have o:E _:=aM;have bf:E _:=(al.o.trans bm).trans H;have y:E ((ao.set ak {ao.getD ak hH with val:=v}).length=bs.length):=by show _=_;rw[List.length_set];exact Q.o
      have a7:E ((ax.setV ak u v).names.getD ak (.val [] 0)=.val u v):=by
       show(ax.names.set ak _).getD ak _=_;rw[rE _ _ _ _ (by rw[<-a6.nl,Q.o];exact aN)]
      clear bp aM H a6 bm al aL bZ an ab bA az bv aA aq;go_wp2_with fail;go_roundw;exact⟨j+1,ax.setV ak u v,_,aP,y2,y3,y4,v,by omega,by go_num,o,bf,G,bM,HN2,y,a7⟩;simp[intOf];omega
    obtain rfl:j=aV:=xaa
    have bI:E (r=.ok s):=by
     have h:=ap.o;rw[Nat.sub_self,nH]at h;exact(hE h).symm
    clear ap bn;go_wp2_with fail;refine yaz (v:=.tuple #[]) (by simp[results,results76,go_sem]) rfl ?_;rw[bI.o];exact⟨rfl,_,_,_,_,_,aL.o,al.o⟩
 have bI:E (r=.error (3,U)):=by
  have h:=HR.o;rw[oX aU.o.ws ad]at h;exact(hE h).symm
 have ck:E _:=br.o W (Kept.refl 0 0 W) 3 U;clear ad F br z;go_wp2_with (go_at_call 100;refine yaj ck.o ?_;rintro e aF ⟨rfl,aB⟩);refine yaz (v:=.tuple #[]) (by simp[results,results76,go_sem]) rfl ?_;rw[bI.o];exact⟨rfl,aB.c5,aB.c6,aB.chg⟩
