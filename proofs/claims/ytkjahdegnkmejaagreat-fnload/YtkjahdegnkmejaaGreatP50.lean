import Derived.Test.YtkjahdegnkmejaaGreatP49
import Derived.Test.YtkjahdegnkmejaaGreatP42
namespace Go.Proofs.Z
variable{Zp:Prop}
open Tryz Go.RowKit Flt
set_option maxRecDepth 1000000
set_option maxHeartbeats 0
section
variable{f P I n g9 n9 cap9:Nat}{C:Type}{a7:World}{u1 u2 u3 u4:Value}{st:LSt}{bs:List Bc}{zs:List Int}
theorem D4{u k x a d r}(h:eM (f+1) st u (.jvp k a x d)=some r):∃ar aQ,r=Ow k (fw st u x) ar aQ/\(∀v,fw st u x=.ok v->eM f st u a=some ar)/\(∀v,fw st u x=.ok v->∀s y,ar=.ok (s,y)->eM f s u d=some aQ):=by
 rw[eM]at h;cases aL:fw st u x with
 |error q=>rw[aL]at h;cases h;exact⟨.error q,.error q,rfl,λv e=>(by cases e),λv e=>(by cases e)⟩
 |ok v=>
  rw[aL]at h;simp only at h;cases B:eM f st u a with
  |none=>rw[B]at h;cases h
  |some ar=>
   rw[B]at h;rcases ar with⟨c,p⟩|⟨av,y⟩
   ·cases h;exact⟨_,.error (c,p),rfl,λ_ _=>rfl,λ_ _ s y e=>by cases e⟩
   simp only[jo]at h;cases N:eM f av u d with
   |none=>grind
   |some aQ=>
    rw[N]at h;refine⟨.ok (av,y),aQ,?_,λ_ _=>rfl,λ_ _ s ct e=>(by cases e;exact N)⟩;rcases aQ with⟨c,p⟩|⟨aT,z⟩<;>(cases h;rfl)
section
variable{f:Nat}{W:World}{P I:Nat}{u1 u2 u3 u4:Value}{bs:List Bc}{st:LSt}{af:Option Addr}{Q cL:Nat}{u:Loc}{g an m cap:Nat}{ts us:List Tok}{a b:Ex}{r:Rs (LSt×Nat)}
theorem cL.qcq(h:Zp:=by
 have bU:=jf aB (λt ht=>ab.ti t (by simp[ht])) a xac;have bv:=jf hb (λt ht=>ab.ti t (by simp[ht])) b xac;have ed:=sN (by rw[hn];decide) (by rw[hn];decide) (by rw[hn];decide);have K:=Aw y ai ed aN ae
 have G:ts++c::([n]++d::us)=((k::l::(ts++c::n::d::(us++[q]))).drop 2).take (m-1-2):=by
  rw[List.drop_succ_cons,List.drop_succ_cons,List.drop_zero,show ts++c::n::d::(us++[q])=(ts++c::([n]++d::us))++[q] by simp,List.take_append_of_le_length yag,yap yag]
 have aW:∀x:List UInt8,x≠IU->(k.sym==x)=false:=λx B=>by
  rw[beq_eq_false_iff_ne]
  rintro rfl
  exact B J
 refine kP ab (Pr.jvp J ag aB ai hn aN hb am) (aW _ xab) (aW _ xab) (aW _ xab) (aW _ xab) (aW _ xab) xaa (ts++c::([n]++d::us)) G (by rw[oP (X:=[ts,[n]]) (y:=us) xac K _ yag];exact bc) _ (λF a8 bj al a5=>?_);exact qec):Zp:=h
theorem cL.qed(h:Zp:=by
 obtain⟨ck,N,aR,X,Y⟩:=b0 2 xac
 have bi:(∃v,fw st u n=.ok v)->∀z,Kept 0 0 F z->_:=λaG z aC=>
  O z P I u1 u2 u3 u4 bs st af Q cL u g o ts.length c0 ts (ab.seg (ab.ws.keep (al.trans aC)) (Gw.refl ab.gd) (Mv.of (al.trans aC)) (c2.keep aC) xaa c3 (λt ht=>by simp[ht])) 2 a aB yad ar (aG.elim ad)
 have bR:(∃v,fw st u n=.ok v)->_:=λaG=>gc f st u a ab.gd ab.nm ab.lo bU ar (aG.elim ad)
 have ap:(∃v,fw st u n=.ok v)->∀s x,ar=.ok (s,x)->RsG s aQ:=λaG s x e=>by
  obtain⟨w,_⟩:=bR aG s x e
  obtain⟨v,aL⟩:=aG
  exact gc f s u b w.g (ab.nm.gw w) (ab.lo.le w.n) bv aQ (be v aL s x e)
 have cC:(∃v,fw st u n=.ok v)->∀s x,ar=.ok (s,x)->∀z aV bg bq bB,WS z P I aV bg bq bB bs s->Mv (Mst P u1 u2 u3 u4) F (Mst P aV bg bq bB) z->Calls prog 102 #[ge P,.slice af Q cL,.slice (some ⟨g,ck,none⟩) us.length N] z (TrO z P I aV bg bq bB bs aQ):=λaG s x e z aV bg bq bB S bE=>by
  obtain⟨w,_⟩:=bR aG s x e
  obtain⟨v,aL⟩:=aG
  exact O z P I aV bg bq bB bs s af Q cL u g ck us.length N us (ab.seg S w ((Mv.of al).trans bE) (X.keepC bE.chg ab.tg) xaa Y (λt ht=>by simp[ht])) 2 b hb yad aQ (be v aL s x e)
 obtain⟨U,aS,aa⟩:=k;simp only at J;subst J;exact D0 (ab.ws.keep al) ab.gd.m (ab.lc.keep al) ab.ln aS aa n xac cg (ab.ws.far2 aO) c1 ⟨cg,Z,j⟩ aR ar aQ bR (λv aL=>ow ab.nm ab.lo aL) ap bi cC):Zp:=h
open cL in
theorem Hz{k l c n d q}(O:TrC f)(ab:TrIn W P I u1 u2 u3 u4 bs st af Q u g an m cap (k::l::(ts++c::n::d::(us++[q]))))(J:k.sym=IU)(ag:l.sym=[40])(aB:Pr 2 [a] ts)(ai:c.sym=[44])(hn:n.sym=gz)(aN:d.sym=[44])(hb:Pr 2 [b] us)(am:q.sym=[41])(h:eM (f+1) st u (.jvp k a n b)=some r):
  Calls prog 102 #[ge P,.slice af Q cL,.slice (some ⟨g,an,none⟩) m cap] W (TrO W P I u1 u2 u3 u4 bs r):=by
 obtain⟨ar,aQ,rfl,ad,be⟩:=D4 h;exact qcp
end
theorem Ia(O:TrC f){es ts}(aA:Pr n es ts):∀e,es=[e]->n<=2->∀(W:World) (P I:Nat) (u1 u2 u3 u4:Value) (bs:List Bc) (st:LSt) (af:Option Addr) (Q cL:Nat) (u:Loc) (g an m cap:Nat),TrIn W P I u1 u2 u3 u4 bs st af Q u g an m cap ts->∀r,eM (f+1) st u e=some r->
  Calls prog 102 #[ge P,.slice af Q cL,.slice (some ⟨g,an,none⟩) m cap] W (TrO W P I u1 u2 u3 u4 bs r):=by
 induction aA with
 |up01 _ Z=>intro e ay hn;exact Z e ay xaa
 |up12 _ Z=>intro e ay hn;exact Z e ay xaa
 |arg1 _ _=>intro e ay hn;omega
 |argM _ _ _ _ _=>intro e ay hn;omega
 |add aB aR hb _ _=>intro e ay hn;cases ay;intro W P I u1 u2 u3 u4 bs st af Q cL u g an m cap ab r h;exact GH O ab aB aR hb h
 |mul aB aR hb _ _=>intro e ay hn;cases ay;intro W P I u1 u2 u3 u4 bs st af Q cL u g an m cap ab r h;exact GI O ab aB aR hb h
 |neg aR aB _=>intro e ay hn;cases ay;intro W P I u1 u2 u3 u4 bs st af Q cL u g an m cap ab r h;exact GJ O ab aR aB h
 |num ht=>intro e ay hn;cases ay;intro W P I u1 u2 u3 u4 bs st af Q cL u g an m cap ab r h;exact GO ab ht h
 |name ht=>intro e ay hn;cases ay;intro W P I u1 u2 u3 u4 bs st af Q cL u g an m cap ab r h;exact Dj ab ht h
 |par ag aB am Z=>intro e ay hn;cases ay;intro W P I u1 u2 u3 u4 bs st af Q cL u g an m cap ab r h;exact GK ab ag aB am (λF b=>Z _ rfl yad _ P I _ _ _ _ _ _ _ _ _ _ g _ _ _ b r h)
 |call0 ht ag am=>intro e ay hn;cases ay;intro W P I u1 u2 u3 u4 bs st af Q cL u g an m cap ab r h;exact A1 O ab ht ag am h
 |call ht ag aB am _=>intro e ay hn;cases ay;intro W P I u1 u2 u3 u4 bs st af Q cL u g an m cap ab r h;exact DD O ab ht ag aB am h
 |key1 J ag aB am _=>intro e ay hn;cases ay;intro W P I u1 u2 u3 u4 bs st af Q cL u g an m cap ab r h;exact Dm O ab J ag aB am h
 |key2 J ag aB ai hb am _ _=>intro e ay hn;cases ay;intro W P I u1 u2 u3 u4 bs st af Q cL u g an m cap ab r h;exact DA O ab J ag aB ai hb am h
 |key3 J ag aB ai hb bQ aN am _ _ _=>intro e ay hn;cases ay;intro W P I u1 u2 u3 u4 bs st af Q cL u g an m cap ab r h;exact DB O ab J ag aB ai hb bQ aN am h
 |keyN J ag aB ai aG am _=>intro e ay hn;cases ay;intro W P I u1 u2 u3 u4 bs st af Q cL u g an m cap ab r h;exact Dn O ab J ag aB ai aG am h
 |put J ag aB ai hi bQ aG am _=>intro e ay hn;cases ay;intro W P I u1 u2 u3 u4 bs st af Q cL u g an m cap ab r h;exact GN O ab J ag aB ai hi bQ aG am h
 |grad J ag aB ai aH am _=>intro e ay hn;cases ay;intro W P I u1 u2 u3 u4 bs st af Q cL u g an m cap ab r h;exact DY O ab J ag aB ai aH am h
 |jvp J ag aB ai aH bQ hb am _ _=>intro e ay hn;cases ay;intro W P I u1 u2 u3 u4 bs st af Q cL u g an m cap ab r h;exact Hz O ab J ag aB ai aH bQ hb am h
theorem trc:∀f,TrC f
 |0=>λW P I u1 u2 u3 u4 bs st af Q cL u g an m cap ts ab n e aA hn r h=>by rw[eM]at h;cases h
 |f+1=>λW P I u1 u2 u3 u4 bs st af Q cL u g an m cap ts ab n e aA hn r h=>Ia (trc f) aA e rfl hn W P I u1 u2 u3 u4 bs st af Q cL u g an m cap ab r h
theorem oU(a b:List C)(z i)(h:i<a.length):(a++b).getD i z=a.getD i z:=by
 grind
theorem vK(a)(x z:C):(a++[x]).getD a.length z=x:=by
 simp_all
theorem rg(a:List C)(x z i)(h:i<a.length):(a.set i x).getD i z=x:=by
 simp_all
theorem uj(a:List C)(x z i j)(h:i≠j):(a.set i x).getD j z=a.getD j z:=by
 simp_all
theorem bA.qbq(h:Zp:=by
 have F:g9≠P:=λe=>by
  subst e
  rcases bf with c|c
  ·exact bn c
  ·have:=h.lt;omega
 have t:(Value.slice _ _ _).ownBlock≠some P:=λc=>F ((l P).1 c);have am:∀o,_:=λo=>aX.cell (p:=⟨P,o,none⟩) h.lt bn;have es:∀o,o≠0->(a7.setCell ⟨P,0,_⟩ (ia g9 n9 cap9)).cell? _=W.cell? _:=λo aR=>(eG _ _ _ _ _ _ (.inr (λe=>aR e.symm))).trans (am o);have U:=(eU (lo:=P) (hi:=P+1) a7 ⟨P,0,none⟩ (ia g9 n9 cap9) yac)
 have an:Mv (Mst P u1 u2 u3 u4) W (Mst P (ia g9 n9 cap9) u2 u3 u4) (a7.setCell ⟨P,0,none⟩ (ia g9 n9 cap9)):=by
  refine⟨Chg.andThen ⟨aX.os,aX.tape,aX.output,aX.size,λi hi hn=>aX.block i hi (λc=>hn (.inr (.inl c)))⟩ (U.chg1 (.inl rfl)),λb hb=>?_⟩;rcases hb with c|c|c|c|c
  ·exact .inl (.inl c)
  ·rw[l]at c;subst c;rcases bf with d|d
   ·exact .inl (.inr (.inl d))
   omega
  ·exact .inl (.inr (.inr (.inl c)))
  ·exact .inl (.inr (.inr (.inr (.inl c))))
  exact .inl (.inr (.inr (.inr (.inr c))))
 exact qee):Zp:=h
theorem bA.qef(h:Zp:=by
 refine⟨⟨by simpa using yak h.lt aX.size,λo=>?_,fc _ _ _ _ _ ((am 0).trans h.c0),(es 1 xab).trans h.c1,(es 2 xab).trans h.c2,(es 3 xab).trans h.c3,(es 4 xab).trans h.c4,(es 5 xab).trans h.c5,(es 6 xab).trans h.c6,?_,?_,?_,?_,⟨t,p2,bb,j⟩,⟨(bp h.r2 m.symm).symm,(bp h.r3 g.symm).symm,(bp h.r4 q.symm).symm,w,r,z⟩,h.nl,λi hi=>(h.nb i hi).mv an,h.sz⟩,an⟩
 ·have:=(aX.frozen h.lt bn).trans (h.fr o);simp[this]
 ·subst hn;exact eH bi t
 ·exact eH (eQ h.r2 aX (λb hb c=>m b c hb)) p2
 ·exact eH (eQ h.r3 aX (λb hb c=>g b c hb)) bb
 exact eH (eQ h.r4 aX (λb hb c=>q b c hb)) j):Zp:=h
open bA in
theorem WS.ins_{W}(h:WS W P I u1 u2 u3 u4 bs st)(aX:Chg (λb=>u1.ownBlock=some b) W a7)(hn:n9=zs.length)(bi:a7.ownsRow I 3 1 (ia g9 n9 cap9) n9 (zs.map (Value.int .i64)))(bf:u1.ownBlock=some g9\/W.heap.size<=g9):
  WS (a7.setCell ⟨P,0,none⟩ (ia g9 n9 cap9)) P I (ia g9 n9 cap9) u2 u3 u4 bs {st with ins:=zs}/\Mv (Mst P u1 u2 u3 u4) W (Mst P (ia g9 n9 cap9) u2 u3 u4) (a7.setCell ⟨P,0,none⟩ (ia g9 n9 cap9)):=by
 exact qbp
theorem bB.qbq(h:Zp:=by
 have F:g9≠P:=λe=>by
  subst e
  rcases bf with c|c
  ·exact bb c
  ·have:=h.lt;omega
 have t:(Value.slice _ _ _).ownBlock≠some P:=λc=>F ((l P).1 c);have am:∀o,_:=λo=>aX.cell (p:=⟨P,o,none⟩) h.lt bb;have es:∀o,o≠2->(a7.setCell ⟨P,2,_⟩ (ia g9 n9 cap9)).cell? _=W.cell? _:=λo aR=>(eG _ _ _ _ _ _ (.inr (λe=>aR e.symm))).trans (am o);have U:=(eU (lo:=P) (hi:=P+1) a7 ⟨P,2,none⟩ (ia g9 n9 cap9) yac)
 have an:Mv (Mst P u1 u2 u3 u4) W (Mst P u1 u2 (ia g9 n9 cap9) u4) (a7.setCell ⟨P,2,none⟩ (ia g9 n9 cap9)):=by
  refine⟨Chg.andThen ⟨aX.os,aX.tape,aX.output,aX.size,λi hi hn=>aX.block i hi (λc=>hn (.inr (.inr (.inr (.inl c)))))⟩ (U.chg1 (.inl rfl)),λb hb=>?_⟩;rcases hb with c|c|c|c|c
  ·exact .inl (.inl c)
  ·exact .inl (.inr (.inl c))
  ·exact .inl (.inr (.inr (.inl c)))
  ·rw[l]at c;subst c;rcases bf with d|d
   ·exact .inl (.inr (.inr (.inr (.inl d))))
   omega
  exact .inl (.inr (.inr (.inr (.inr c))))
 exact qee):Zp:=h
theorem bB.qef(h:Zp:=by
 refine⟨⟨by simpa using yak h.lt aX.size,λo=>?_,(es 0 xab).trans h.c0,(es 1 xab).trans h.c1,fc _ _ _ _ _ ((am 2).trans h.c2),(es 3 xab).trans h.c3,(es 4 xab).trans h.c4,(es 5 xab).trans h.c5,(es 6 xab).trans h.c6,?_,?_,?_,?_,⟨bn,p2,t,j⟩,⟨m,bp h.r1 g,q,bp h.r2 w,r,(bp h.r4 z.symm).symm⟩,h.nl,λi hi=>(h.nb i hi).mv an,h.sz⟩,an⟩
 ·have:=(aX.frozen h.lt bb).trans (h.fr o);simp[this]
 ·exact eH (eQ h.r1 aX (λb hb c=>g b hb c)) bn
 ·exact eH (eQ h.r2 aX (λb hb c=>w b hb c)) p2
 ·subst hn;exact eH bi t
 exact eH (eQ h.r4 aX (λb hb c=>z b c hb)) j):Zp:=h
open bB in
theorem WS.outs_{W}(h:WS W P I u1 u2 u3 u4 bs st)(aX:Chg (λb=>u3.ownBlock=some b) W a7)(hn:n9=zs.length)(bi:a7.ownsRow I 3 1 (ia g9 n9 cap9) n9 (zs.map (Value.int .i64)))(bf:u3.ownBlock=some g9\/W.heap.size<=g9):
  WS (a7.setCell ⟨P,2,none⟩ (ia g9 n9 cap9)) P I u1 u2 (ia g9 n9 cap9) u4 bs {st with outs:=zs}/\Mv (Mst P u1 u2 u3 u4) W (Mst P u1 u2 (ia g9 n9 cap9) u4) (a7.setCell ⟨P,2,none⟩ (ia g9 n9 cap9)):=by
 exact qbp
theorem bC.qbq(h:Zp:=by
 have F:g9≠P:=λe=>by
  subst e
  rcases bf with c|c
  ·exact j c
  ·have:=h.lt;omega
 have t:(Value.slice _ _ _).ownBlock≠some P:=λc=>F ((l P).1 c);have am:∀o,_:=λo=>aX.cell (p:=⟨P,o,none⟩) h.lt j;have es:∀o,o≠3->(a7.setCell ⟨P,3,_⟩ (ia g9 n9 cap9)).cell? _=W.cell? _:=λo aR=>(eG _ _ _ _ _ _ (.inr (λe=>aR e.symm))).trans (am o);have U:=(eU (lo:=P) (hi:=P+1) a7 ⟨P,3,none⟩ (ia g9 n9 cap9) yac)
 have an:Mv (Mst P u1 u2 u3 u4) W (Mst P u1 u2 u3 (ia g9 n9 cap9)) (a7.setCell ⟨P,3,none⟩ (ia g9 n9 cap9)):=by
  refine⟨Chg.andThen ⟨aX.os,aX.tape,aX.output,aX.size,λi hi hn=>aX.block i hi (λc=>hn (.inr (.inr (.inr (.inr c)))))⟩ (U.chg1 (.inl rfl)),λb hb=>?_⟩;rcases hb with c|c|c|c|c
  ·exact .inl (.inl c)
  ·exact .inl (.inr (.inl c))
  ·exact .inl (.inr (.inr (.inl c)))
  ·exact .inl (.inr (.inr (.inr (.inl c))))
  rw[l]at c;subst c;rcases bf with d|d
  ·exact .inl (.inr (.inr (.inr (.inr d))))
  omega
 exact qee):Zp:=h
theorem bC.qef(h:Zp:=by
 refine⟨⟨by simpa using yak h.lt aX.size,λo=>?_,(es 0 xab).trans h.c0,(es 1 xab).trans h.c1,(es 2 xab).trans h.c2,fc _ _ _ _ _ ((am 3).trans h.c3),(es 4 xab).trans h.c4,(es 5 xab).trans h.c5,(es 6 xab).trans h.c6,?_,?_,?_,?_,⟨bn,p2,bb,t⟩,⟨m,g,bp h.r1 q,w,bp h.r2 r,bp h.r3 z⟩,(by simp only[yal,List.length_singleton];rw[h.nl]),λi hi=>by
  simp only
  by_cases c:i<bs.length
  ·rw[oU _ _ _ _ c,oU _ _ _ _ (jv h.nl c)]
   exact(h.nb i c).mv an
  ·have e:i=bs.length:=by grind
   subst e
   rw[vK,h.nl,vK]
   exact hb an,h.sz⟩,an⟩
 ·have:=(aX.frozen h.lt j).trans (h.fr o);simp[this]
 ·exact eH (eQ h.r1 aX (λb hb c=>q b hb c)) bn
 ·exact eH (eQ h.r2 aX (λb hb c=>r b hb c)) p2
 ·exact eH (eQ h.r3 aX (λb hb c=>z b hb c)) bb
 subst hn;exact eH bi t):Zp:=h
open bC in
theorem WS.nms_{W}(h:WS W P I u1 u2 u3 u4 bs st)(aX:Chg (λb=>u4.ownBlock=some b) W a7){b d}(hn:n9=(bs++[b]).length)(bi:a7.ownsRow I 152 5 (ia g9 n9 cap9) n9 (bcF (bs++[b])))(bf:u4.ownBlock=some g9\/W.heap.size<=g9)(hb:Mv (Mst P u1 u2 u3 u4) W (Mst P u1 u2 u3 (ia g9 n9 cap9)) (a7.setCell ⟨P,3,none⟩ (ia g9 n9 cap9))->BcOK (Mst P u1 u2 u3 (ia g9 n9 cap9)) (a7.setCell ⟨P,3,none⟩ (ia g9 n9 cap9)) b d):
  WS (a7.setCell ⟨P,3,none⟩ (ia g9 n9 cap9)) P I u1 u2 u3 (ia g9 n9 cap9) (bs++[b]) {st with names:=st.names++[d]}/\Mv (Mst P u1 u2 u3 u4) W (Mst P u1 u2 u3 (ia g9 n9 cap9)) (a7.setCell ⟨P,3,none⟩ (ia g9 n9 cap9)):=by
 exact qbp
theorem Ox{W:World}{e s g cap k:Nat}{xs u}(h:W.ownsRow I e s (ia g n cap) n xs):(W.setCell ⟨g,k,none⟩ u).ownsRow I e s (ia g n cap) n (xs.set k u):=by
 refine⟨by rw[List.length_set];exact h.1,?_⟩;rcases h.2 with⟨c,_⟩|⟨aI,cap',ao,ad,R,a6,U,bZ,ct,b2⟩
 ·cases c
 cases ad;refine .inr ⟨g,_,ao.setIfInBounds k u,rfl,R,?_,U,bZ,by grind,?_⟩
 ·rw[heap_setCell_same W g k _ _ _ a6]
 grind[List.take_set]
theorem B8:∀(bs:List Bc) (k:Nat) (v:Int),k<bs.length->(bcF bs).set (k*5+2) (ih v)=bcF (bs.set k {bs.getD k i2 with val:=v})
 |b::r,0,v,_=>by simp[bcF,Bc.cells]
 |b::r,k+1,v,h=>by
  have hb:b.cells.length=5:=rfl
  rw[bcF,List.set_append_right _ _ xaa,hb,show(k+1)*5+2-5=k*5+2 by omega,B8 r k v (by simpa using h)]
  rfl
theorem WS.setv{W}(h:WS W P I u1 u2 u3 u4 bs st){i}(hi:i<bs.length){s}{B v:Nat}(aN:st.names.getD i (.val [] 0)=.val s B):∃cc ce,u4=ia cc bs.length ce/\cc<W.heap.size/\W.frozen? ⟨cc,i*5+2,none⟩=false/\WS (W.setCell ⟨cc,i*5+2,none⟩ (ih v)) P I u1 u2 u3 u4 (bs.set i {bs.getD i i2 with val:=(v:Int)}) (st.setV i s v)/\Mv (Mst P u1 u2 u3 u4) W (Mst P u1 u2 u3 u4) (W.setCell ⟨cc,i*5+2,none⟩ (ih v)):=by
 obtain⟨cc,ce,e4,_,az,_,bz⟩:=lQ h.r4 xaa;have l:u4.ownBlock=some cc:=jL e4
 have cD:W.frozen? ⟨cc,i*5+2,none⟩=false:=by
  rcases h.r4.2 with⟨c,c2⟩|⟨aI,cap',ao,ad,R,a6,_⟩
  ·omega
  cases e4.symm.trans ad;simp[World.frozen?,a6]
 refine⟨_,_,e4,az,cD,?_⟩;have aS:=eU (lo:=cc) (hi:=cc+1) W ⟨_,i*5+2,none⟩ (ih v) yac;have an:Mv _ W (Mst P u1 u2 u3 _) _:=⟨aS.chg1 (.inr (.inr (.inr (.inr l)))),λb hb=>.inl hb⟩
 obtain⟨Y,ae,aa,U⟩:=h.np;obtain⟨m,g,q,w,r,z⟩:=h.ap;have F:cc≠P:=λe=>U (by grind);have es:∀o,(W.setCell ⟨_,i*5+2,_⟩ (ih v)).cell? _=W.cell? ⟨P,o,_⟩:=λo=>eG _ _ _ _ _ _ (.inl F);refine⟨⟨by simpa using h.lt,λo=>by simp[h.fr o],(es 0).trans h.c0,(es 1).trans h.c1,(es 2).trans h.c2,(es 3).trans h.c3,(es 4).trans h.c4,(es 5).trans h.c5,(es 6).trans h.c6,eH h.r1 (λc=>q _ c l),eH h.r2 (λc=>r _ c l),eH h.r3 (λc=>z _ c l),?_,h.np,h.ap,?_,λj hj=>?_,h.sz⟩,an⟩
 ·have:=Ox (k:=i*5+2) (u:=ih v) (by have:=h.r4;rw[e4]at this;exact this);rw[B8 _ i v hi]at this;rw[e4,List.length_set];exact this
 ·show(bs.set i _).length=(st.names.set i _).length;rw[List.length_set,List.length_set,h.nl]
 rw[List.length_set]at hj;show BcOK _ _ ((bs.set i _).getD j i2) ((st.names.set i _).getD j (.val [] 0));by_cases c:j=i
 ·subst c;have hb:=h.nb j hi;rw[aN]at hb;rw[rg _ _ _ _ hi,rg _ _ _ _ (jv h.nl hi)];exact⟨hb.1,hb.2.1,rfl⟩
 rw[uj _ _ _ _ _ (λe=>c e.symm),uj _ _ _ _ _ (λe=>c e.symm)];exact(h.nb j hj).mv an
def StO(W:World)(P B:Nat)(u1 u2 u3 u4:Value)(r:Rs LSt)(e:Ending)(W':World):Prop:=
 e=.returned (.tuple #[])/\match r with
 |.error (c,p)=>W'.cell? ⟨P,5,none⟩=some (.int .i64 c)/\W'.cell? ⟨P,6,none⟩=some (.int .i64 (p:Int))/\Chg (Mst P u1 u2 u3 u4) W W'
 |.ok st=>∃bs v1 v2 v3 v4,WS W' P B v1 v2 v3 v4 bs st/\Mv (Mst P u1 u2 u3 u4) W (Mst P v1 v2 v3 v4) W'
end
section
attribute[local go_sem] eE eC eB
variable{f j P I g an m cap:Nat}{ps us ts:List Tok}{u1 u2 u3 u4:Value}{st:LSt}{s:List UInt8}{bs:List Bc}{n k q:Tok}{e:Ex}{r:Rs LSt}
theorem Ib{W}(ab:TrIn W P I u1 u2 u3 u4 bs st none 0 [] g an m cap (k::ts))(J:k.sym=Jj)(aB:Pr 2 [e] ts)(h:iz f st (.outS k e)=some r):
  Calls prog 88 #[ge P,.slice (some ⟨g,an,none⟩) m cap] W (StO W P I u1 u2 u3 u4 r):=by
 have aD:=ab.tk.len;rw[yaq]at aD;have ag:=iW aB;have bW:=ab.mc;have bJ:=ab.m5;have aR:=ab.gd.o;have c0:=ab.tk.c0 0 xaa;have c1:=ab.tk.c1 0 xaa;rw[show(k::ts).getD 0 i1=k from rfl]at c0 c1;rw[J]at c0;rw[show Jj=[111,117,116] from rfl]at c0;have p2:=ab.ws.c2;obtain⟨a3,cb,ah⟩:=ja ab.ws.r3;have bF:V _:=ab.ws;have cp:V _:=ab.gd;simp only[Nat.zero_mul,Nat.add_zero]at c0 c1;simp only[iz]at h;by_cases ai:50<=st.outs.length
 ·rw[iv ai]at h;have HR:V _:=(ix h).symm;have bo:V _:=jp ab.ws.c5 ab.ws.c6 ab.ws.fr 5 k.pos (Mst P u1 u2 u3 u4) (.inl rfl);have a0:(50:Int)<=(st.outs.length:Int):=xaa;clear ab h;subst ah;generalize st.outs.length=d at*;generalize k.pos=aS at*;go_enter func88,ntmps88;go_wp2_with (go_at_call 101;refine yaj bo.o ?_;rintro e aM ⟨rfl,ba⟩);refine yaz (v:=.tuple #[]) (by simp[results,results88,go_sem]) rfl ?_;rw[HR.o];exact⟨rfl,ba.c5,ba.c6,ba.chg⟩
 rw[ip ai]at h;cases ay:eM f st [] e with
 |none=>rw[ay]at h;cases h
 |some ar=>
  rw[ay]at h;have HR:V _:=(ix h).symm;have bU:=jf aB (λt ht=>ab.ti t (by simp[ht])) e xac;have bR:=gc f st [] e ab.gd ab.nm ab.lo bU ar ay
  have aw:=ab.sub ab.ws (Gw.refl ab.gd) (Mv.refl _ _) 1 m yad ts (by
   rw[List.drop_succ_cons,List.drop_zero,yap xaa]) (cap':=cap-1) xaa
  have bi:V _:=trc f W P I u1 u2 u3 u4 bs st none 0 0 [] g _ _ _ ts aw 2 e aB yad ar ay;have a0:¬(50:Int)<=(st.outs.length:Int):=xaa;have bD:V _:=bR;clear aw bR ab h ay;subst ah;generalize z:st.outs.length=d at*;have Q:V _:=z;clear z;generalize k.pos=aS at*;rcases ar with⟨c,p⟩|⟨s,v⟩
  ·go_enter func88,ntmps88;go_wp2_with (go_at_call 102;refine yaj bi.o ?_;rintro e aM ⟨rfl,bh⟩);refine yaz (v:=.tuple #[]) (by simp[results,results88,go_sem]) rfl ?_;rw[HR.o];exact⟨rfl,bh⟩
  obtain⟨w,aL⟩:=bD.o s v rfl;have cM:0<=(v:Int):=xaa;have b7:V _:=w.o;go_enter func88,ntmps88;go_upto_region 6 with (go_at_call 102;refine yaj bi.o ?_;rintro e aM ⟨rfl,bf,bb,bc,C,a8,bC⟩);have aF:=a8.c2;have bj:=eA 0 0 aM (.cells #[ih v] 3);have b:V _:=a8.keep bj;have b1:(aM.alloc (.cells #[ih v] 3)).cell? ⟨aM.heap.size,0,none⟩=some (ih v):=by rw[yav];rfl
  have aO:V _:=bC.keep bj;have bN:V (I<=aM.heap.size):=by show _<=_;have:=a8.sz;have:=a8.lt;omega
  have bZ:V _:=w.g.o;clear a8 bC c0 c1 p2 bi bD w;go_wp2_with (first|(at_builtin;refine fZ _ rfl _ _ rfl I _ s.outs (by rfl) b.o.r3 ⟨aM.heap.size,0,none⟩ (v:Int) (by rfl) b1 ?c2 ?c3 ?_)|fail)
  case c2=>have:=bZ.o;omega
  case c3=>have:=bN.o;simp;omega
  intro g9 cap9 n9 a7 a2 aQ ap bV;obtain⟨(u:V _),af⟩:=b.o.outs_ (n9:=n9) (cap9:=cap9) (g9:=g9) (zs:=s.outs++[(v:Int)]) ap (by rw[a2];simp) (by rw[List.map_append];exact aQ) (bV.imp id (λe=>by rw[e];simp));have aY:=b.o.lt;have aP:=(ap.cell (p:=⟨P,2,none⟩) aY b.o.np.2.2.1).trans b.o.c2;have aX:=(ap.frozen (p:=⟨P,2,none⟩) aY b.o.np.2.2.1).trans (b.o.fr 2);have bn:V _:=aO.o.trans af;clear af ap aQ bV a2 bj b1 b aO;go_wp2_with fail;refine yaz (v:=.tuple #[]) (by simp[results,results88,go_sem]) rfl ?_;rw[HR.o];exact⟨rfl,_,_,_,_,_,u.o,bn.o⟩
theorem Oy{S k}(J:k<S.length)(B:(S.getD k (.val [] 0)).nm=s)(N:∀j,j<k->(S.getD j (.val [] 0)).nm≠s):Kd S s=k:=by
 unfold Kd;rw[List.findIdx_eq J];have e:∀j (hj:j<S.length),S.getD j (.val [] 0)=S[j]:=λj hj=>by simp_all
 grind
theorem K8(g:Gd st)(i s v):Gd (st.setV i s v):=⟨g.n,g.c,g.ok,g.k,g.i,g.o,by show(st.names.set i _).length<=5000;rw[List.length_set];exact g.m⟩
theorem K9(h:NmOK st)(i s){v}(aL:v<st.vs.length):NmOK (st.setV i s v):=λb hb=>by
 have K:b∈st.names.set i _:=hb
 rcases List.mem_or_eq_of_mem_set K with c|c
 ·exact h b c
 ·subst c;exact aL
theorem Ic(M W):LcR M W none 0 []:=⟨rfl,λh=>by omega⟩
theorem TrIn.later{W af Q u}(h:TrIn W P I u1 u2 u3 u4 bs st af Q u g an m cap ts){F bf bb bc C x R}(S:WS F P I bf bb bc C x R)(aH:Gd R)(aa:NmOK R)(k:Mv (Mst P u1 u2 u3 u4) W (Mst P bf bb bc C) F)(i)(hi:i<m)(us)(G:us=ts.drop i):TrIn F P I bf bb bc C x R none 0 [] g (an+i*3) (m-i) (cap-i) us where
 ws:=S
 gd:=aH
 nm:=aa
 lc:=Ic _ _
 ln:=yae
 lo:=λb hb=>by cases hb
 tk:=(h.tk.keepC k.chg h.tg).in_ i m us (by rw[G,yap (by rw[List.length_drop,h.tk.len];exact yad)]) yad
 tg:=λc=>(k.new g c).elim h.tg (λc=>i4 h.tk.lt)
 m5:=i4 h.m5
 mc:=i4 h.mc
 ti:=λt ht=>h.ti t (by grind)
 tn:=λt ht=>h.tn t (by grind)
theorem Id{W i}(ab:TrIn W P I u1 u2 u3 u4 bs st none 0 [] g an m cap (k::i::n::q::ts))(J:k.sym=Jk)(hi:i.sym=ik)(aB:Pr 2 [e] ts)(h:iz f st (.rep i n e)=some r):
  Calls prog 88 #[ge P,.slice (some ⟨g,an,none⟩) m cap] W (StO W P I u1 u2 u3 u4 r):=by
 have aD:=ab.tk.len;simp only[yaq]at aD;have ag:=iW aB;have bW:=ab.mc;have bJ:=ab.m5;have bD:bs.length<=100000:=by rw[ab.ws.nl];have:=ab.gd.m;omega
 have c0:=ab.tk.c0 0 xaa;have bY:=ab.tk.c0 1 xaa;have ca:=ab.tk.c1 1 xaa;have ct:=ab.tk.c2 1 xaa;have Y:=ab.tk.c1 2 xaa;have ae:=ab.tk.c2 2 xaa;rw[show(k::i::n::q::ts).getD 0 _=k from rfl]at c0;rw[show(k::i::n::q::ts).getD 1 _=i from rfl]at bY ca ct;rw[show(k::i::n::q::ts).getD 2 _=n from rfl]at Y ae;rw[J]at c0;rw[show Jk=[114,101,112,101,97,116] from rfl]at c0;have bI:=ab.ti i xac hi;have cn:V _:=λF=>yZ i bI F;have aH:=pD bI yad;rw[yap yad]at aH;have aT:V _:=ab;have bU:=jf aB (λt ht=>ab.ti t (by simp[ht])) e xac;have bj:V _:=aB;have ai:V _:=bU;have be:V _:=qR ab.ws.c3 ab.ws.r4 bD n.text;have bb:=ab.ws.c3;have z:V _:=lQ ab.ws.r4;have bo:V (∀F,Kept 0 0 W F->∀c p,_):=λF al c p=>jp (ab.ws.keep al).c5 (ab.ws.keep al).c6 (ab.ws.keep al).fr c p (Mst P u1 u2 u3 u4) (.inl rfl);have au:V (∀F,Kept 0 0 W F->_):=λF al=>(al.cell (p:=⟨g,an+3+1,_⟩) ab.tk.lt xaa).trans ca;obtain⟨a4,cA,ax⟩:=jq ab.ws.r4;simp only[Nat.zero_mul,Nat.add_zero,Nat.one_mul]at c0 bY ca ct Y ae;simp only[iz]at h;have HR:V _:=h;clear h ab aB bU bI hi J;obtain⟨bm,bf,bp⟩:=i;obtain⟨b2,K,H⟩:=n;unfold iS at cn;simp only at*;subst ax;generalize bi:ii _=bA at*;clear bi;go_enter func88,ntmps88;go_upto_region 9 with (go_at_call 103;refine yaj be.o ?_;rintro e ak ⟨bu,rfl,bK,S⟩;obtain rfl:=S.symm);clear be;rcases bK with⟨aC,bO,rfl,N,ah⟩|⟨rfl,hn⟩
 ·have aN:V _:=oq aT.o.ws bO N ah;have l:V _:=aT.o.ws.nb _ bO;have aW:V (Kd _ H=aC):=Oy (jv aT.o.ws.nl bO) (by rw[<-vf (aT.o.ws.nb _ bO)];exact N) (λj hj=>by rw[<-vf (aT.o.ws.nb j xaa)];exact ah j hj);obtain⟨cc,ce,e4,_,_,_,bz⟩:=z.o xaa;cases e4;obtain⟨_,aX,_,_,_⟩:=bz _ bO;have Z:¬((aC:Int)<0):=xaa;have HD:V _:=(show st.names.getD _ (.val [] 0)=st.names.getD aC _ from rfl)
  generalize f0:st.names.getD aC _=cr at aN l;have ey:V _:=f0;clear f0 HD;generalize ao:bs.getD aC _=b at aX l;clear ao;have bN:V _:=bO;cases cr with
  |fn aa ps ad=>
   have w:=l.o.2.1;rw[w]at aX
   have aI:V (r=.error (3,K)):=by
    have h:=HR.o;rw[aN.o]at h;exact(ix h).symm
   have Q:V _:=bo.o W (Kept.refl 0 0 W) 3 K;clear N ah bz l z bo;generalize bs.length=nn at*;go_wp2_with (go_at_call 101;refine yaj Q.o ?_;rintro e aM ⟨rfl,ba⟩);refine yaz (v:=.tuple #[]) (by simp[results,results88,go_sem]) rfl ?_;rw[aI.o];exact⟨rfl,ba.c5,ba.c6,ba.chg⟩
  |val aa B=>
   have w:=l.o.2.1
   have cR:V (aa=H):=by
    have:=vf (aT.o.ws.nb _ bO);rw[ey.o]at this;exact this.symm.trans N
   rw[w]at aX;clear N ah bz l z;have aF:=bO;generalize b6:bs.length=nn at bb bO bD;go_upto_region 12 with (go_at_call 104;refine yaj (cn.o _) ?_;rintro e aM ⟨rfl,a9⟩);have bZ:V _:=a9;clear a9 c0 bY ca ct Y ae aX bb cn;by_cases aS:100<bA
   ·have aI:V (r=.error (5,bf)):=by
     have h:=HR.o;rw[aN.o]at h;simp only[iv aS]at h;exact(ix h).symm
    have aj:V _:=bo.o _ bZ.o 5 bf;have ca:=au.o _ bZ.o;clear bo au;go_wp2_with (go_at_call 101;refine yaj aj.o ?_;rintro e bx ⟨rfl,ba⟩);refine yaz (v:=.tuple #[]) (by simp[results,results88,go_sem]) rfl ?_;rw[aI.o];exact⟨rfl,ba.c5,ba.c6,(Mv.of bZ.o).bad ba.chg⟩
   obtain⟨aZ,rfl⟩:∃aZ:Nat,bA=aZ:=⟨bA.toNat,by omega⟩
   have aI:V (nF f e aC H aZ st=some r):=by
    have h:=HR.o;rw[aN.o]at h;simp only[ip aS]at h;rw[aW.o,Int.toNat_natCast]at h;exact h
   have d:V (st.names.getD aC (.val [] 0)=.val H B):=by show _=_;rw[ey.o,cR.o]
   have a2:V (∀F x aV bg bq bB s,WS _ P I aV _ _ _ x s->Gd s->NmOK s->Mv _ W _ F->∀ar,eM f s _ e=some _->RsG s _/\Calls _ _ _ _ _):=λF x aV bg bq bB s S az R bE ar aG=>⟨gc f s _ e az R (λb hb=>by cases hb) ai.o _ aG,trc f _ P I _ bg bq bB _ s _ 0 0 _ g _ _ _ _ (aT.o.later S az R bE 4 xaa _ rfl) 2 e bj.o yad ar aG⟩
   have am:V _:=aT.o.ws.keep bZ.o;have aU:V _:=aT.o.gd;have a0:V _:=aT.o.nm;clear HR aW aN ey bo au cR bj ai aT;go_wp2_with fail;go_loopw [8] (λnv F=>∃(j:Nat) (s:LSt) (x:List Bc) (aV bg bq bB:Value) (aO:Nat),j<=aZ/\nv=ih j/\V (WS F P I aV bg bq bB x s)/\V (Mv (Mst P u1 u2 u3 (ia cc bs.length cA)) W (Mst P aV bg bq bB) F)/\V (nF f e aC H (aZ-j) s=some r)/\V (Gd s)/\V (NmOK s)/\V (x.length=bs.length)/\V (s.names.getD aC (.val [] 0)=.val H aO)) (λnv _=>aZ-(intOf nv).toNat)
   case atStart=>exact⟨0,_,_,_,_,_,_,_,yae,rfl,am,(show V _ from Mv.of bZ.o),aI,aU,a0,(show V _ from rfl),d⟩
   case round=>
    obtain⟨j,s,x,aV,bg,bq,bB,aO,hj,rfl,aA,X,aq,bd,ay,U,a7⟩:=hrel;clear aI d am aU a0;by_cases aY:j<aZ
    ·cases O:eM f s [] e with
     |none=>
      exfalso;have h:=aq.o;rw[show aZ-j=(aZ-j-1)+1 by omega,nF,O]at h;cases h
     |some ar=>
      obtain⟨ap,a5⟩:=a2.o _ _ _ _ _ _ s aA.o bd.o ay.o X.o _ O;have G:V _:=ap;have aw:V _:=a5;have a8:V _:=aq.o;rw[show aZ-j=(aZ-j-1)+1 by omega,nF,O]at a8;clear ap a5 O aq;rcases ar with⟨c,p⟩|⟨av,v⟩
      ·have aI:V _:=(ix a8.o).symm;go_wp2_with (go_at_call 102;refine yaj aw.o ?_;rintro e bx ⟨rfl,bh⟩);refine yaz (v:=.tuple #[]) (by simp[results,results88,go_sem]) rfl ?_;rw[aI.o];exact⟨rfl,bh.1,bh.2.1,X.o.bad bh.2.2⟩
      obtain⟨aK,aL⟩:=G.o _ v rfl;have cM:¬((v:Int)<0):=xaa;have a6:V (av.names.getD aC (.val [] 0)=.val H aO):=by show _=_;rw[aK.m];exact a7.o
      have cG:V _:=K8 aK.g aC H v;have br:V _:=K9 (NmOK.gw ay.o aK) aC H aL;have C:V (nF f e aC H (aZ-(j+1)) (av.setV aC H v)=some r):=by show _=_;rw[show aZ-(j+1)=aZ-j-1 by omega];exact a8.o
      go_upto_region 19 with (go_at_call 102;refine yaj aw.o ?_;rintro e bx ⟨rfl,aJ,aP,bw,b3,aR,bX⟩);obtain⟨bS,bL,cl,gr,cD,bl,af⟩:=aR.setv (v:=v) (jn U.o aF) a6.o;have bv:=aR.c3;rw[cl,U.o,b6]at bv;have cF:=(lQ aR.r4 (jx U.o))
      obtain⟨ed,bk,aQ,_,_,_,bz⟩:=cF;have cK:=(bz _ (jn U.o aF)).2.2.1;rw[cl]at aQ;cases aQ;have u:V _:=bl;have bn:V _:=(X.o.trans bX).trans af;have y:V ((x.set aC {x.getD aC i2 with val:=v}).length=bs.length):=by show _=_;rw[List.length_set];exact U.o
      have bc:V ((av.setV aC H v).names.getD aC (.val [] 0)=.val H v):=by
       show(av.names.set aC _).getD aC _=_;rw[rg _ _ _ _ (by rw[<-aR.nl,U.o];exact aF)]
      clear bz bl af aR bX X aA aw G a8 bd ay a7 aK gr;go_wp2_with fail;go_roundw;exact⟨j+1,av.setV aC H v,_,aJ,aP,bw,b3,v,by omega,by go_num,u,bn,C,cG,br,y,bc⟩;simp[intOf];omega
    obtain rfl:j=aZ:=xaa
    have aI:V (r=.ok s):=by
     have h:=aq.o;rw[Nat.sub_self,nF]at h;exact(ix h).symm
    clear aq a2;go_wp2_with fail;refine yaz (v:=.tuple #[]) (by simp[results,results88,go_sem]) rfl ?_;rw[aI.o];exact⟨rfl,_,_,_,_,_,aA.o,X.o⟩
 have aI:V (r=.error (3,K)):=by
  have h:=HR.o;rw[oO aT.o.ws hn]at h;exact(ix h).symm
 have Q:V _:=bo.o W (Kept.refl 0 0 W) 3 K;clear hn z bo bb;go_wp2_with (go_at_call 101;refine yaj Q.o ?_;rintro e aM ⟨rfl,ba⟩);refine yaz (v:=.tuple #[]) (by simp[results,results88,go_sem]) rfl ?_;rw[aI.o];exact⟨rfl,ba.c5,ba.c6,ba.chg⟩
theorem Oz:(prog.info? 152).map (λi=>(i.zero,i.size,i.bytes))=some (some (.agg #[.string ⟨#[]⟩,.bool false,ih 0,.slice none 0 0,.slice none 0 0]),5,80):=by kernel_rfl
theorem nz:∃bY,prog.info? 152=some bY/\bY.zero=some (.agg #[.string ⟨#[]⟩,.bool false,ih 0,.slice none 0 0,.slice none 0 0])/\bY.size=5/\bY.bytes=80:=by
 have h:=Oz;simp_all
theorem Ie(w:World)(b:Bc)(m):∀j u,b.cells[j]? =some u->((w.alloc (.cells #[eL b.nm,.bool b.fn,ih b.val,.slice b.pa b.pn b.pc,.slice b.ba b.bn b.bc] 152)).drewN m).cell? ((⟨w.heap.size,0,none⟩:Addr).add j)=some u:=λj u G=>
 World.news_of_block (w:=w.alloc (.cells #[eL b.nm,.bool b.fn,ih b.val,.slice b.pa b.pn b.pc,.slice b.ba b.bn b.bc] 152)) (t:=152) (fr:=(0,0)) (cs:=#[eL b.nm,.bool b.fn,ih b.val,.slice b.pa b.pn b.pc,.slice b.ba b.bn b.bc]) (nU _ _) j u G
theorem OA(b:Bc):∀u∈b.cells,u.oneCell'=true:=λu G=>by
 simp only[Bc.cells,List.mem_cons,List.not_mem_nil,or_false]at G
 rcases G with rfl|rfl|rfl|rfl|rfl<;>rfl
theorem pL{W}(h:WS W P I u1 u2 u3 u4 bs st)(ag:bs.length<=100000)(br:iI st.names s=none):Calls prog 103 #[ge P,eL s] W λe F=>e=.returned (ih (-1))/\F=W:=
 yaj (qR h.c3 h.r4 ag s) (λe F ⟨r,ad,bK,S⟩=>by
  rcases bK with⟨aC,bO,rfl,N,ah⟩|⟨rfl,hn⟩
  ·rw[oq h bO N ah]at br;cases br
  grind)
theorem pM{W}(h:WS W P I u1 u2 u3 u4 bs st)(ag:bs.length<=100000){d}(br:iI st.names s=some d):Calls prog 103 #[ge P,eL s] W λe F=>∃k:Nat,e=.returned (ih k)/\F=W:=
 yaj (qR h.c3 h.r4 ag s) (λe F ⟨r,ad,bK,S⟩=>by
  rcases bK with⟨aC,bO,rfl,N,ah⟩|⟨rfl,hn⟩<;>grind[oO])
theorem uk{r d}(h:iI st.names n.text=some d):pd st n r=some (.error (3,n.pos)):=by unfold pd;rw[h]
theorem ul{r}(h:iI st.names n.text=none):pd st n r=r:=by unfold pd;rw[h]
theorem cU.qdu(h:Zp:=by
 clear ay Y ae;cases U:iI st.names H with
 |some d=>
  exact qai
 |none=>
  exact qfu):Zp:=h
theorem cU.qfl(h:Zp:=by
 rw[show(k::n::q::ts).getD 0 _=k from rfl]at c0;rw[show(k::n::q::ts).getD 1 _=n from rfl]at ay Y ae;rw[J,show Ji=[108,101,116] from rfl]at c0;exact qgr):Zp:=h
theorem cU.qfv(h:Zp:=by
 have aI:V ((eM f st [] e).map (qt H)=some r):=by
  have h:=HR.o;rw[ul HFn.o]at h;exact h
 cases O:eM f st [] e with
 |none=>exfalso;have h:=aI.o;grind
 |some ar=>
  have al:V (r=qt H ar):=by
   have h:=aI.o;rw[O]at h;exact(ix h).symm
  have ap:=gc f _ _ e aT.o.gd aT.o.nm (λb hb=>by cases hb) ai.o _ O;have G:V _:=ap;have aw:V _:=trc f _ P I _ _ _ _ _ _ _ 0 0 _ g _ _ _ _ (aT.o.later b4.o aT.o.gd aT.o.nm (Mv.of HK.o) 3 xaa _ rfl) 2 e bj.o yad _ O;clear ap O aI HR HFn bj ai;rcases ar with⟨c,p⟩|⟨s,v⟩
  ·go_wp2_with (go_at_call 102;refine yaj aw.o ?_;rintro e aM ⟨rfl,bh⟩);refine yaz (v:=.tuple #[]) (by simp[results,results88,go_sem]) rfl ?_;rw[al.o];exact⟨rfl,bh.1,bh.2.1,(Mv.of HK.o).bad bh.2.2⟩
  obtain⟨w,aL⟩:=G.o s v rfl;have cM:(0:Int)<=v:=xaa;have ce:=w.g;have co:V (r=.ok _):=al.o;go_upto_region 49 with (go_at_call 102;refine yaj aw.o ?_;rintro e aK ⟨rfl,bf,bb,bc,C,X,bC⟩);have bS:V _:=(Mv.of HK.o).trans bC;have bF:V _:=ao.o.keepC bC.chg aP.o;have bO:¬Mst P _ _ _ _ _:=λc=>(bC.new _ c).elim aP.o (λc=>i4 ao.o.lt);clear aw G al bC aT b4 R a6 ao w;obtain⟨bY,bg,cg,b8,cc⟩:=nz;have bv:=X.c3;have cD:=X.fr 3;have cx:=X.lt;have bX:I<=aK.heap.size:=i4 X.sz
  obtain⟨a4,cA,e4⟩:=jq X.r4;have ah:V (C.ownBlock≠some P/\C.ownBlock≠some _):=⟨X.np.2.2.2,λc=>bO (.inr (.inr (.inr (.inr c))))⟩
  exact qgx):Zp:=h
theorem cU.qgs(h:Zp:=by
 have bj:V _:=aB;have ai:V _:=bU;clear h ab aB bU J;exact qhi):Zp:=h
theorem cU.qgy(h:Zp:=by
 go_upto_region 50 with fail
 go_region_law
  ((refine step_append_lies _ rfl _ _ _ rfl I 152 _ _ 5 _ underlying131 bg cg b8 cc rfl xab _ _ _ (by simp[Act.eval]) (kN bi.o 1 _) _ 1 1 (Bc.cells ⟨_,_,_,_,0,0,_,0,0⟩) (by simp[Act.eval]) rfl (Ie _ _ _) (OA _) xab (by unfold maxLen;omega) xaa yag _ rfl ?_;intro g9 cap9 a7 Z bp br cr;have a0:=jS bp cx ah.o.1 bv;have bT:=far2 bp cx ah.o.1 cD;have av:=jS bp bM ah.o.2 bd))
 all_goals
  have bE:=br.imp id (λe=>Nat.le_of_eq e.symm)
  have aV:=(eA 0 0 aK (.cells #[eL H,.bool false,ih v,.slice none 0 0,.slice none 0 0] 152)).trans (eJ 0 0 _ 1)
  obtain⟨(u:V _),af⟩:=(bw.o.keep aV).nms_ (d:=.val H v) (n9:=aZ+1) (fA bp) (by rw[yal,bu.o];rfl) (by rw[wI,wJ];exact Z) bE (λ_=>⟨rfl,rfl,rfl⟩)
  have bn:V _:=(bS.o.keep aV).trans af
  clear af bE aV Z bp br cr a0 bT av
  go_wp2_with fail
  refine yaz (v:=.tuple #[]) (by simp[results,results88,go_sem]) rfl ?_
  rw[co.o]
  exact⟨rfl,_,_,_,_,_,u.o,bn.o⟩):Zp:=h
open cU in
theorem If{W}(ab:TrIn W P I u1 u2 u3 u4 bs st none 0 [] g an m cap (k::n::q::ts))(J:k.sym=Ji)(aB:Pr 2 [e] ts)(h:iz f st (.letS n e)=some r):
  Calls prog 88 #[ge P,.slice (some ⟨g,an,none⟩) m cap] W (StO W P I u1 u2 u3 u4 r):=by
 have ag:=iW aB;have bU:=jf aB (λt ht=>ab.ti t (by simp[ht])) e xac;have aD:=ab.tk.len;simp only[yaq]at aD;exact qfk
theorem cV.qdu(h:Zp:=by
 clear ay Y ae;cases U:iI st.names H with
 |some d=>
  exact qai
 |none=>
  exact qfu):Zp:=h
theorem cV.qfl(h:Zp:=by
 rw[show([k,n,c,l]).getD 0 _=k from rfl]at c0;rw[show([k,n,c,l]).getD 1 _=n from rfl]at ay Y ae;rw[J,show kIn=[105,110] from rfl]at c0;exact qgr):Zp:=h
theorem cV.qfv(h:Zp:=by
 obtain⟨a5,cj,cw⟩:=bk.o _ HK.o
 have aI:V (r=inR st ⟨b2,K,H⟩ ⟨bQ,au,bR⟩):=by
  have h:=HR.o;rw[ul HFn.o]at h;exact(ix h).symm
 clear HR HFn;go_upto_region 43 with (go_at_call 104;refine yaj (cn.o _) ?_;rintro e aM ⟨rfl,a9⟩);have bZ:V _:=HK.o.trans a9;have b7:V _:=ao.o.keep a9;have am:V _:=b4.o.keep a9;obtain⟨_,cj,_⟩:=bk.o _ bZ.o;have R:=b7.o.c1;have aJ:V _:=aP.o;clear a9 cn b4 HK a5 cw a6 c0
 have w:V (r=if bA<1\/1000<bA then .error (4,au)else if 20<=st.ins.length then .error (5,K)else qt H (fQ {st with ins:=st.ins++[bA]} (eK 0 bA (st.ins.length:Int) 0 0) K)):=by
  show _=_;rw[aI.o];unfold inR;simp only;rw[aN.o]
 clear aI aN;have aG:V _:=λaz aF=>jp am.o.c5 am.o.c6 am.o.fr az aF (Mst P u1 u2 u3 u4) (.inl rfl);by_cases B:bA<1
 ·have bo:V (r=.error (4,au)):=by show _=_;rw[w.o,iv (.inl B)]
  have aw:V _:=aG.o 4 au;clear w aG am;go_wp2_with (go_at_call 101;refine yaj aw.o ?_;rintro e bx ⟨rfl,ba⟩);refine yaz (v:=.tuple #[]) (by simp[results,results88,go_sem]) rfl ?_;rw[bo.o];exact⟨rfl,ba.c5,ba.c6,(Mv.of bZ.o).bad ba.chg⟩
 by_cases N:1000<bA
 ·have bo:V (r=.error (4,au)):=by show _=_;rw[w.o,iv (.inr N)]
  have aw:V _:=aG.o 4 au;clear w aG am;go_wp2_with (go_at_call 101;refine yaj aw.o ?_;rintro e bx ⟨rfl,ba⟩);refine yaz (v:=.tuple #[]) (by simp[results,results88,go_sem]) rfl ?_;rw[bo.o];exact⟨rfl,ba.c5,ba.c6,(Mv.of bZ.o).bad ba.chg⟩
 obtain⟨a1,bH,ad⟩:=ja am.o.r1;have bG:=am.o.c0;by_cases h3:20<=st.ins.length
 ·have bo:V (r=.error (5,K)):=by show _=_;rw[w.o,ip xaa,iv h3]
  have aw:V _:=aG.o 5 K;have b5:(20:Int)<=st.ins.length:=xaa;rw[ad]at bG;clear w aG am cj;generalize st.ins.length=ni at*;go_wp2_with (go_at_call 101;refine yaj aw.o ?_;rintro e bx ⟨rfl,ba⟩);refine yaz (v:=.tuple #[]) (by simp[results,results88,go_sem]) rfl ?_;rw[bo.o];exact⟨rfl,ba.c5,ba.c6,(Mv.of bZ.o).bad ba.chg⟩
 have aA:V (r=qt H (fQ {st with ins:=st.ins++[bA]} (eK 0 bA (st.ins.length:Int) 0 0) K)):=by show _=_;rw[w.o,ip xaa,ip h3]
 have aS:1<=bA/\bA<=1000:=xaa;have G:V _:=L5 aT.o.gd bA xaa;have cq:V _:=λcB v (e:fQ _ _ K=.ok (cB,v))=>ot G.o (L6 aT.o.gd aS) e;have b1:(aM.alloc (.cells #[ih bA] 3)).cell? ⟨aM.heap.size,0,none⟩=some (ih bA):=by rw[yav];rfl
 have bj:=eA 0 0 aM (.cells #[ih bA] 3);have b:V _:=am.o.keep bj;have aa:V _:=bZ.o.trans bj;have ct:V _:=b7.o.keep bj;have bN:V (I<=aM.heap.size):=by show _<=_;have:=am.o.sz;have:=am.o.lt;omega
 have b5:¬(20:Int)<=st.ins.length:=xaa;have bB:V (st.ins.length<20):=by show _<_;omega
 clear w aG am cj b7 bj R;subst ad;go_upto_region 47 with fail;go_wp2_with (first|(at_builtin;refine fZ _ rfl _ _ rfl I _ _ (by rfl) b.o.r1 _ bA (by rfl) b1 ?c2 ?c3 ?_)|fail)
 case c2=>have:=bB.o;omega
 case c3=>have:=bN.o;simp;omega
 intro g9 cap9 n9 a7 a2 aQ ap bV;obtain⟨bl,af⟩:=b.o.ins_ (n9:=n9) (zs:=st.ins++[bA]) ap (by rw[a2];simp) (by rw[List.map_append];exact aQ) (bV.imp id (λe=>by rw[e];simp));have aY:=b.o.lt;have a8:=(ap.cell aY b.o.np.1).trans b.o.c0;have aX:=(ap.frozen aY b.o.np.1).trans (b.o.fr 0);have bq:n9=st.ins.length+1:=by rw[a2]
 subst bq;have u:V _:=bl;have ar:V _:=(Mv.of aa.o).trans af;have y:V _:=ct.o.keepC af.chg aJ.o;have cP:V (¬Mst P _ _ _ _ _):=λc=>(af.new _ c).elim aJ.o (λc=>i4 ct.o.lt);clear bl af ap aQ bV a2 b1 b aa;go_upto_region 48 with fail;clear a8 aX aY;generalize a7.setCell ⟨P,0,_⟩ _=bz at u ar y⊢;clear ct bk aB aT ao bG
 have ai:V (∀F (bU:Int),bU=(st.ins.length:Int)->Kept 0 0 bz F->Calls prog 105 #[ge P,(eK 0 bA bU 0 0).agg,ih K] F λe z=>V (TrO bz P I (ia g9 (st.ins.length+1) cap9) u2 u3 u4 bs (fQ {st with ins:=st.ins++[bA]} (eK 0 bA (st.ins.length:Int) 0 0) K) e z)/\(∃x:Int,e=.returned (ih x))/\z.cell? ⟨bP,1,none⟩=some (ih K)/\z.cell? ⟨P,0,none⟩=some (ia g9 (st.ins.length+1) cap9)):=λF bU bK al=>by
  subst bK
  exact yaj (NP (u.o.keep al) G.o (eK 0 bA (st.ins.length:Int) 0 0) aS yah K) (λe z t=>⟨TrO.back al t.1,t.1.ret,(t.1.chg.cell (p:=⟨bP,1,none⟩) (y.o.keep al).lt cP.o).trans (y.o.keep al).c1,t.2⟩)
 have aj:V (∀F,Kept 0 0 _ F->F.cell? _=some _/\F.cell? _=some _):=λF al=>⟨(y.o.keep al).c1,(u.o.keep al).c0⟩
 generalize fQ _ _ _=d7 at ai cq aA;obtain⟨aW,bm⟩:=aj.o _ i3;have b0:V _:=u.o.nl;clear u G;generalize st.ins.length=ni at*;rcases d7 with⟨az,aF⟩|⟨s,v⟩
 ·have bo:V (r=.error _):=aA.o
  go_region_held3 (λO=>O.cell? ⟨bP,1,none⟩=some (ih K)/\O.cell? ⟨P,0,none⟩=some (ia g9 (ni+1) cap9)) (go_keep)
   (first
    |(go_at_call 60;refine yaj (gq _ _ _ _ _ _) ?_;rintro e ch ⟨rfl,b6⟩;obtain⟨ax,aU⟩:=aj.o _ ((eD _).trans b6))
    |(go_at_call 105;refine yaj (ai.o _ _ (by rw[IntKind.wrap_i64];omega) ((eD _).trans b6)) ?_;rintro e ci ⟨bh,⟨_,_⟩,ca,aR⟩;obtain rfl:=bh.o.1))
  all_goals (
   go_wp2_with fail
   refine yaz (v:=.tuple #[]) (by simp[results,results88,go_sem]) rfl ?_
   rw[bo.o]
   exact⟨rfl,bh.o.2.1,bh.o.2.2.1,ar.o.bad bh.o.2.2.2⟩)
 obtain⟨bx,aL,_⟩:=cq.o s v rfl;have cM:(0:Int)<=v:=xaa;have ce:=bx.g;have co:V (r=.ok _):=aA.o;clear cq aA bx
 go_region_held3 (λO=>O.cell? ⟨bP,1,none⟩=some (ih K)/\O.cell? ⟨P,0,none⟩=some (ia g9 (ni+1) cap9)) (go_keep)
  (first
   |(go_at_call 60;refine yaj (gq _ _ _ _ _ _) ?_;rintro e ch ⟨rfl,b6⟩;obtain⟨ax,aU⟩:=aj.o _ ((eD _).trans b6))
   |(go_at_call 105;refine yaj (ai.o _ _ (by rw[IntKind.wrap_i64];omega) ((eD _).trans b6)) ?_;rintro e aK ⟨bh,⟨_,_⟩,ca,aR⟩;obtain rfl:=bh.o.1))
 all_goals (
  obtain⟨_,bf,bb,bc,C,X,bC⟩:=bh.o
  have bS:V _:=ar.o.trans bC
  have bF:V _:=y.o.keepC bC.chg cP.o
  have bO:¬Mst P _ _ _ _ _:=λc=>(bC.new _ c).elim cP.o (λc=>i4 y.o.lt)
  clear bh bC ai aj ar y cP bm aW aU ax b6 ca aR
  go_upto_region 50 with fail
  obtain⟨bY,bg,cg,b8,cc⟩:=nz
  have bv:=X.c3
  have cD:=X.fr 3
  have cx:=X.lt
  have bX:I<=aK.heap.size:=i4 X.sz
  obtain⟨a4,cA,e4⟩:=jq X.r4
  have ah:V (C.ownBlock≠some P/\C.ownBlock≠some _):=⟨X.np.2.2.2,λc=>bO (.inr (.inr (.inr (.inr c))))⟩
  have bM:=bF.o.lt
  have bd:=bF.o.c2
  have bi:V _:=X.r4
  have bw:V _:=X
  have cO:bs.length<=5000:=jn X.nl ce.m
  clear X
  subst e4
  generalize bL:bs.length=aZ at*
  have bu:V _:=bL
  clear bL
  go_region_law
   ((refine step_append_lies _ rfl _ _ _ rfl I 152 _ _ 5 _ underlying131 bg cg b8 cc rfl xab _ _ _ (by simp[Act.eval]) (kN bi.o 1 _) _ 1 1 (Bc.cells ⟨_,_,_,_,0,0,_,0,0⟩) (by simp[Act.eval]) rfl (Ie _ _ _) (OA _) xab (by unfold maxLen;omega) xaa yag _ rfl ?_;intro g9 cap9 a7 Z bp br cr;have a0:=jS bp cx ah.o.1 bv;have bT:=far2 bp cx ah.o.1 cD;have av:=jS bp bM ah.o.2 bd))
  all_goals
   have bE:=br.imp id (λe=>Nat.le_of_eq e.symm)
   have aV:=(eA 0 0 aK (.cells #[eL H,.bool false,ih v,.slice none 0 0,.slice none 0 0] 152)).trans (eJ 0 0 _ 1)
   obtain⟨(u:V _),af⟩:=(bw.o.keep aV).nms_ (d:=.val H v) (n9:=aZ+1) (fA bp) (by rw[yal,bu.o];rfl) (by rw[wI,wJ];exact Z) bE (λ_=>⟨rfl,rfl,rfl⟩)
   have bn:V _:=(bS.o.keep aV).trans af
   clear af bE aV Z bp br cr a0 bT av
   go_wp2_with fail
   refine yaz (v:=.tuple #[]) (by simp[results,results88,go_sem]) rfl ?_
   rw[co.o]
   exact⟨rfl,_,_,_,_,_,u.o,bn.o⟩)):Zp:=h
theorem cV.qgs(h:Zp:=by
 have a5:=ab.tk.c0 3 xaa;have cj:=ab.tk.c1 3 xaa;have cw:=ab.tk.c2 3 xaa;rw[show([k,⟨_,_,_⟩,c,l]:List _).getD 3 _=l from rfl]at a5 cj cw;have cn:V _:=λF=>yZ l bI F;have aB:=ab.tk.lt;have aH:=pD bI yad;rw[yap yad]at aH;obtain⟨bQ,au,bR⟩:=l;unfold iS at cn;simp only at*;have c7:4<=m:=xaa;clear h ab J ag bI aD;generalize aO:ii _=bA at*;have aN:V _:=aO;clear aO;have bk:V (∀F,Kept 0 0 W F->F.cell? _=some _/\F.cell? _=some _/\F.cell? _=some _):=λF al=>⟨(al.cell aB xaa).trans a5,(al.cell aB xaa).trans cj,(al.cell aB xaa).trans cw⟩
 clear a5 cj cw;exact qhi):Zp:=h
open cV in
theorem La{W c l}(ab:TrIn W P I u1 u2 u3 u4 bs st none 0 [] g an m cap [k,n,c,l])(J:k.sym=kIn)(ag:l.sym=ik)(h:iz f st (.inS n l)=some r):
  Calls prog 88 #[ge P,.slice (some ⟨g,an,none⟩) m cap] W (StO W P I u1 u2 u3 u4 r):=by
 have bI:=ab.ti l xac ag;have aD:=ab.tk.len;simp only[yaq,List.length_nil]at aD;exact qfk
def PPz(ps us:List Tok):Prop:=(ps=[]/\us=[])\/PPm ps us
def noC(us:List Tok):List Tok:=us.filter λt=>!(t.sym==[44])
theorem xT(a b):noC (a++b)=noC a++noC b:=by unfold noC;grind
theorem Lb(h:PPm ps us):noC us=ps:=by
 induction h with
 |one h=>
  unfold noC;rw[List.filter_cons_of_pos (by rw[h];decide)];rfl
 |more _ ai ht Z=>
  rename_i ps ts c t _;rw[xT,Z];unfold noC;rw[List.filter_cons_of_neg (by grind),List.filter_cons_of_pos (by rw[ht];decide)];rfl
theorem Lc(h:PPz ps us):noC us=ps:=by
 rcases h with⟨rfl,rfl⟩|h
 ·rfl
 exact Lb h
theorem Ld(h:PPz ps us):∀t∈us,(t.sym==[41])=false:=by
 rcases h with⟨rfl,rfl⟩|h
 ·grind
 intro t ht;rcases Fo h t ht with c|c<;>(rw[c];decide)
theorem Ig(N p r):Gl N (p::r)=if N.any (λq=>q.text==p.text)=true then some p.pos else Gl (N++[p]) r:=rfl
def oD(us:List Tok)(j:Nat):Option Nat:=Gl (noC (us.take j)) (noC (us.drop j))
theorem Ih(h:j<us.length):us.take (j+1)=us.take j++[us.getD j i1]/\us.drop j=us.getD j i1::us.drop (j+1):=by
 simp_all
theorem vL{t}(h:(t.sym==[44])=true):noC [t]=[]:=by grind[noC]
theorem Bh(h:j<us.length)(c:((us.getD j i1).sym==[44])=true):noC (us.take (j+1))=noC (us.take j)/\oD us (j+1)=oD us j:=by
 obtain⟨ad,be⟩:=Ih h
 have ah:noC (us.drop j)=noC (us.drop (j+1)):=by
  rw[be,<-List.singleton_append,xT,vL c,List.nil_append]
 have e4:noC (us.take (j+1))=noC (us.take j):=by rw[ad,xT,vL c,List.append_nil]
 refine⟨e4,?_⟩;unfold oD;rw[e4,ah]
theorem Ii(h:j<us.length)(c:((us.getD j i1).sym==[44])=false):noC (us.take (j+1))=noC (us.take j)++[us.getD j i1]/\((noC (us.take j)).any (λq=>q.text==(us.getD j i1).text)=true->oD us j=some (us.getD j i1).pos)/\((noC (us.take j)).any (λq=>q.text==(us.getD j i1).text)=false->oD us (j+1)=oD us j):=by
 grind[Ih,noC,oD,Ig]
