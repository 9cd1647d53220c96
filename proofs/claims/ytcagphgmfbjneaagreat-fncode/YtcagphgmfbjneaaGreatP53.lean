import Derived.Test.YtcagphgmfbjneaaGreatP52
import Derived.Test.YtcagphgmfbjneaaGreatP50
import Derived.Test.YtcagphgmfbjneaaGreatP36
namespace Go.Proofs.Z
variable{Zp:Prop}
open Tryz Go.RowKit Flt
set_option maxRecDepth 1000000
set_option maxHeartbeats 0
section
variable{f P I n g9 n9 cap9:Nat}{J:Type}{bn:World}{u1 u2 u3 u4:Value}{st:LSt}{bs:List Bc}{zs:List Int}
theorem Fq{u k x a d r}(h:eM (f+1) st u (.jvp k a x d)=some r):∃aq aT,r=PB k (fi st u x) aq aT/\(∀v,fi st u x=.ok v->eM f st u a=some aq)/\(∀v,fi st u x=.ok v->∀s y,aq=.ok (s,y)->eM f s u d=some aT):=by
 rw[eM]at h;cases aN:fi st u x with
 |error q=>rw[aN]at h;cases h;exact⟨.error q,.error q,rfl,λv e=>(by cases e),λv e=>(by cases e)⟩
 |ok v=>
  rw[aN]at h;simp only at h;cases F:eM f st u a with
  |none=>rw[F]at h;cases h
  |some aq=>
   rw[F]at h;rcases aq with⟨c,p⟩|⟨ar,y⟩
   ·cases h;exact⟨_,.error (c,p),rfl,λ_ _=>rfl,λ_ _ s y e=>by cases e⟩
   simp only[ju]at h;cases h2:eM f ar u d with
   |none=>grind
   |some aT=>
    rw[h2]at h;refine⟨.ok (ar,y),aT,?_,λ_ _=>rfl,λ_ _ s U e=>(by cases e;exact h2)⟩;rcases aT with⟨c,p⟩|⟨aW,z⟩<;>(cases h;rfl)
section
variable{f:Nat}{W:World}{P I:Nat}{u1 u2 u3 u4:Value}{bs:List Bc}{st:LSt}{a5:Option Addr}{Q cL:Nat}{u:Loc}{g off m cap:Nat}{ts us:List Tok}{a b:Ex}{r:Rs (LSt×Nat)}
theorem cQ.qcx(h:Zp:=by
 have bS:=jm az (λt ht=>ad.ti t (by simp[ht])) a xac;have ck:=jm hb (λt ht=>ad.ti t (by simp[ht])) b xac;have d1:=tX (by rw[ag];decide) (by rw[ag];decide) (by rw[ag];decide);have S:=Bk y al d1 aO B
 have a6:ts++c::([n]++d::us)=((k::l::(ts++c::n::d::(us++[q]))).drop 2).take (m-1-2):=by
  rw[List.drop_succ_cons,List.drop_succ_cons,List.drop_zero,show ts++c::n::d::(us++[q])=(ts++c::([n]++d::us))++[q] by simp,List.take_append_of_le_length yag,yap yag]
 have aS:∀x:List UInt8,x≠JR->(k.sym==x)=false:=λx F=>by
  rw[beq_eq_false_iff_ne]
  rintro rfl
  exact F O
 refine lj ad (Pr.jvp O ai az al ag aO hb aA) (aS _ xab) (aS _ xab) (aS _ xab) (aS _ xab) (aS _ xab) xaa (ts++c::([n]++d::us)) a6 (by rw[pE (X:=[ts,[n]]) (y:=us) xac S _ yag];exact bc) _ (λH bi bj aj a2=>?_);exact qef):Zp:=h
theorem cQ.qeg(h:Zp:=by
 obtain⟨b9,K,b6,U,Y⟩:=bU 2 xac
 have bf:(∃v,fi st u n=.ok v)->∀z,Kept 0 0 H z->_:=λba z av=>
  N z P I u1 u2 u3 u4 bs st a5 Q cL u g o ts.length c0 ts (ad.seg (ad.ws.keep (aj.trans av)) (Gw.refl ad.gd) (Mv.of (aj.trans av)) (c2.keep av) xaa c3 (λt ht=>by simp[ht])) 2 a az yad aq (ba.elim af)
 have br:(∃v,fi st u n=.ok v)->_:=λba=>fX f st u a ad.gd ad.nm ad.lo bS aq (ba.elim af)
 have bh:(∃v,fi st u n=.ok v)->∀s x,aq=.ok (s,x)->RsG s aT:=λba s x e=>by
  obtain⟨w,_⟩:=br ba s x e
  obtain⟨v,aN⟩:=ba
  exact fX f s u b w.g (ad.nm.gw w) (ad.lo.le w.n) ck aT (bg v aN s x e)
 have bO:(∃v,fi st u n=.ok v)->∀s x,aq=.ok (s,x)->∀z aR bd bu bC,WS z P I aR bd bu bC bs s->Mv (Mst P u1 u2 u3 u4) H (Mst P aR bd bu bC) z->Calls prog 112 #[hZ P,.slice a5 Q cL,.slice (some ⟨g,b9,none⟩) us.length K] z (TrO z P I aR bd bu bC bs aT):=λba s x e z aR bd bu bC X bJ=>by
  obtain⟨w,_⟩:=br ba s x e
  obtain⟨v,aN⟩:=ba
  exact N z P I aR bd bu bC bs s a5 Q cL u g b9 us.length K us (ad.seg X w ((Mv.of aj).trans bJ) (U.keepC bJ.chg ad.tg) xaa Y (λt ht=>by simp[ht])) 2 b hb yad aT (bg v aN s x e)
 obtain⟨a9,aX,C⟩:=k;simp only at O;subst O;exact Fp (ad.ws.keep aj) ad.gd.m (ad.lc.keep aj) ad.ln aX C n xac cc (ad.ws.far2 aD) c1 ⟨cc,G,j⟩ b6 aq aT br (λv aN=>oP ad.nm ad.lo aN) bh bf bO):Zp:=h
open cQ in
theorem Jp{k l c n d q}(N:TrC f)(ad:TrIn W P I u1 u2 u3 u4 bs st a5 Q u g off m cap (k::l::(ts++c::n::d::(us++[q]))))(O:k.sym=JR)(ai:l.sym=[40])(az:Pr 2 [a] ts)(al:c.sym=[44])(ag:n.sym=gH)(aO:d.sym=[44])(hb:Pr 2 [b] us)(aA:q.sym=[41])(h:eM (f+1) st u (.jvp k a n b)=some r):
  Calls prog 112 #[hZ P,.slice a5 Q cL,.slice (some ⟨g,off,none⟩) m cap] W (TrO W P I u1 u2 u3 u4 bs r):=by
 obtain⟨aq,aT,rfl,af,bg⟩:=Fq h;exact qcw
end
theorem Jq(N:TrC f){es ts}(aQ:Pr n es ts):∀e,es=[e]->n<=2->∀(W:World) (P I:Nat) (u1 u2 u3 u4:Value) (bs:List Bc) (st:LSt) (a5:Option Addr) (Q cL:Nat) (u:Loc) (g off m cap:Nat),TrIn W P I u1 u2 u3 u4 bs st a5 Q u g off m cap ts->∀r,eM (f+1) st u e=some r->
  Calls prog 112 #[hZ P,.slice a5 Q cL,.slice (some ⟨g,off,none⟩) m cap] W (TrO W P I u1 u2 u3 u4 bs r):=by
 induction aQ with
 |up01 _ G=>intro e Y ag;exact G e Y xaa
 |up12 _ G=>intro e Y ag;exact G e Y xaa
 |arg1 _ _=>intro e Y ag;omega
 |argM _ _ _ _ _=>intro e Y ag;omega
 |add az ho hb _ _=>intro e Y ag;cases Y;intro W P I u1 u2 u3 u4 bs st a5 Q cL u g off m cap ad r h;exact I8 N ad az ho hb h
 |mul az ho hb _ _=>intro e Y ag;cases Y;intro W P I u1 u2 u3 u4 bs st a5 Q cL u g off m cap ad r h;exact Ja N ad az ho hb h
 |neg ho az _=>intro e Y ag;cases Y;intro W P I u1 u2 u3 u4 bs st a5 Q cL u g off m cap ad r h;exact Jb N ad ho az h
 |num ht=>intro e Y ag;cases Y;intro W P I u1 u2 u3 u4 bs st a5 Q cL u g off m cap ad r h;exact Jg ad ht h
 |name ht=>intro e Y ag;cases Y;intro W P I u1 u2 u3 u4 bs st a5 Q cL u g off m cap ad r h;exact E5 ad ht h
 |par ai az aA G=>intro e Y ag;cases Y;intro W P I u1 u2 u3 u4 bs st a5 Q cL u g off m cap ad r h;exact Jc ad ai az aA (λH a=>G _ rfl yad _ P I _ _ _ _ _ _ _ _ _ _ g _ _ _ a r h)
 |call0 ht ai aA=>intro e Y ag;cases Y;intro W P I u1 u2 u3 u4 bs st a5 Q cL u g off m cap ad r h;exact Cc N ad ht ai aA h
 |call ht ai az aA _=>intro e Y ag;cases Y;intro W P I u1 u2 u3 u4 bs st a5 Q cL u g off m cap ad r h;exact Fl N ad ht ai az aA h
 |key1 O ai az aA _=>intro e Y ag;cases Y;intro W P I u1 u2 u3 u4 bs st a5 Q cL u g off m cap ad r h;exact E8 N ad O ai az aA h
 |key2 O ai az al hb aA _ _=>intro e Y ag;cases Y;intro W P I u1 u2 u3 u4 bs st a5 Q cL u g off m cap ad r h;exact Fi N ad O ai az al hb aA h
 |key3 O ai az al hb aC aO aA _ _ _=>intro e Y ag;cases Y;intro W P I u1 u2 u3 u4 bs st a5 Q cL u g off m cap ad r h;exact Fj N ad O ai az al hb aC aO aA h
 |keyN O ai az al aY aA _=>intro e Y ag;cases Y;intro W P I u1 u2 u3 u4 bs st a5 Q cL u g off m cap ad r h;exact E9 N ad O ai az al aY aA h
 |put O ai az al hi aC aY aA _=>intro e Y ag;cases Y;intro W P I u1 u2 u3 u4 bs st a5 Q cL u g off m cap ad r h;exact Jf N ad O ai az al hi aC aY aA h
 |grad O ai az al ap aA _=>intro e Y ag;cases Y;intro W P I u1 u2 u3 u4 bs st a5 Q cL u g off m cap ad r h;exact Fm N ad O ai az al ap aA h
 |jvp O ai az al ap aC hb aA _ _=>intro e Y ag;cases Y;intro W P I u1 u2 u3 u4 bs st a5 Q cL u g off m cap ad r h;exact Jp N ad O ai az al ap aC hb aA h
theorem trc:∀f,TrC f
 |0=>λW P I u1 u2 u3 u4 bs st a5 Q cL u g off m cap ts ad n e aQ ag r h=>by rw[eM]at h;cases h
 |f+1=>λW P I u1 u2 u3 u4 bs st a5 Q cL u g off m cap ts ad n e aQ ag r h=>Jq (trc f) aQ e rfl ag W P I u1 u2 u3 u4 bs st a5 Q cL u g off m cap ad r h
theorem rT(a b:List J)(z i)(h:i<a.length):(a++b).getD i z=a.getD i z:=by
 grind
theorem wU(a)(x z:J):(a++[x]).getD a.length z=x:=by
 simp_all
theorem rU(a:List J)(x z i)(h:i<a.length):(a.set i x).getD i z=x:=by
 simp_all
theorem vp(a:List J)(x z i j)(h:i≠j):(a.set i x).getD j z=a.getD j z:=by
 simp_all
theorem bD.qbs(h:Zp:=by
 have K:g9≠P:=λe=>by
  subst e
  rcases bw with c|c
  ·exact bk c
  ·have:=h.lt;omega
 have t:(Value.slice _ _ _).ownBlock≠some P:=λc=>K ((aZ P).1 c);have bv:∀o,_:=λo=>bp.cell (p:=⟨P,o,none⟩) h.lt bk;have es:∀o,o≠0->(bn.setCell ⟨P,0,_⟩ (h0 g9 n9 cap9)).cell? _=W.cell? _:=λo ho=>(eV _ _ _ _ _ _ (.inr (λe=>ho e.symm))).trans (bv o);have a9:=(eU (lo:=P) (hi:=P+1) bn ⟨P,0,none⟩ (h0 g9 n9 cap9) yac)
 have au:Mv (Mst P u1 u2 u3 u4) W (Mst P (h0 g9 n9 cap9) u2 u3 u4) (bn.setCell ⟨P,0,none⟩ (h0 g9 n9 cap9)):=by
  refine⟨Chg.andThen ⟨bp.os,bp.tape,bp.output,bp.size,λi hi ag=>bp.block i hi (λc=>ag (.inr (.inl c)))⟩ (a9.chg1 (.inl rfl)),λb hb=>?_⟩;rcases hb with c|c|c|c|c
  ·exact .inl (.inl c)
  ·rw[aZ]at c;subst c;rcases bw with d|d
   ·exact .inl (.inr (.inl d))
   omega
  ·exact .inl (.inr (.inr (.inl c)))
  ·exact .inl (.inr (.inr (.inr (.inl c))))
  exact .inl (.inr (.inr (.inr (.inr c))))
 exact qeh):Zp:=h
theorem bD.qei(h:Zp:=by
 refine⟨⟨by simpa using yak h.lt bp.size,λo=>?_,fy _ _ _ _ _ ((bv 0).trans h.c0),(es 1 xab).trans h.c1,(es 2 xab).trans h.c2,(es 3 xab).trans h.c3,(es 4 xab).trans h.c4,(es 5 xab).trans h.c5,(es 6 xab).trans h.c6,?_,?_,?_,?_,⟨t,p2,a6,l⟩,⟨(aP h.r2 B.symm).symm,(aP h.r3 m.symm).symm,(aP h.r4 r.symm).symm,G,C,F⟩,h.nl,λi hi=>(h.nb i hi).mv au,h.sz⟩,au⟩
 ·have:=(bp.frozen h.lt bk).trans (h.fr o);simp[this]
 ·subst ag;exact eI bq t
 ·exact eI (fe h.r2 bp (λb hb c=>B b c hb)) p2
 ·exact eI (fe h.r3 bp (λb hb c=>m b c hb)) a6
 exact eI (fe h.r4 bp (λb hb c=>r b c hb)) l):Zp:=h
open bD in
theorem WS.ins_{W}(h:WS W P I u1 u2 u3 u4 bs st)(bp:Chg (λb=>u1.ownBlock=some b) W bn)(ag:n9=zs.length)(bq:bn.ownsRow I 3 1 (h0 g9 n9 cap9) n9 (zs.map (Value.int .i64)))(bw:u1.ownBlock=some g9\/W.heap.size<=g9):
  WS (bn.setCell ⟨P,0,none⟩ (h0 g9 n9 cap9)) P I (h0 g9 n9 cap9) u2 u3 u4 bs {st with ins:=zs}/\Mv (Mst P u1 u2 u3 u4) W (Mst P (h0 g9 n9 cap9) u2 u3 u4) (bn.setCell ⟨P,0,none⟩ (h0 g9 n9 cap9)):=by
 exact qbr
theorem bE.qbs(h:Zp:=by
 have K:g9≠P:=λe=>by
  subst e
  rcases bw with c|c
  ·exact a6 c
  ·have:=h.lt;omega
 have t:(Value.slice _ _ _).ownBlock≠some P:=λc=>K ((aZ P).1 c);have bv:∀o,_:=λo=>bp.cell (p:=⟨P,o,none⟩) h.lt a6;have es:∀o,o≠2->(bn.setCell ⟨P,2,_⟩ (h0 g9 n9 cap9)).cell? _=W.cell? _:=λo ho=>(eV _ _ _ _ _ _ (.inr (λe=>ho e.symm))).trans (bv o);have a9:=(eU (lo:=P) (hi:=P+1) bn ⟨P,2,none⟩ (h0 g9 n9 cap9) yac)
 have au:Mv (Mst P u1 u2 u3 u4) W (Mst P u1 u2 (h0 g9 n9 cap9) u4) (bn.setCell ⟨P,2,none⟩ (h0 g9 n9 cap9)):=by
  refine⟨Chg.andThen ⟨bp.os,bp.tape,bp.output,bp.size,λi hi ag=>bp.block i hi (λc=>ag (.inr (.inr (.inr (.inl c)))))⟩ (a9.chg1 (.inl rfl)),λb hb=>?_⟩;rcases hb with c|c|c|c|c
  ·exact .inl (.inl c)
  ·exact .inl (.inr (.inl c))
  ·exact .inl (.inr (.inr (.inl c)))
  ·rw[aZ]at c;subst c;rcases bw with d|d
   ·exact .inl (.inr (.inr (.inr (.inl d))))
   omega
  exact .inl (.inr (.inr (.inr (.inr c))))
 exact qeh):Zp:=h
theorem bE.qei(h:Zp:=by
 refine⟨⟨by simpa using yak h.lt bp.size,λo=>?_,(es 0 xab).trans h.c0,(es 1 xab).trans h.c1,fy _ _ _ _ _ ((bv 2).trans h.c2),(es 3 xab).trans h.c3,(es 4 xab).trans h.c4,(es 5 xab).trans h.c5,(es 6 xab).trans h.c6,?_,?_,?_,?_,⟨bk,p2,t,l⟩,⟨B,aP h.r1 m,r,aP h.r2 G,C,(aP h.r4 F.symm).symm⟩,h.nl,λi hi=>(h.nb i hi).mv au,h.sz⟩,au⟩
 ·have:=(bp.frozen h.lt a6).trans (h.fr o);simp[this]
 ·exact eI (fe h.r1 bp (λb hb c=>m b hb c)) bk
 ·exact eI (fe h.r2 bp (λb hb c=>G b hb c)) p2
 ·subst ag;exact eI bq t
 exact eI (fe h.r4 bp (λb hb c=>F b c hb)) l):Zp:=h
open bE in
theorem WS.outs_{W}(h:WS W P I u1 u2 u3 u4 bs st)(bp:Chg (λb=>u3.ownBlock=some b) W bn)(ag:n9=zs.length)(bq:bn.ownsRow I 3 1 (h0 g9 n9 cap9) n9 (zs.map (Value.int .i64)))(bw:u3.ownBlock=some g9\/W.heap.size<=g9):
  WS (bn.setCell ⟨P,2,none⟩ (h0 g9 n9 cap9)) P I u1 u2 (h0 g9 n9 cap9) u4 bs {st with outs:=zs}/\Mv (Mst P u1 u2 u3 u4) W (Mst P u1 u2 (h0 g9 n9 cap9) u4) (bn.setCell ⟨P,2,none⟩ (h0 g9 n9 cap9)):=by
 exact qbr
theorem bF.qbs(h:Zp:=by
 have K:g9≠P:=λe=>by
  subst e
  rcases bw with c|c
  ·exact l c
  ·have:=h.lt;omega
 have t:(Value.slice _ _ _).ownBlock≠some P:=λc=>K ((aZ P).1 c);have bv:∀o,_:=λo=>bp.cell (p:=⟨P,o,none⟩) h.lt l;have es:∀o,o≠3->(bn.setCell ⟨P,3,_⟩ (h0 g9 n9 cap9)).cell? _=W.cell? _:=λo ho=>(eV _ _ _ _ _ _ (.inr (λe=>ho e.symm))).trans (bv o);have a9:=(eU (lo:=P) (hi:=P+1) bn ⟨P,3,none⟩ (h0 g9 n9 cap9) yac)
 have au:Mv (Mst P u1 u2 u3 u4) W (Mst P u1 u2 u3 (h0 g9 n9 cap9)) (bn.setCell ⟨P,3,none⟩ (h0 g9 n9 cap9)):=by
  refine⟨Chg.andThen ⟨bp.os,bp.tape,bp.output,bp.size,λi hi ag=>bp.block i hi (λc=>ag (.inr (.inr (.inr (.inr c)))))⟩ (a9.chg1 (.inl rfl)),λb hb=>?_⟩;rcases hb with c|c|c|c|c
  ·exact .inl (.inl c)
  ·exact .inl (.inr (.inl c))
  ·exact .inl (.inr (.inr (.inl c)))
  ·exact .inl (.inr (.inr (.inr (.inl c))))
  rw[aZ]at c;subst c;rcases bw with d|d
  ·exact .inl (.inr (.inr (.inr (.inr d))))
  omega
 exact qeh):Zp:=h
theorem bF.qei(h:Zp:=by
 refine⟨⟨by simpa using yak h.lt bp.size,λo=>?_,(es 0 xab).trans h.c0,(es 1 xab).trans h.c1,(es 2 xab).trans h.c2,fy _ _ _ _ _ ((bv 3).trans h.c3),(es 4 xab).trans h.c4,(es 5 xab).trans h.c5,(es 6 xab).trans h.c6,?_,?_,?_,?_,⟨bk,p2,a6,t⟩,⟨B,m,aP h.r1 r,G,aP h.r2 C,aP h.r3 F⟩,(by simp only[yal,List.length_singleton];rw[h.nl]),λi hi=>by
  simp only
  by_cases c:i<bs.length
  ·rw[rT _ _ _ _ c,rT _ _ _ _ (i2 h.nl c)]
   exact(h.nb i c).mv au
  ·have e:i=bs.length:=by grind
   subst e
   rw[wU,h.nl,wU]
   exact hb au,h.sz⟩,au⟩
 ·have:=(bp.frozen h.lt l).trans (h.fr o);simp[this]
 ·exact eI (fe h.r1 bp (λb hb c=>r b hb c)) bk
 ·exact eI (fe h.r2 bp (λb hb c=>C b hb c)) p2
 ·exact eI (fe h.r3 bp (λb hb c=>F b hb c)) a6
 subst ag;exact eI bq t):Zp:=h
open bF in
theorem WS.nms_{W}(h:WS W P I u1 u2 u3 u4 bs st)(bp:Chg (λb=>u4.ownBlock=some b) W bn){b d}(ag:n9=(bs++[b]).length)(bq:bn.ownsRow I 162 5 (h0 g9 n9 cap9) n9 (bcF (bs++[b])))(bw:u4.ownBlock=some g9\/W.heap.size<=g9)(hb:Mv (Mst P u1 u2 u3 u4) W (Mst P u1 u2 u3 (h0 g9 n9 cap9)) (bn.setCell ⟨P,3,none⟩ (h0 g9 n9 cap9))->BcOK (Mst P u1 u2 u3 (h0 g9 n9 cap9)) (bn.setCell ⟨P,3,none⟩ (h0 g9 n9 cap9)) b d):
  WS (bn.setCell ⟨P,3,none⟩ (h0 g9 n9 cap9)) P I u1 u2 u3 (h0 g9 n9 cap9) (bs++[b]) {st with names:=st.names++[d]}/\Mv (Mst P u1 u2 u3 u4) W (Mst P u1 u2 u3 (h0 g9 n9 cap9)) (bn.setCell ⟨P,3,none⟩ (h0 g9 n9 cap9)):=by
 exact qbr
theorem PC{W:World}{e s g cap k:Nat}{xs u}(h:W.ownsRow I e s (h0 g n cap) n xs):(W.setCell ⟨g,k,none⟩ u).ownsRow I e s (h0 g n cap) n (xs.set k u):=by
 refine⟨by rw[List.length_set];exact h.1,?_⟩;rcases h.2 with⟨c,_⟩|⟨aC,cap',ad,af,U,aV,aa,b1,ct,bX⟩
 ·cases c
 cases af;refine .inr ⟨g,_,ad.setIfInBounds k u,rfl,U,?_,aa,b1,by grind,?_⟩
 ·rw[heap_setCell_same W g k _ _ _ aV]
 grind[List.take_set]
theorem Dh:∀(bs:List Bc) (k:Nat) (v:Int),k<bs.length->(bcF bs).set (k*5+2) (h1 v)=bcF (bs.set k {bs.getD k ip with val:=v})
 |b::r,0,v,_=>by simp[bcF,Bc.cells]
 |b::r,k+1,v,h=>by
  have hb:b.cells.length=5:=rfl
  rw[bcF,List.set_append_right _ _ xaa,hb,show(k+1)*5+2-5=k*5+2 by omega,Dh r k v (by simpa using h)]
  rfl
theorem WS.setv{W}(h:WS W P I u1 u2 u3 u4 bs st){i}(hi:i<bs.length){s}{aw v:Nat}(aO:st.names.getD i (.val [] 0)=.val s aw):∃bN b7,u4=h0 bN bs.length b7/\bN<W.heap.size/\W.frozen? ⟨bN,i*5+2,none⟩=false/\WS (W.setCell ⟨bN,i*5+2,none⟩ (h1 v)) P I u1 u2 u3 u4 (bs.set i {bs.getD i ip with val:=(v:Int)}) (st.setV i s v)/\Mv (Mst P u1 u2 u3 u4) W (Mst P u1 u2 u3 u4) (W.setCell ⟨bN,i*5+2,none⟩ (h1 v)):=by
 obtain⟨bN,b7,e4,_,aK,_,b3⟩:=ml h.r4 xaa;have aZ:u4.ownBlock=some bN:=i4 e4
 have cx:W.frozen? ⟨bN,i*5+2,none⟩=false:=by
  rcases h.r4.2 with⟨c,c2⟩|⟨aC,cap',ad,af,U,aV,_⟩
  ·omega
  grind[World.frozen?]
 refine⟨_,_,e4,aK,cx,?_⟩;have aX:=eU (lo:=bN) (hi:=bN+1) W ⟨_,i*5+2,none⟩ (h1 v) yac;have au:Mv _ W (Mst P u1 u2 u3 _) _:=⟨aX.chg1 (.inr (.inr (.inr (.inr aZ)))),λb hb=>.inl hb⟩
 obtain⟨Z,ae,ab,u⟩:=h.np;obtain⟨B,m,r,G,C,F⟩:=h.ap;have K:bN≠P:=λe=>u (by grind);have es:∀o,(W.setCell ⟨_,i*5+2,_⟩ (h1 v)).cell? _=W.cell? ⟨P,o,_⟩:=λo=>eV _ _ _ _ _ _ (.inl K);refine⟨⟨by simpa using h.lt,λo=>by simp[h.fr o],(es 0).trans h.c0,(es 1).trans h.c1,(es 2).trans h.c2,(es 3).trans h.c3,(es 4).trans h.c4,(es 5).trans h.c5,(es 6).trans h.c6,eI h.r1 (λc=>r _ c aZ),eI h.r2 (λc=>C _ c aZ),eI h.r3 (λc=>F _ c aZ),?_,h.np,h.ap,?_,λj hj=>?_,h.sz⟩,au⟩
 ·have:=PC (k:=i*5+2) (u:=h1 v) (by have:=h.r4;rw[e4]at this;exact this);rw[Dh _ i v hi]at this;rw[e4,List.length_set];exact this
 ·show(bs.set i _).length=(st.names.set i _).length;rw[List.length_set,List.length_set,h.nl]
 rw[List.length_set]at hj;show BcOK _ _ ((bs.set i _).getD j ip) ((st.names.set i _).getD j (.val [] 0));by_cases c:j=i
 ·subst c;have hb:=h.nb j hi;rw[aO]at hb;rw[rU _ _ _ _ hi,rU _ _ _ _ (i2 h.nl hi)];exact⟨hb.1,hb.2.1,rfl⟩
 rw[vp _ _ _ _ _ (λe=>c e.symm),vp _ _ _ _ _ (λe=>c e.symm)];exact(h.nb j hj).mv au
def StO(W:World)(P B:Nat)(u1 u2 u3 u4:Value)(r:Rs LSt)(e:Ending)(W':World):Prop:=
 e=.returned (.tuple #[])/\match r with
 |.error (c,p)=>W'.cell? ⟨P,5,none⟩=some (.int .i64 c)/\W'.cell? ⟨P,6,none⟩=some (.int .i64 (p:Int))/\Chg (Mst P u1 u2 u3 u4) W W'
 |.ok st=>∃bs v1 v2 v3 v4,WS W' P B v1 v2 v3 v4 bs st/\Mv (Mst P u1 u2 u3 u4) W (Mst P v1 v2 v3 v4) W'
end
section
attribute[local go_sem] eE eD eC
variable{f j P I g off m cap:Nat}{ps us ts:List Tok}{u1 u2 u3 u4:Value}{st:LSt}{s:List UInt8}{bs:List Bc}{n k q:Tok}{e:Ex}{r:Rs LSt}
theorem Jr{W}(ad:TrIn W P I u1 u2 u3 u4 bs st none 0 [] g off m cap (k::ts))(O:k.sym=Ku)(az:Pr 2 [e] ts)(h:iz f st (.outS k e)=some r):
  Calls prog 99 #[hZ P,.slice (some ⟨g,off,none⟩) m cap] W (StO W P I u1 u2 u3 u4 r):=by
 have ao:=ad.tk.len;rw[yaq]at ao;have ai:=iZ az;have bX:=ad.mc;have cl:=ad.m5;have ho:=ad.gd.o;have c0:=ad.tk.c0 0 xaa;have c1:=ad.tk.c1 0 xaa;rw[show(k::ts).getD 0 ih=k from rfl]at c0 c1;rw[O]at c0;rw[show Ku=[111,117,116] from rfl]at c0;have p2:=ad.ws.c2;obtain⟨a3,b3,ah⟩:=je ad.ws.r3;have bE:V _:=ad.ws;have cp:V _:=ad.gd;simp only[Nat.zero_mul,Nat.add_zero]at c0 c1;simp only[iz]at h;by_cases al:50<=st.outs.length
 ·rw[h7 al]at h;have HR:V _:=(h8 h).symm;have bT:V _:=jw ad.ws.c5 ad.ws.c6 ad.ws.fr 5 k.pos (Mst P u1 u2 u3 u4) (.inl rfl);have aY:(50:Int)<=(st.outs.length:Int):=xaa;clear ad h;subst ah;generalize st.outs.length=a at*;generalize k.pos=aX at*;go_enter func99,ntmps99;go_wp2_with (go_at_call 111;refine yaj bT.o ?_;rintro e aU ⟨rfl,G⟩);refine yaz (v:=.tuple #[]) (by simp[results,results99,go_sem]) rfl ?_;rw[HR.o];exact⟨rfl,G.c5,G.c6,G.chg⟩
 rw[h6 al]at h;cases Y:eM f st [] e with
 |none=>rw[Y]at h;cases h
 |some aq=>
  rw[Y]at h;have HR:V _:=(h8 h).symm;have bS:=jm az (λt ht=>ad.ti t (by simp[ht])) e xac;have br:=fX f st [] e ad.gd ad.nm ad.lo bS aq Y
  have aw:=ad.sub ad.ws (Gw.refl ad.gd) (Mv.refl _ _) 1 m yad ts (by
   rw[List.drop_succ_cons,List.drop_zero,yap xaa]) (cap':=cap-1) xaa
  have bf:V _:=trc f W P I u1 u2 u3 u4 bs st none 0 0 [] g _ _ _ ts aw 2 e az yad aq Y;have aY:¬(50:Int)<=(st.outs.length:Int):=xaa;have bv:V _:=br;clear aw br ad h Y;subst ah;generalize z:st.outs.length=a at*;have ae:V _:=z;clear z;generalize k.pos=aX at*;rcases aq with⟨c,p⟩|⟨s,v⟩
  ·go_enter func99,ntmps99;go_wp2_with (go_at_call 112;refine yaj bf.o ?_;rintro e aU ⟨rfl,bm⟩);refine yaz (v:=.tuple #[]) (by simp[results,results99,go_sem]) rfl ?_;rw[HR.o];exact⟨rfl,bm⟩
  obtain⟨w,aN⟩:=bv.o s v rfl;have cH:0<=(v:Int):=xaa;have ca:V _:=w.o;go_enter func99,ntmps99;go_upto_region 6 with (go_at_call 112;refine yaj bf.o ?_;rintro e aU ⟨rfl,ba,bb,bc,bo,aO,aL⟩);have aB:=aO.c2;have bj:=eA 0 0 aU (.cells #[h1 v] 3);have b:V _:=aO.keep bj;have aH:(aU.alloc (.cells #[h1 v] 3)).cell? ⟨aU.heap.size,0,none⟩=some (h1 v):=by rw[yav];rfl
  have bQ:V _:=aL.keep bj;have ag:V (I<=aU.heap.size):=by show _<=_;have:=aO.sz;have:=aO.lt;omega
  have aI:V _:=w.g.o;clear aO aL c0 c1 p2 bf bv w;go_wp2_with (first|(at_builtin;refine fR _ rfl _ _ rfl I _ s.outs (by rfl) b.o.r3 ⟨aU.heap.size,0,none⟩ (v:Int) (by rfl) aH ?c2 ?c3 ?_)|fail)
  case c2=>have:=aI.o;omega
  case c3=>have:=ag.o;simp;omega
  intro g9 cap9 n9 bn an b9 bF ch;obtain⟨(u:V _),Q⟩:=b.o.outs_ (n9:=n9) (cap9:=cap9) (g9:=g9) (zs:=s.outs++[(v:Int)]) bF (by rw[an];simp) (by rw[List.map_append];exact b9) (ch.imp id (λe=>by rw[e];simp));have hlt:=b.o.lt;have y2:=(bF.cell (p:=⟨P,2,none⟩) hlt b.o.np.2.2.1).trans b.o.c2;have bp:=(bF.frozen (p:=⟨P,2,none⟩) hlt b.o.np.2.2.1).trans (b.o.fr 2);have aQ:V _:=bQ.o.trans Q;clear Q bF b9 ch an bj aH b bQ;go_wp2_with fail;refine yaz (v:=.tuple #[]) (by simp[results,results99,go_sem]) rfl ?_;rw[HR.o];exact⟨rfl,_,_,_,_,_,u.o,aQ.o⟩
theorem PD{Z k}(O:k<Z.length)(F:(Z.getD k (.val [] 0)).nm=s)(h2:∀j,j<k->(Z.getD j (.val [] 0)).nm≠s):KO Z s=k:=by
 grind[KO,List.findIdx_eq]
theorem Mw(g:Gd st)(i s v):Gd (st.setV i s v):=⟨g.n,g.c,g.ok,g.k,g.i,g.o,by show(st.names.set i _).length<=5000;rw[List.length_set];exact g.m⟩
theorem My(h:NmOK st)(i s){v}(aN:v<st.vs.length):NmOK (st.setV i s v):=λb hb=>by
 have y:b∈st.names.set i _:=hb
 rcases List.mem_or_eq_of_mem_set y with c|c
 ·exact h b c
 ·subst c;exact aN
theorem Js(M W):LcR M W none 0 []:=⟨rfl,λh=>by omega⟩
theorem TrIn.later{W a5 Q u}(h:TrIn W P I u1 u2 u3 u4 bs st a5 Q u g off m cap ts){H ba bb bc bo x N}(X:WS H P I ba bb bc bo x N)(ad:Gd N)(aS:NmOK N)(k:Mv (Mst P u1 u2 u3 u4) W (Mst P ba bb bc bo) H)(i)(hi:i<m)(us)(a6:us=ts.drop i):TrIn H P I ba bb bc bo x N none 0 [] g (off+i*3) (m-i) (cap-i) us where
 ws:=X
 gd:=ad
 nm:=aS
 lc:=Js _ _
 ln:=yae
 lo:=λb hb=>by cases hb
 tk:=(h.tk.keepC k.chg h.tg).in_ i m us (by rw[a6,yap (by rw[List.length_drop,h.tk.len];exact yad)]) yad
 tg:=λc=>(k.new g c).elim h.tg (λc=>ix h.tk.lt)
 m5:=ix h.m5
 mc:=ix h.mc
 ti:=λt ht=>h.ti t (by grind)
 tn:=λt ht=>h.tn t (by grind)
theorem Jt{W i}(ad:TrIn W P I u1 u2 u3 u4 bs st none 0 [] g off m cap (k::i::n::q::ts))(O:k.sym=Kv)(hi:i.sym=ik)(az:Pr 2 [e] ts)(h:iz f st (.rep i n e)=some r):
  Calls prog 99 #[hZ P,.slice (some ⟨g,off,none⟩) m cap] W (StO W P I u1 u2 u3 u4 r):=by
 have ao:=ad.tk.len;simp only[yaq]at ao;have ai:=iZ az;have bX:=ad.mc;have cl:=ad.m5;have ah:bs.length<=100000:=by rw[ad.ws.nl];have:=ad.gd.m;omega
 have c0:=ad.tk.c0 0 xaa;have b1:=ad.tk.c0 1 xaa;have cq:=ad.tk.c1 1 xaa;have cc:=ad.tk.c2 1 xaa;have Z:=ad.tk.c1 2 xaa;have ae:=ad.tk.c2 2 xaa;rw[show(k::i::n::q::ts).getD 0 _=k from rfl]at c0;rw[show(k::i::n::q::ts).getD 1 _=i from rfl]at b1 cq cc;rw[show(k::i::n::q::ts).getD 2 _=n from rfl]at Z ae;rw[O]at c0;rw[show Kv=[114,101,112,101,97,116] from rfl]at c0;have bx:=ad.ti i xac hi;have b8:V _:=λH=>zW i bx H;have aT:=pW bx yad;rw[yap yad]at aT;have aW:V _:=ad;have bS:=jm az (λt ht=>ad.ti t (by simp[ht])) e xac;have bj:V _:=az;have af:V _:=bS;have cg:V _:=rI ad.ws.c3 ad.ws.r4 ah n.text;have a6:=ad.ws.c3;have z:V _:=ml ad.ws.r4;have bT:V (∀H,Kept 0 0 W H->∀c p,_):=λH aj c p=>jw (ad.ws.keep aj).c5 (ad.ws.keep aj).c6 (ad.ws.keep aj).fr c p (Mst P u1 u2 u3 u4) (.inl rfl);have aD:V (∀H,Kept 0 0 W H->_):=λH aj=>(aj.cell (p:=⟨g,off+3+1,_⟩) ad.tk.lt xaa).trans cq;obtain⟨a4,cK,ak⟩:=jy ad.ws.r4;simp only[Nat.zero_mul,Nat.add_zero,Nat.one_mul]at c0 b1 cq cc Z ae;simp only[iz]at h;have HR:V _:=h;clear h ad az bS bx hi O;obtain⟨bl,be,bn⟩:=i;obtain⟨bf,Y,a⟩:=n;unfold iT at b8;simp only at*;subst ak;generalize bg:ii _=K at*;clear bg;go_enter func99,ntmps99;go_upto_region 9 with (go_at_call 113;refine yaj cg.o ?_;rintro e am ⟨bo,rfl,b0,X⟩;obtain rfl:=X.symm);clear cg;rcases b0 with⟨av,bM,rfl,bk,bv⟩|⟨rfl,ag⟩
 ·have br:V _:=oN aW.o.ws bM bk bv;have w:V _:=aW.o.ws.nb _ bM;have aY:V (KO _ a=av):=PD (i2 aW.o.ws.nl bM) (by rw[<-wj (aW.o.ws.nb _ bM)];exact bk) (λj hj=>by rw[<-wj (aW.o.ws.nb j xaa)];exact bv j hj);obtain⟨bN,b7,e4,_,_,_,b3⟩:=z.o xaa;cases e4;obtain⟨_,aM,_,_,_⟩:=b3 _ bM;have a9:¬((av:Int)<0):=xaa;have HD:V _:=(show st.names.getD _ (.val [] 0)=st.names.getD av _ from rfl)
  generalize fs:st.names.getD av _=au at br w;have et:V _:=fs;clear fs HD;generalize bc:bs.getD av _=b at aM w;clear bc;have bQ:V _:=bM;cases au with
  |fn aS ps ay=>
   have B:=w.o.2.1;rw[B]at aM
   have aC:V (r=.error (3,Y)):=by
    have h:=HR.o;rw[br.o]at h;exact(h8 h).symm
   have bE:V _:=bT.o W (Kept.refl 0 0 W) 3 Y;clear bk bv b3 w z bT;generalize bs.length=nn at*;go_wp2_with (go_at_call 111;refine yaj bE.o ?_;rintro e aU ⟨rfl,G⟩);refine yaz (v:=.tuple #[]) (by simp[results,results99,go_sem]) rfl ?_;rw[aC.o];exact⟨rfl,G.c5,G.c6,G.chg⟩
  |val aS aw=>
   have B:=w.o.2.1
   have cN:V (aS=a):=by
    have:=wj (aW.o.ws.nb _ bM);rw[et.o]at this;exact this.symm.trans bk
   rw[B]at aM;clear bk bv b3 w z;have aP:=bM;generalize bH:bs.length=nn at a6 bM ah;go_upto_region 12 with (go_at_call 114;refine yaj (b8.o _) ?_;rintro e aU ⟨rfl,aZ⟩);have aO:V _:=aZ;clear aZ c0 b1 cq cc Z ae aM a6 b8;by_cases aG:100<K
   ·have aC:V (r=.error (5,be)):=by
     have h:=HR.o;rw[br.o]at h;simp only[h7 aG]at h;exact(h8 h).symm
    have aA:V _:=bT.o _ aO.o 5 be;have cq:=aD.o _ aO.o;clear bT aD;go_wp2_with (go_at_call 111;refine yaj aA.o ?_;rintro e bA ⟨rfl,G⟩);refine yaz (v:=.tuple #[]) (by simp[results,results99,go_sem]) rfl ?_;rw[aC.o];exact⟨rfl,G.c5,G.c6,(Mv.of aO.o).bad G.chg⟩
   obtain⟨N,rfl⟩:∃N:Nat,K=N:=⟨K.toNat,by omega⟩
   have aC:V (od f e av a N st=some r):=by
    have h:=HR.o;rw[br.o]at h;simp only[h6 aG]at h;rw[aY.o,Int.toNat_natCast]at h;exact h
   have d:V (st.names.getD av (.val [] 0)=.val a aw):=by show _=_;rw[et.o,cN.o]
   have a5:V (∀H x aR bd bu bC s,WS _ P I aR _ _ _ x s->Gd s->NmOK s->Mv _ W _ H->∀aq,eM f s _ e=some _->RsG s _/\Calls _ _ _ _ _):=λH x aR bd bu bC s X aK al bJ aq F=>⟨fX f s _ e aK al (λb hb=>by cases hb) af.o _ F,trc f _ P I _ bd bu bC _ s _ 0 0 _ g _ _ _ _ (aW.o.later X aK al bJ 4 xaa _ rfl) 2 e bj.o yad aq F⟩
   have S:V _:=aW.o.ws.keep aO.o;have aX:V _:=aW.o.gd;have a2:V _:=aW.o.nm;clear HR aY br et bT aD cN bj af aW;go_wp2_with fail;go_loopw [8] (λnv H=>∃(j:Nat) (s:LSt) (x:List Bc) (aR bd bu bC:Value) (aV:Nat),j<=N/\nv=h1 j/\V (WS H P I aR bd bu bC x s)/\V (Mv (Mst P u1 u2 u3 (h0 bN bs.length cK)) W (Mst P aR bd bu bC) H)/\V (od f e av a (N-j) s=some r)/\V (Gd s)/\V (NmOK s)/\V (x.length=bs.length)/\V (s.names.getD av (.val [] 0)=.val a aV)) (λnv _=>N-(intOf nv).toNat)
   case atStart=>exact⟨0,_,_,_,_,_,_,_,yae,rfl,S,(show V _ from Mv.of aO.o),aC,aX,a2,(show V _ from rfl),d⟩
   case round=>
    obtain⟨j,s,x,aR,bd,bu,bC,aV,hj,rfl,aI,T,ax,ba,aF,J,a8⟩:=hrel;clear aC d S aX a2;by_cases hlt:j<N
    ·cases l:eM f s [] e with
     |none=>
      exfalso;have h:=ax.o;rw[show N-j=(N-j-1)+1 by omega,od,l]at h;cases h
     |some aq=>
      obtain⟨an,a7⟩:=a5.o _ _ _ _ _ _ s aI.o ba.o aF.o T.o _ l;have ap:V _:=an;have b2:V _:=a7;have aL:V _:=ax.o;rw[show N-j=(N-j-1)+1 by omega,od,l]at aL;clear an a7 l ax;rcases aq with⟨c,p⟩|⟨ar,v⟩
      ·have aC:V _:=(h8 aL.o).symm;go_wp2_with (go_at_call 112;refine yaj b2.o ?_;rintro e bA ⟨rfl,bm⟩);refine yaz (v:=.tuple #[]) (by simp[results,results99,go_sem]) rfl ?_;rw[aC.o];exact⟨rfl,bm.1,bm.2.1,T.o.bad bm.2.2⟩
      obtain⟨aH,aN⟩:=ap.o _ v rfl;have cH:¬((v:Int)<0):=xaa;have U:V (ar.names.getD av (.val [] 0)=.val a aV):=by show _=_;rw[aH.m];exact a8.o
      have bW:V _:=Mw aH.g av a v;have C:V _:=My (NmOK.gw aF.o aH) av a aN;have aB:V (od f e av a (N-(j+1)) (ar.setV av a v)=some r):=by show _=_;rw[show N-(j+1)=N-j-1 by omega];exact aL.o
      go_upto_region 19 with (go_at_call 112;refine yaj b2.o ?_;rintro e bA ⟨rfl,aJ,y2,y3,y4,ab,bK⟩);obtain⟨cz,bp,ce,bh,cx,aa,Q⟩:=ab.setv (v:=v) (i1 J.o aP) U.o;have bz:=ab.c3;rw[ce,J.o,bH]at bz;have a0:=(ml ab.r4 (i3 J.o))
      obtain⟨bB,bi,bb,_,_,_,b3⟩:=a0;have cf:=(b3 _ (i1 J.o aP)).2.2.1;rw[ce]at bb;cases bb;have u:V _:=aa;have aQ:V _:=(T.o.trans bK).trans Q;have y:V ((x.set av {x.getD av ip with val:=v}).length=bs.length):=by show _=_;rw[List.length_set];exact J.o
      have bP:V ((ar.setV av a v).names.getD av (.val [] 0)=.val a v):=by
       show(ar.names.set av _).getD av _=_;rw[rU _ _ _ _ (by rw[<-ab.nl,J.o];exact aP)]
      clear b3 aa Q ab bK T aI b2 ap aL ba aF a8 aH bh;go_wp2_with fail;go_roundw;exact⟨j+1,ar.setV av a v,_,aJ,y2,y3,y4,v,by omega,by go_num,u,aQ,aB,bW,C,y,bP⟩;simp[intOf];omega
    obtain rfl:j=N:=xaa
    have aC:V (r=.ok s):=by
     have h:=ax.o;rw[Nat.sub_self,od]at h;exact(h8 h).symm
    clear ax a5;go_wp2_with fail;refine yaz (v:=.tuple #[]) (by simp[results,results99,go_sem]) rfl ?_;rw[aC.o];exact⟨rfl,_,_,_,_,_,aI.o,T.o⟩
 have aC:V (r=.error (3,Y)):=by
  have h:=HR.o;rw[pw aW.o.ws ag]at h;exact(h8 h).symm
 have bE:V _:=bT.o W (Kept.refl 0 0 W) 3 Y;clear ag z bT a6;go_wp2_with (go_at_call 111;refine yaj bE.o ?_;rintro e aU ⟨rfl,G⟩);refine yaz (v:=.tuple #[]) (by simp[results,results99,go_sem]) rfl ?_;rw[aC.o];exact⟨rfl,G.c5,G.c6,G.chg⟩
theorem PE:(prog.info? 162).map (λi=>(i.zero,i.size,i.bytes))=some (some (.agg #[.string ⟨#[]⟩,.bool false,h1 0,.slice none 0 0,.slice none 0 0]),5,80):=by kernel_rfl
theorem nU:∃b1,prog.info? 162=some b1/\b1.zero=some (.agg #[.string ⟨#[]⟩,.bool false,h1 0,.slice none 0 0,.slice none 0 0])/\b1.size=5/\b1.bytes=80:=by
 have h:=PE;simp_all
theorem Ju(w:World)(b:Bc)(m):∀j u,b.cells[j]? =some u->((w.alloc (.cells #[eK b.nm,.bool b.fn,h1 b.val,.slice b.pa b.pn b.pc,.slice b.ba b.bn b.bc] 162)).drewN m).cell? ((⟨w.heap.size,0,none⟩:Addr).add j)=some u:=λj u a6=>
 World.news_of_block (w:=w.alloc (.cells #[eK b.nm,.bool b.fn,h1 b.val,.slice b.pa b.pn b.pc,.slice b.ba b.bn b.bc] 162)) (t:=162) (fr:=(0,0)) (cs:=#[eK b.nm,.bool b.fn,h1 b.val,.slice b.pa b.pn b.pc,.slice b.ba b.bn b.bc]) (oE _ _) j u a6
theorem PF(b:Bc):∀u∈b.cells,u.oneCell'=true:=λu a6=>by
 simp only[Bc.cells,List.mem_cons,List.not_mem_nil,or_false]at a6
 rcases a6 with rfl|rfl|rfl|rfl|rfl<;>rfl
theorem qk{W}(h:WS W P I u1 u2 u3 u4 bs st)(ai:bs.length<=100000)(ba:iN st.names s=none):Calls prog 113 #[hZ P,eK s] W λe H=>e=.returned (h1 (-1))/\H=W:=
 yaj (rI h.c3 h.r4 ai s) (λe H ⟨r,af,b0,X⟩=>by
  rcases b0 with⟨av,bM,rfl,bk,bv⟩|⟨rfl,ag⟩
  ·rw[oN h bM bk bv]at ba;cases ba
  grind)
theorem ql{W}(h:WS W P I u1 u2 u3 u4 bs st)(ai:bs.length<=100000){d}(ba:iN st.names s=some d):Calls prog 113 #[hZ P,eK s] W λe H=>∃k:Nat,e=.returned (h1 k)/\H=W:=
 yaj (rI h.c3 h.r4 ai s) (λe H ⟨r,af,b0,X⟩=>by
  rcases b0 with⟨av,bM,rfl,bk,bv⟩|⟨rfl,ag⟩<;>grind[pw])
theorem vq{r d}(h:iN st.names n.text=some d):pH st n r=some (.error (3,n.pos)):=by unfold pH;rw[h]
theorem vr{r}(h:iN st.names n.text=none):pH st n r=r:=by unfold pH;rw[h]
theorem dA.qeb(h:Zp:=by
 clear ci Z ae;cases aX:iN st.names a with
 |some d=>
  exact qak
 |none=>
  exact qfs):Zp:=h
theorem dA.qfn(h:Zp:=by
 rw[show(k::n::q::ts).getD 0 _=k from rfl]at c0;rw[show(k::n::q::ts).getD 1 _=n from rfl]at ci Z ae;rw[O,show Kt=[108,101,116] from rfl]at c0;exact qgr):Zp:=h
theorem dA.qft(h:Zp:=by
 have aC:V ((eM f st [] e).map (qP a)=some r):=by
  have h:=HR.o;rw[vr HFn.o]at h;exact h
 cases l:eM f st [] e with
 |none=>exfalso;have h:=aC.o;grind
 |some aq=>
  have C:V (r=qP a aq):=by
   have h:=aC.o;rw[l]at h;exact(h8 h).symm
  have an:=fX f _ _ e aW.o.gd aW.o.nm (λb hb=>by cases hb) af.o _ l;have ap:V _:=an;have b2:V _:=trc f _ P I _ _ _ _ _ _ _ 0 0 _ g _ _ _ _ (aW.o.later bL.o aW.o.gd aW.o.nm (Mv.of HK.o) 3 xaa _ rfl) 2 e bj.o yad _ l;clear an l aC HR HFn bj af;rcases aq with⟨c,p⟩|⟨s,v⟩
  ·go_wp2_with (go_at_call 112;refine yaj b2.o ?_;rintro e aU ⟨rfl,bm⟩);refine yaz (v:=.tuple #[]) (by simp[results,results99,go_sem]) rfl ?_;rw[C.o];exact⟨rfl,bm.1,bm.2.1,(Mv.of HK.o).bad bm.2.2⟩
  obtain⟨w,aN⟩:=ap.o s v rfl;have cH:(0:Int)<=v:=xaa;have bW:=w.g;have cw:V (r=.ok _):=C.o;go_upto_region 49 with (go_at_call 112;refine yaj b2.o ?_;rintro e ck ⟨rfl,ba,bb,bc,bo,a8,aL⟩);have cu:V _:=(Mv.of HK.o).trans aL;have bw:V _:=T.o.keepC aL.chg bg.o;have bi:¬Mst P _ _ _ _ _:=λc=>(aL.new _ c).elim bg.o (λc=>ix T.o.lt);clear b2 ap C aL aW bL U aV T w;obtain⟨b1,bd,hz0,hz1,hz2⟩:=nU;have bz:=a8.c3;have cx:=a8.fr 3;have aM:=a8.lt;have b0:I<=ck.heap.size:=ix a8.sz
  obtain⟨a4,cK,e4⟩:=jy a8.r4;have aJ:V (bo.ownBlock≠some P/\bo.ownBlock≠some _):=⟨a8.np.2.2.2,λc=>bi (.inr (.inr (.inr (.inr c))))⟩
  exact qgx):Zp:=h
theorem dA.qgs(h:Zp:=by
 have bj:V _:=az;have af:V _:=bS;clear h ad az bS O;exact qhf):Zp:=h
theorem dA.qgy(h:Zp:=by
 go_upto_region 50 with fail
 go_region_law
  ((refine step_append_lies _ rfl _ _ _ rfl I 162 _ _ 5 _ underlying141 bd hz0 hz1 hz2 rfl xab _ _ _ (by simp[Act.eval]) (lU bq.o 1 _) _ 1 1 (Bc.cells ⟨_,_,_,_,0,0,_,0,0⟩) (by simp[Act.eval]) rfl (Ju _ _ _) (PF _) xab (by unfold maxLen;omega) xaa yag _ rfl ?_;intro g9 cap9 bn bU bK bO bV;have aY:=kR bK aM aJ.o.1 bz;have bN:=far2 bK aM aJ.o.1 cx;have ar:=kR bK a2 aJ.o.2 a9))
 all_goals
  have be:=bO.imp id (λe=>Nat.le_of_eq e.symm)
  have ab:=(eA 0 0 ck (.cells #[eK a,.bool false,h1 v,.slice none 0 0,.slice none 0 0] 162)).trans (eH 0 0 _ 1)
  obtain⟨(u:V _),Q⟩:=(bv.o.keep ab).nms_ (d:=.val a v) (n9:=N+1) (fT bK) (by rw[yal,HN.o];rfl) (by rw[yg,yh];exact bU) be (λ_=>⟨rfl,rfl,rfl⟩)
  have aQ:V _:=(cu.o.keep ab).trans Q
  clear Q be ab bU bK bO bV aY bN ar
  go_wp2_with fail
  refine yaz (v:=.tuple #[]) (by simp[results,results99,go_sem]) rfl ?_
  rw[cw.o]
  exact⟨rfl,_,_,_,_,_,u.o,aQ.o⟩):Zp:=h
open dA in
theorem Jv{W}(ad:TrIn W P I u1 u2 u3 u4 bs st none 0 [] g off m cap (k::n::q::ts))(O:k.sym=Kt)(az:Pr 2 [e] ts)(h:iz f st (.letS n e)=some r):
  Calls prog 99 #[hZ P,.slice (some ⟨g,off,none⟩) m cap] W (StO W P I u1 u2 u3 u4 r):=by
 have ai:=iZ az;have bS:=jm az (λt ht=>ad.ti t (by simp[ht])) e xac;have ao:=ad.tk.len;simp only[yaq]at ao;exact qfm
theorem dB.qeb(h:Zp:=by
 clear ci Z ae;cases aX:iN st.names a with
 |some d=>
  exact qak
 |none=>
  exact qfs):Zp:=h
theorem dB.qfn(h:Zp:=by
 rw[show([k,n,c,l]).getD 0 _=k from rfl]at c0;rw[show([k,n,c,l]).getD 1 _=n from rfl]at ci Z ae;rw[O,show kIn=[105,110] from rfl]at c0;exact qgr):Zp:=h
theorem dB.qft(h:Zp:=by
 obtain⟨bQ,b6,cf⟩:=aw.o _ HK.o
 have aC:V (r=inR st ⟨bf,Y,a⟩ ⟨bC,w,bG⟩):=by
  have h:=HR.o;rw[vr HFn.o]at h;exact(h8 h).symm
 clear HR HFn;go_upto_region 43 with (go_at_call 114;refine yaj (b8.o _) ?_;rintro e aU ⟨rfl,aZ⟩);have aO:V _:=HK.o.trans aZ;have ca:V _:=T.o.keep aZ;have S:V _:=bL.o.keep aZ;obtain⟨_,b6,_⟩:=aw.o _ aO.o;have U:=ca.o.c1;have a0:V _:=bg.o;clear aZ b8 bL HK bQ cf aV c0
 have aq:V (r=if K<1\/1000<K then .error (4,w)else if 20<=st.ins.length then .error (5,Y)else qP a (fI {st with ins:=st.ins++[K]} (eJ 0 K (st.ins.length:Int) 0 0) Y)):=by
  show _=_;rw[aC.o];unfold inR;simp only;rw[a5.o]
 clear aC a5;have au:V _:=λaK aR=>jw S.o.c5 S.o.c6 S.o.fr aK aR (Mst P u1 u2 u3 u4) (.inl rfl);by_cases F:K<1
 ·have J:V (r=.error (4,w)):=by simp_all
  have ak:V _:=au.o 4 w;clear aq au S;go_wp2_with (go_at_call 111;refine yaj ak.o ?_;rintro e bA ⟨rfl,G⟩);refine yaz (v:=.tuple #[]) (by simp[results,results99,go_sem]) rfl ?_;rw[J.o];exact⟨rfl,G.c5,G.c6,(Mv.of aO.o).bad G.chg⟩
 by_cases h2:1000<K
 ·have J:V (r=.error (4,w)):=by simp_all
  have ak:V _:=au.o 4 w;clear aq au S;go_wp2_with (go_at_call 111;refine yaj ak.o ?_;rintro e bA ⟨rfl,G⟩);refine yaz (v:=.tuple #[]) (by simp[results,results99,go_sem]) rfl ?_;rw[J.o];exact⟨rfl,G.c5,G.c6,(Mv.of aO.o).bad G.chg⟩
 obtain⟨a1,bB,af⟩:=je S.o.r1;have bH:=S.o.c0;by_cases h3:20<=st.ins.length
 ·have J:V (r=.error (5,Y)):=by show _=_;rw[aq.o,h6 xaa,h7 h3]
  have ak:V _:=au.o 5 Y;have bZ:(20:Int)<=st.ins.length:=xaa;rw[af]at bH;clear aq au S b6;generalize st.ins.length=ni at*;go_wp2_with (go_at_call 111;refine yaj ak.o ?_;rintro e bA ⟨rfl,G⟩);refine yaz (v:=.tuple #[]) (by simp[results,results99,go_sem]) rfl ?_;rw[J.o];exact⟨rfl,G.c5,G.c6,(Mv.of aO.o).bad G.chg⟩
 have aD:V (r=qP a (fI {st with ins:=st.ins++[K]} (eJ 0 K (st.ins.length:Int) 0 0) Y)):=by show _=_;rw[aq.o,h6 xaa,h6 h3]
 have aG:1<=K/\K<=1000:=xaa;have ap:V _:=M5 aW.o.gd K xaa;have bP:V _:=λcB v (e:fI _ _ Y=.ok (cB,v))=>oO ap.o (M6 aW.o.gd aG) e;have aH:(aU.alloc (.cells #[h1 K] 3)).cell? ⟨aU.heap.size,0,none⟩=some (h1 K):=by rw[yav];rfl
 have bj:=eA 0 0 aU (.cells #[h1 K] 3);have b:V _:=S.o.keep bj;have C:V _:=aO.o.trans bj;have cy:V _:=ca.o.keep bj;have ag:V (I<=aU.heap.size):=by show _<=_;have:=S.o.sz;have:=S.o.lt;omega
 have bZ:¬(20:Int)<=st.ins.length:=xaa;have br:V (st.ins.length<20):=by show _<_;omega
 clear aq au S b6 ca bj U;subst af;go_upto_region 47 with fail;go_wp2_with (first|(at_builtin;refine fR _ rfl _ _ rfl I _ _ (by rfl) b.o.r1 _ K (by rfl) aH ?c2 ?c3 ?_)|fail)
 case c2=>have:=br.o;omega
 case c3=>have:=ag.o;simp;omega
 intro g9 cap9 n9 bn an b9 bF ch;obtain⟨aa,Q⟩:=b.o.ins_ (n9:=n9) (zs:=st.ins++[K]) bF (by rw[an];simp) (by rw[List.map_append];exact b9) (ch.imp id (λe=>by rw[e];simp));have hlt:=b.o.lt;have bh:=(bF.cell hlt b.o.np.1).trans b.o.c0;have bp:=(bF.frozen hlt b.o.np.1).trans (b.o.fr 0);have bk:n9=st.ins.length+1:=by rw[an]
 subst bk;have u:V _:=aa;have aB:V _:=(Mv.of C.o).trans Q;have y:V _:=cy.o.keepC Q.chg a0.o;have cz:V (¬Mst P _ _ _ _ _):=λc=>(Q.new _ c).elim a0.o (λc=>ix cy.o.lt);clear aa Q bF b9 ch an aH b C;go_upto_region 48 with fail;clear bh bp hlt;generalize bn.setCell ⟨P,0,_⟩ _=bD at u aB y⊢;clear cy aw aI aW T bH
 have al:V (∀H (aF:Int),aF=(st.ins.length:Int)->Kept 0 0 bD H->Calls prog 115 #[hZ P,(eJ 0 K aF 0 0).agg,h1 Y] H λe z=>V (TrO bD P I (h0 g9 (st.ins.length+1) cap9) u2 u3 u4 bs (fI {st with ins:=st.ins++[K]} (eJ 0 K (st.ins.length:Int) 0 0) Y) e z)/\(∃x:Int,e=.returned (h1 x))/\z.cell? ⟨a7,1,none⟩=some (h1 Y)/\z.cell? ⟨P,0,none⟩=some (h0 g9 (st.ins.length+1) cap9)):=λH aF bu aj=>by
  subst bu
  exact yaj (Ou (u.o.keep aj) ap.o (eJ 0 K (st.ins.length:Int) 0 0) aG yah Y) (λe z t=>⟨TrO.back aj t.1,t.1.ret,(t.1.chg.cell (p:=⟨a7,1,none⟩) (y.o.keep aj).lt cz.o).trans (y.o.keep aj).c1,t.2⟩)
 have aA:V (∀H,Kept 0 0 _ H->H.cell? _=some _/\H.cell? _=some _):=λH aj=>⟨(y.o.keep aj).c1,(u.o.keep aj).c0⟩
 generalize fI _ _ _=bT at al bP aD;obtain⟨aS,bl⟩:=aA.o _ iv;have bJ:V _:=u.o.nl;clear u ap;generalize st.ins.length=ni at*;rcases bT with⟨aK,aR⟩|⟨s,v⟩
 ·have J:V (r=.error _):=aD.o
  go_region_held3 (λB=>B.cell? ⟨a7,1,none⟩=some (h1 Y)/\B.cell? ⟨P,0,none⟩=some (h0 g9 (ni+1) cap9)) (go_keep)
   (first
    |(go_at_call 79;refine yaj (gG _ _ _ _ _ _) ?_;rintro e cn ⟨rfl,bY⟩;obtain⟨ay,aP⟩:=aA.o _ ((eF _).trans bY))
    |(go_at_call 115;refine yaj (al.o _ _ (by rw[IntKind.wrap_i64];omega) ((eF _).trans bY)) ?_;rintro e cd ⟨bm,⟨_,_⟩,b5,az⟩;obtain rfl:=bm.o.1))
  all_goals (
   go_wp2_with fail
   refine yaz (v:=.tuple #[]) (by simp[results,results99,go_sem]) rfl ?_
   rw[J.o]
   exact⟨rfl,bm.o.2.1,bm.o.2.2.1,aB.o.bad bm.o.2.2.2⟩)
 obtain⟨bA,aN,_⟩:=bP.o s v rfl;have cH:(0:Int)<=v:=xaa;have bW:=bA.g;have cw:V (r=.ok _):=aD.o;clear bP aD bA
 go_region_held3 (λB=>B.cell? ⟨a7,1,none⟩=some (h1 Y)/\B.cell? ⟨P,0,none⟩=some (h0 g9 (ni+1) cap9)) (go_keep)
  (first
   |(go_at_call 79;refine yaj (gG _ _ _ _ _ _) ?_;rintro e cn ⟨rfl,bY⟩;obtain⟨ay,aP⟩:=aA.o _ ((eF _).trans bY))
   |(go_at_call 115;refine yaj (al.o _ _ (by rw[IntKind.wrap_i64];omega) ((eF _).trans bY)) ?_;rintro e ck ⟨bm,⟨_,_⟩,b5,az⟩;obtain rfl:=bm.o.1))
 all_goals (
  obtain⟨_,ba,bb,bc,bo,a8,aL⟩:=bm.o
  have cu:V _:=aB.o.trans aL
  have bw:V _:=y.o.keepC aL.chg cz.o
  have bi:¬Mst P _ _ _ _ _:=λc=>(aL.new _ c).elim cz.o (λc=>ix y.o.lt)
  clear bm aL al aA aB y cz bl aS aP ay bY b5 az
  go_upto_region 50 with fail
  obtain⟨b1,bd,hz0,hz1,hz2⟩:=nU
  have bz:=a8.c3
  have cx:=a8.fr 3
  have aM:=a8.lt
  have b0:I<=ck.heap.size:=ix a8.sz
  obtain⟨a4,cK,e4⟩:=jy a8.r4
  have aJ:V (bo.ownBlock≠some P/\bo.ownBlock≠some _):=⟨a8.np.2.2.2,λc=>bi (.inr (.inr (.inr (.inr c))))⟩
  have a2:=bw.o.lt
  have a9:=bw.o.c2
  have bq:V _:=a8.r4
  have bv:V _:=a8
  have cF:bs.length<=5000:=i1 a8.nl bW.m
  clear a8
  subst e4
  generalize bI:bs.length=N at*
  have HN:V _:=bI
  clear bI
  go_region_law
   ((refine step_append_lies _ rfl _ _ _ rfl I 162 _ _ 5 _ underlying141 bd hz0 hz1 hz2 rfl xab _ _ _ (by simp[Act.eval]) (lU bq.o 1 _) _ 1 1 (Bc.cells ⟨_,_,_,_,0,0,_,0,0⟩) (by simp[Act.eval]) rfl (Ju _ _ _) (PF _) xab (by unfold maxLen;omega) xaa yag _ rfl ?_;intro g9 cap9 bn bU bK bO bV;have aY:=kR bK aM aJ.o.1 bz;have bN:=far2 bK aM aJ.o.1 cx;have ar:=kR bK a2 aJ.o.2 a9))
  all_goals
   have be:=bO.imp id (λe=>Nat.le_of_eq e.symm)
   have ab:=(eA 0 0 ck (.cells #[eK a,.bool false,h1 v,.slice none 0 0,.slice none 0 0] 162)).trans (eH 0 0 _ 1)
   obtain⟨(u:V _),Q⟩:=(bv.o.keep ab).nms_ (d:=.val a v) (n9:=N+1) (fT bK) (by rw[yal,HN.o];rfl) (by rw[yg,yh];exact bU) be (λ_=>⟨rfl,rfl,rfl⟩)
   have aQ:V _:=(cu.o.keep ab).trans Q
   clear Q be ab bU bK bO bV aY bN ar
   go_wp2_with fail
   refine yaz (v:=.tuple #[]) (by simp[results,results99,go_sem]) rfl ?_
   rw[cw.o]
   exact⟨rfl,_,_,_,_,_,u.o,aQ.o⟩)):Zp:=h
theorem dB.qgs(h:Zp:=by
 have bQ:=ad.tk.c0 3 xaa;have b6:=ad.tk.c1 3 xaa;have cf:=ad.tk.c2 3 xaa;rw[show([k,⟨_,_,_⟩,c,l]:List _).getD 3 _=l from rfl]at bQ b6 cf;have b8:V _:=λH=>zW l bx H;have aI:=ad.tk.lt;have aT:=pW bx yad;rw[yap yad]at aT;obtain⟨bC,w,bG⟩:=l;unfold iT at b8;simp only at*;have cS:4<=m:=xaa;clear h ad O ai bx ao;generalize a6:ii _=K at*;have a5:V _:=a6;clear a6;have aw:V (∀H,Kept 0 0 W H->H.cell? _=some _/\H.cell? _=some _/\H.cell? _=some _):=λH aj=>⟨(aj.cell aI xaa).trans bQ,(aj.cell aI xaa).trans b6,(aj.cell aI xaa).trans cf⟩
 clear bQ b6 cf;exact qhf):Zp:=h
open dB in
theorem Mz{W c l}(ad:TrIn W P I u1 u2 u3 u4 bs st none 0 [] g off m cap [k,n,c,l])(O:k.sym=kIn)(ai:l.sym=ik)(h:iz f st (.inS n l)=some r):
  Calls prog 99 #[hZ P,.slice (some ⟨g,off,none⟩) m cap] W (StO W P I u1 u2 u3 u4 r):=by
 have bx:=ad.ti l xac ai;have ao:=ad.tk.len;simp only[yaq,List.length_nil]at ao;exact qfm
def PPz(ps us:List Tok):Prop:=(ps=[]/\us=[])\/PPm ps us
def noC(us:List Tok):List Tok:=us.filter λt=>!(t.sym==[44])
theorem yM(a b):noC (a++b)=noC a++noC b:=by unfold noC;grind
theorem MA(h:PPm ps us):noC us=ps:=by
 induction h with
 |one h=>
  unfold noC;rw[List.filter_cons_of_pos (by rw[h];decide)];rfl
 |more _ al ht G=>
  rename_i ps ts c t _;rw[yM,G];unfold noC;rw[List.filter_cons_of_neg (by grind),List.filter_cons_of_pos (by rw[ht];decide)];rfl
theorem MB(h:PPz ps us):noC us=ps:=by
 rcases h with⟨rfl,rfl⟩|h
 ·rfl
 exact MA h
theorem MC(h:PPz ps us):∀t∈us,(t.sym==[41])=false:=by
 rcases h with⟨rfl,rfl⟩|h
 ·grind
 intro t ht;rcases GP h t ht with c|c<;>(rw[c];decide)
theorem Jw(B p r):Hc B (p::r)=if B.any (λq=>q.text==p.text)=true then some p.pos else Hc (B++[p]) r:=rfl
def oW(us:List Tok)(j:Nat):Option Nat:=Hc (noC (us.take j)) (noC (us.drop j))
theorem Jx(h:j<us.length):us.take (j+1)=us.take j++[us.getD j ih]/\us.drop j=us.getD j ih::us.drop (j+1):=by
 simp_all
theorem wV{t}(h:(t.sym==[44])=true):noC [t]=[]:=by grind[noC]
theorem Cg(h:j<us.length)(c:((us.getD j ih).sym==[44])=true):noC (us.take (j+1))=noC (us.take j)/\oW us (j+1)=oW us j:=by
 obtain⟨af,bg⟩:=Jx h
 have ah:noC (us.drop j)=noC (us.drop (j+1)):=by
  rw[bg,<-List.singleton_append,yM,wV c,List.nil_append]
 have e4:noC (us.take (j+1))=noC (us.take j):=by rw[af,yM,wV c,List.append_nil]
 refine⟨e4,?_⟩;unfold oW;rw[e4,ah]
theorem Jy(h:j<us.length)(c:((us.getD j ih).sym==[44])=false):noC (us.take (j+1))=noC (us.take j)++[us.getD j ih]/\((noC (us.take j)).any (λq=>q.text==(us.getD j ih).text)=true->oW us j=some (us.getD j ih).pos)/\((noC (us.take j)).any (λq=>q.text==(us.getD j ih).text)=false->oW us (j+1)=oW us j):=by
 grind[Jx,noC,oW,Jw]
