import Derived.Test.YtcagphgmfbjneaaGreatP49
import Derived.Test.YtcagphgmfbjneaaGreatP51
import Derived.Test.YtcagphgmfbjneaaGreatP29
namespace Go.Proofs.Z
variable{Zp:Prop}
open Tryz Go.RowKit Flt
set_option maxRecDepth 1000000
set_option maxHeartbeats 0
section
theorem Mu(w K P a0 Z c1 ae c2 ab c3 s x ins vs outs)(f:GS w K Z (some ⟨a0,0,none⟩) ae P ab ins vs outs)(cQ:VA w a0 ae vs)(b6:Z<=1000000)(cf:ae<=2000)(b7:ab<=1000000)(Q:(List.range ae).all (okV ins vs)=true)(cN:eZ vs<=50000)(aw:s<ae)(ap:x<ae):
  Calls prog 134 #[eX K Z c1 (some ⟨a0,0,none⟩) ae c2 P ab c3,h1 s,h1 x] w λe B=>v7 w B Z ab ins outs (grM vs s x) e/\Kept 0 0 w B:=by
 cases az:(jo vs x (s-x)).getD s false with
 |false=>exact yd w _ _ _ _ _ _ _ _ _ s x _ _ _ f cQ b6 cf b7 Q cN aw ap az
 |true=>exact A0 w _ _ _ _ _ _ _ _ _ s x _ _ _ f cQ b6 cf b7 Q cN aw ap az
theorem WS.grad{W P I u1 u2 u3 u4 bs st}(h:WS W P I u1 u2 u3 u4 bs st)(g:Gd st){s x}(aw:s<st.vs.length)(ap:x<st.vs.length):
  ∃a1 bB a0 bG a3 b3,u1=.slice a1 st.ins.length bB/\u2=h0 a0 st.vs.length bG/\u3=.slice a3 st.outs.length b3/\
   (Calls prog 134 #[eX a1 st.ins.length bB (some ⟨a0,0,none⟩) st.vs.length bG a3 st.outs.length b3,h1 s,h1 x] W λe B=>v7 W B st.ins.length st.outs.length st.ins st.outs (grM st.vs s x) e/\Kept 0 0 W B)/\
   ∀t:Nat,Calls prog 136 #[eX a1 st.ins.length bB (some ⟨a0,0,none⟩) st.vs.length bG a3 st.outs.length b3,h1 s,h1 x,h1 t] W λe B=>v7 W B st.ins.length st.outs.length st.ins st.outs (jR st.vs s x t) e/\Kept 0 0 W B:=by
 obtain⟨a0,bG,bg,_,_,_,h4⟩:=nj h.r2 xaa rfl;obtain⟨a1,bB,J,y2,a3,b3,af,aZ,ah,f⟩:=h.gs g.k;rw[bg]at aZ;cases aZ;have hi:=g.i;have ho:=g.o;exact⟨_,_,_,_,_,_,af,bg,ah,Mu W _ _ _ _ _ _ _ _ _ s x _ _ _ f h4 xaa g.n xaa g.ok g.c aw ap,λt=>OC W _ _ _ _ _ _ _ _ _ s x t _ _ _ f h4 xaa g.n xaa g.ok g.c aw ap⟩
end
section
attribute[local go_sem] eE eD eC
def Jn(k:Tok)(q:Rs Nat)(r1:Rs (LSt×Nat)):Rs (LSt×Nat):=match q with
 |.error f=>.error f
 |.ok v=>match r1 with
  |.error f=>.error f
  |.ok (s,a)=>pN s k a v
theorem aY.qbo(h:Zp:=by
 have ca:V _:=cy.o.keepC aL.chg aD.o;obtain⟨b0,cv,bg,ck,a6⟩:=aO.lenc az;have Y:V _:=(Mv.of bQ.o).trans aL;have S:V _:=aO;have bR:=ca.o.c0;have aM:=ca.o.c1;have bI:=w.g.n;have bk:=aO.c1;rw[bg]at bk;have aC:V (r=pN s ⟨[103,114,97,100],aX,C⟩ a v):=HR.o;clear HR b2 cy aY aL;by_cases F:eW s a=1
 ·obtain⟨a1,bB,a0,bG,a3,b3,af,aZ,ah,bq,_⟩:=aO.grad w.g az ap;obtain⟨ai,bN,cP⟩:=Ab w.g.v az ap F;obtain⟨j,hj⟩:∃j:Nat,(grM s.vs a v).2=(j:Int):=⟨_,(Int.toNat_of_nonneg bN.1).symm⟩
  have X:V (r=if kz (grM s.vs a v).1=true then .error (5,aX)else .ok ({s with vs:=(grM s.vs a v).1},j)):=by
   show r=_;rw[aC.o];unfold pN;rw[h6 (by simpa using F)];unfold iC;rw[hj,Int.toNat_natCast]
  have aV:∀k,k<(grM s.vs a v).1.length->_:=λk O=>gi (ai.1 k O);rw[bg]at aZ;cases aZ;subst af bg ah;have bH:=aO.c0;have p2:=aO.c2;have aA:V _:=bq;have bM:=ai.2;generalize grM s.vs a v=M at*;obtain⟨g,da⟩:=M;simp only at hj aV bM X;subst hj
  have bF:V (∀H U aM J cap aa aI,Kept 0 0 aU H->H.ownsRow aU.heap.size 3 1 (.slice U s.ins.length aM) s.ins.length (s.ins.map (Value.int .i64))->H.ownsRow aU.heap.size 86 6 (.slice J g.length cap) g.length (fN g)->H.ownsRow aU.heap.size 3 1 (.slice aa s.outs.length aI) s.outs.length (s.outs.map (Value.int .i64))->Apart (.slice U s.ins.length aM) (.slice aa s.outs.length aI)->Calls prog 135 #[hZ P,eX U s.ins.length aM J g.length cap aa s.outs.length aI,h1 j,h1 aX] H λe z=>(∃x:Int,e=.returned (h1 x))/\V (TrO W P I u1 u2 u3 u4 bs r e z)):=λH U aM J cap aa aI aj ay aB bz aP=>yaj (qQ aO aj ay aB bz aP bM aV j aX) (λe z t=>⟨t.ret,by
   show TrO W P I u1 u2 u3 u4 bs r e z
   rw[X.o]
   exact TrO.after Y.o t⟩)
  clear bq aO aC X bv bj bE S ai bN cP aV bM w Y aD bQ;rw[F]at a6;generalize s.vs.length=N at*;generalize s.ins.length=b6 at*;generalize s.outs.length=cg at*;go_upto_region 20 with (go_at_call 134;refine yaj aA.o ?_;rintro e bA ⟨⟨U,n,aa,ad,J,be,rfl,ay,aB,bz,aP⟩,bW⟩);have d:=(ca.o.keep bW).c1;have bl:V (∀H,Kept 0 0 bA H->_):=λH aj=>bF.o H U n J be aa ad (bW.trans aj) (eN ay aj) (eN aB aj) (eN bz aj) aP;have cO:V (∀H,Kept 0 0 bA H->_):=λH aj=>(ca.o.keep (bW.trans aj)).c1;clear ay aB bz aP bF aA a6 bH bk p2 bR aM;have bi:=cO.o _ (eA 0 0 bA (fx U b6 n J g.length be aa cg ad));have aw:V _:=bl.o _ (eA 0 0 bA (fx U b6 n J g.length be aa cg ad));go_wp2_with (go_at_call 135;refine yaj aw.o ?_;rintro e cn ⟨⟨x,rfl⟩,bm⟩);go_ret;exact bm.o
 have R:V (r=.error (4,aX)):=aC.o.trans (h7 F);have ak:=yax F;have bT:V _:=jw aO.c5 aO.c6 aO.fr 4 aX (Mst P ba bb bc bo) (.inl rfl);clear aO aC bv bj bE S;generalize eW s a=l at a6 F ak;generalize s.vs.length=N at*;go_wp2_with (go_at_call 111;refine yaj bT.o ?_;rintro e bA ⟨rfl,G⟩);go_ret;rw[R.o];exact⟨rfl,G.c5,G.c6,Y.o.bad G.chg⟩):Zp:=h
theorem aY.qeo(h:Zp:=by
 rcases aq with⟨c,p⟩|⟨s,a⟩
 ·exact xge
 exact qgq):Zp:=h
open aY in
theorem Ce{W P I u1 u2 u3 u4 bs st a5 Q cL u}(h:WS W P I u1 u2 u3 u4 bs st)(ao:st.names.length<=5000)(bV:LcR (Mst P u1 u2 u3 u4) W a5 Q u)(ag:Q<=5000)(aX C){b4 Z b7 q o ci c0 ay ch c1}(m)(bS:2<=Z)(cc:b4<W.heap.size)(a2:W.cell? ⟨b4,0,none⟩=some (.slice (some ⟨q,o,none⟩) ci c0))(cQ:Sg1 W b4 1 ay ch c1 m)(aq)(br:(∃v,fi st u m=.ok v)->RsG st aq)(aN:∀v,fi st u m=.ok v->v<st.vs.length)
  (bf:(∃v,fi st u m=.ok v)->∀H,Kept 0 0 W H->Calls prog 112 #[hZ P,.slice a5 Q cL,.slice (some ⟨q,o,none⟩) ci c0] H (TrO H P I u1 u2 u3 u4 bs aq)):
  Calls prog 129 #[hZ P,.slice a5 Q cL,iT ⟨[103,114,97,100],aX,C⟩,h0 b4 Z b7] W (TrO W P I u1 u2 u3 u4 bs (Jn ⟨[103,114,97,100],aX,C⟩ (fi st u m) aq)):=by
 have T:V _:=gV W [103,114,97,100] aX C;have HK:V _:=eA 0 0 W (.cells #[eK [103,114,97,100],h1 aX,eK C] 137);have aD:V _:=h.far;have aK:V (∀H,Kept 0 0 W H->_):=λH aj=>(aj.cell (p:=⟨b4,0,none⟩) cc xaa).trans a2;have b1:V _:=cQ;have bX:V (∀H,Kept 0 0 W H->_):=λH aj=>yl (h.keep aj) ao a5 Q cL u (bV.keep aj) ag m;have K:V _:=bf;have bv:V _:=br;have bj:V _:=aN;have bE:V _:=h;obtain⟨r,aF⟩:∃r,r=Jn ⟨[103,114,97,100],aX,C⟩ (fi st u m) aq:=⟨_,rfl⟩
 rw[<-aF];have HR:V _:=aF;clear aF h br bf a2 cQ aN bV ao;unfold iT at bX⊢;obtain⟨xs,di,cU⟩:=m;simp only at bX⊢;go_enter func129,ntmps129;go_upto_region 2 with fail;change Code.wp _ _ _ _ (W.alloc (.cells #[eK [103,114,97,100],h1 aX,eK C] 137));generalize W.alloc (.cells #[eK [103,114,97,100],h1 aX,eK C] 137)=ax at T HK⊢;generalize W.heap.size=a7 at T aD⊢;have b:V _:=bX.o ax HK.o;obtain⟨ar,aW,bJ,cB⟩:=(b1.o.keep HK.o).cells;simp only at aW bJ cB;have bL:=T.o.c0;clear bX b1;generalize fi st u ⟨xs,di,cU⟩=dg at b HR bj K bv;rcases dg with⟨c,p⟩|v
 ·exact xdk
 exact qen
end
section
theorem Cf{f st u k x a r}(h:eM (f+1) st u (.grad k a x)=some r):∃aq,r=Jn k (fi st u x) aq/\(∀v,fi st u x=.ok v->eM f st u a=some aq):=by
 rw[eM]at h;cases aN:fi st u x with
 |error q=>rw[aN]at h;cases h;exact⟨.error q,rfl,λv e=>by cases e⟩
 |ok v=>
  rw[aN]at h;simp only at h;cases F:eM f st u a with
  |none=>rw[F]at h;cases h
  |some aq=>
   rw[F]at h;rcases aq with⟨c,p⟩|⟨ar,y⟩
   ·cases h;exact⟨_,rfl,λ_ _=>rfl⟩
   cases h;exact⟨_,rfl,λ_ _=>rfl⟩
section
variable{f:Nat}{W:World}{P I:Nat}{u1 u2 u3 u4:Value}{bs:List Bc}{st:LSt}{a5:Option Addr}{Q cL:Nat}{u:Loc}{g off m cap:Nat}{ts:List Tok}{a:Ex}{r:Rs (LSt×Nat)}
theorem dD.qeg(h:Zp:=by
 have bf:(∃v,fi st u n=.ok v)->∀z,Kept 0 0 H z->_:=λba z av=>
  N z P I u1 u2 u3 u4 bs st a5 Q cL u g o ts.length c0 ts ⟨ad.ws.keep (aj.trans av),ad.gd,ad.nm,ad.lc.keep (aj.trans av),ad.ln,ad.lo,c2.keep av,ad.tg,ix ad.m5,c3,λt ht=>ad.ti t (by simp[ht]),λt ht=>ad.tn t (by simp[ht])⟩ 2 a az yad aq (ba.elim af)
 have br:(∃v,fi st u n=.ok v)->_:=λba=>fX f st u a ad.gd ad.nm ad.lo bS aq (ba.elim af);obtain⟨a9,aX,C⟩:=k;simp only at O;subst O;exact Ce (ad.ws.keep aj) ad.gd.m (ad.lc.keep aj) ad.ln aX C n yad cc c1 ⟨cc,G,j⟩ aq br (λv aN=>oP ad.nm ad.lo aN) bf):Zp:=h
theorem dD.qfv(h:Zp:=by
 exact qhb):Zp:=h
theorem dD.qhc(h:Zp:=by
 have aS:∀x:List UInt8,x≠Cq->(k.sym==x)=false:=λx F=>by
  rw[beq_eq_false_iff_ne]
  rintro rfl
  exact F O
 refine lj ad (Pr.grad O ai az al ag aA) (aS _ xab) (aS _ xab) (aS _ xab) (aS _ xab) (aS _ xab) xaa (ts++c::[n]) a6 (by rw[pE (X:=[ts]) (y:=[n]) xac S _ yag];simp) _ (λH bi bj aj a2=>?_);exact qef):Zp:=h
open dD in
theorem Fm{k l c n q}(N:TrC f)(ad:TrIn W P I u1 u2 u3 u4 bs st a5 Q u g off m cap (k::l::(ts++[c,n,q])))(O:k.sym=Cq)(ai:l.sym=[40])(az:Pr 2 [a] ts)(al:c.sym=[44])(ag:n.sym=gH)(aA:q.sym=[41])(h:eM (f+1) st u (.grad k a n)=some r):
  Calls prog 112 #[hZ P,.slice a5 Q cL,.slice (some ⟨g,off,none⟩) m cap] W (TrO W P I u1 u2 u3 u4 bs r):=by
 obtain⟨aq,rfl,af⟩:=Cf h;exact qfu
end
end
section
attribute[local go_sem] eE eD eC
variable{k:Tok}{st:LSt}{a x d:Nat}
def QU(k:Tok)(a v:Nat)(r2:Rs (LSt×Nat)):Rs (LSt×Nat):=match r2 with
 |.error f=>.error f
 |.ok (s2,y)=>pV s2 k a v y
def PB(k:Tok)(q:Rs Nat)(r1 r2:Rs (LSt×Nat)):Rs (LSt×Nat):=match q with
 |.error f=>.error f
 |.ok v=>match r1 with
  |.error f=>.error f
  |.ok (_,a)=>QU k a v r2
def QV(k:Tok)(a v:Nat)(r3:Rs (LSt×Nat)):Rs (LSt×Nat):=match r3 with
 |.error f=>.error f
 |.ok (s3,d)=>iC s3 (jR s3.vs a v d) k.pos
theorem Fo(F:eW st d=1)(h2:1<eW st x):pV st k a x d=QV k a x (fI st (eJ 10 (eW st x) (d:Int) 0 0) k.pos):=by
 unfold pV;rw[h7 ⟨F,h2⟩];rfl
theorem Jo(F:eW st d≠1)(h2:eW st d≠eW st x):pV st k a x d=.error (4,k.pos):=by
 unfold pV;rw[h6 (λc=>F c.1),h7 h2]
theorem wS(F:¬(eW st d=1/\1<eW st x))(h2:eW st d=eW st x):pV st k a x d=iC st (jR st.vs a x d) k.pos:=by
 unfold pV;rw[h6 F,h6 (λc=>c h2)]
theorem aZ.qbo(h:Zp:=by
 have ca:V _:=cy.o.keepC aL.chg aD.o;have cG:V (¬Mst P ba bb bc bo a7):=λc=>(aL.new a7 c).elim aD.o (λc=>ix cy.o.lt);obtain⟨b0,cv,bg,ck,a6⟩:=aO.lenc az;have Y:V _:=(Mv.of bQ.o).trans aL;have bR:=ca.o.c0;have bI:=w.g.n;have bk:=aO.c1;rw[bg]at bk;have aW:=co.o aU _ Y.o;have aC:V (r=QU ⟨[106,118,112],aX,C⟩ a v aT):=HR.o;have cp:V _:=cx.o ⟨v,rfl⟩ s a rfl aU ba bb bc bo aO Y.o;have ds:V _:=bW.o ⟨v,rfl⟩ s a rfl;clear HR b2 cy aY aL aO cx bW bv bj aD bQ bg ck co;generalize eW s a=l at a6;generalize cT:s.vs.length=N at*;go_upto_region 22 with fail;clear a6 bk;rcases aT with⟨c,p⟩|⟨f,y⟩
 ·go_wp2_with (go_at_call 112;refine yaj cp.o ?_;rintro e bA ⟨rfl,bm⟩);go_ret;rw[aC.o];exact TrO.after Y.o ⟨rfl,bm⟩
 obtain⟨bx,bp⟩:=ds.o f y rfl;subst cT;have cj:=yak ap bx.n;have cr:=yak az bx.n;have cA:¬((y:Int)<0):=xaa;clear bI;generalize s.vs.length=N at*;go_upto_region 25 with (go_at_call 112;refine yaj cp.o ?_;rintro e bA ⟨rfl,aR,bd,bu,bC,ab,bK⟩);have an:V _:=ca.o.keepC bK.chg cG.o;have cJ:V (¬Mst P aR bd bu bC a7):=λc=>(bK.new a7 c).elim cG.o (λc=>ix ca.o.lt);have S:V _:=Y.o.trans bK;have aG:V (r=pV f ⟨[106,118,112],aX,C⟩ a v y):=aC.o;have cF:=bx.g;have c7:=cF.lenB cj;obtain⟨d9,d6,e4,cX,c8⟩:=ab.lenc cj;obtain⟨ea,d7,ce,_,c9⟩:=ab.lenc bp;rw[e4]at ce;cases ce;have bk:=ab.c1;rw[e4]at bk;have bI:=cF.n;have U:=an.o.c1;clear cp aC bK Y ca cG ds bR aW bx cX;by_cases F:eW f y=1
 ·by_cases h2:1<eW f v
  ·have bZ:V _:=Fo (k:=⟨[106,118,112],aX,C⟩) (a:=a) F h2;have X:V (r=QV ⟨[106,118,112],aX,C⟩ a v (fI f (eJ 10 (eW f v) (y:Int) 0 0) aX)):=aG.o.trans bZ.o;have bP:V _:=λbJ bi (aQ:fI f (eJ 10 (eW f v) (y:Int) 0 0) aX=.ok (bJ,bi))=>oO cF (cF.v.p10 c7 (by have c6:=jJ bp;rw[F]at c6;exact c6)) aQ;have al:V (∀H,Kept 0 0 bA H->Calls prog 115 #[hZ P,(eJ 10 (eW f v) (y:Int) 0 0).agg,h1 aX] H λe z=>V (TrO bA P I aR bd bu bC bs (fI f (eJ 10 (eW f v) (y:Int) 0 0) aX) e z)/\(∃x:Int,e=.returned (h1 x))/\z.cell? ⟨a7,1,none⟩=some (h1 aX)):=λH aj=>yaj (mn (ab.keep aj) cF (eJ 10 (eW f v) (y:Int) 0 0) c7 yah aX) (λe z t=>⟨TrO.back aj t,t.ret,(t.chg.cell (p:=⟨a7,1,none⟩) (an.o.keep aj).lt cJ.o).trans (an.o.keep aj).c1⟩);have cz:V (∀bJ,Gw f bJ->_):=λbJ aH=>aH.l v cj;rw[F]at c9;clear aG bZ;generalize cW:fI f (eJ 10 (eW f v) (y:Int) 0 0) aX=b8 at X bP al;clear cW;generalize el:eW f v=bE at*;clear el;clear ab;subst e4;rcases b8 with⟨c,p⟩|⟨bJ,bi⟩
   ·generalize f.vs.length=dv at*;go_upto_region 27 with fail;clear c8 c9 bk
    go_region_held3 (λB=>B.cell? ⟨a7,1,none⟩=some (h1 aX)) (go_keep)
     (first
      |(go_at_call 79;refine yaj (gG _ _ _ _ _ _) ?_;rintro e cn ⟨rfl,bY⟩;have aS:=(an.o.keep ((eF bA).trans bY)).c1)
      |(go_at_call 115;refine yaj (al.o _ ((eF bA).trans bY)) ?_;rintro e cd ⟨bm,⟨_,_⟩,b5⟩;obtain rfl:=bm.o.1))
    all_goals (
     go_wp2_with fail
     go_ret
     rw[X.o]
     exact TrO.after S.o ⟨rfl,bm.o.2⟩)
   obtain⟨aH,cR,cD⟩:=bP.o bJ bi rfl;have hd0:¬((bi:Int)<0):=xaa;have cK:=yak cr aH.n;have cN:=yak cj aH.n;have d4:=cz.o bJ aH;have au:=aH.g;have cw:V (r=iC bJ (jR bJ.vs a v bi) aX):=X.o
   have ct:Ln bJ.vs (bi:Int) (jl bJ.vs (v:Int)):=by
    have cf:=jJ cR;rw[jf,show(bJ.vs.getD v h9).len=eW bJ v from rfl,d4,<-(show eW bJ bi=bE from cD)];exact cf
   have cV:eW bJ bi=bE:=cD;clear X bP cz aH cD d4 c7;generalize f.vs.length=dv at*;go_upto_region 27 with fail;clear c8 c9 bk
   go_region_held3 (λB=>B.cell? ⟨a7,1,none⟩=some (h1 aX)) (go_keep)
    (first
     |(go_at_call 79;refine yaj (gG _ _ _ _ _ _) ?_;rintro e cn ⟨rfl,bY⟩;have aS:=(an.o.keep ((eF bA).trans bY)).c1)
     |(go_at_call 115;refine yaj (al.o _ ((eF bA).trans bY)) ?_;rintro e cd ⟨bm,⟨_,_⟩,b5⟩;obtain rfl:=bm.o.1))
   all_goals (
    obtain⟨_,aJ,y2,y3,y4,a8,dc⟩:=bm.o
    have cu:V _:=S.o.trans dc
    have bw:V _:=an.o.keepC dc.chg cJ.o
    clear bm dc S an al
    obtain⟨a1,bB,a0,bG,a3,b3,af,aZ,ah,_,cM⟩:=a8.grad au cK cN
    have bq:=cM bi
    obtain⟨ai,bN,cP⟩:=mT au.v cK cN ct
    obtain⟨j,hj⟩:∃j:Nat,(jR bJ.vs a v bi).2=(j:Int):=⟨_,(Int.toNat_of_nonneg bN.1).symm⟩
    have X:V (r=if kz (jR bJ.vs a v bi).1=true then .error (5,aX)else .ok ({bJ with vs:=(jR bJ.vs a v bi).1},j)):=by
     show r=_
     rw[cw.o]
     unfold iC
     rw[hj,Int.toNat_natCast]
    have aV:∀k,k<(jR bJ.vs a v bi).1.length->_:=λk O=>gi (ai.1 k O)
    obtain⟨d2,d1,a9,_,cI⟩:=a8.lenc cR
    rw[a9]at aZ
    cases aZ
    rw[cV]at cI
    have bH:=a8.c0
    have bk:=a8.c1
    have p2:=a8.c2
    subst af a9 ah
    have aA:V _:=bq
    have bM:=ai.2
    generalize jR bJ.vs a v bi=cS at*
    obtain⟨g,da⟩:=cS
    simp only at hj aV bM X
    subst hj
    have bF:V (∀H U aM J cap aa aI,Kept 0 0 cd H->H.ownsRow cd.heap.size 3 1 (.slice U bJ.ins.length aM) bJ.ins.length (bJ.ins.map (Value.int .i64))->H.ownsRow cd.heap.size 86 6 (.slice J g.length cap) g.length (fN g)->H.ownsRow cd.heap.size 3 1 (.slice aa bJ.outs.length aI) bJ.outs.length (bJ.outs.map (Value.int .i64))->Apart (.slice U bJ.ins.length aM) (.slice aa bJ.outs.length aI)->Calls prog 135 #[hZ P,eX U bJ.ins.length aM J g.length cap aa bJ.outs.length aI,h1 j,h1 aX] H λe z=>(∃x:Int,e=.returned (h1 x))/\V (TrO W P I u1 u2 u3 u4 bs r e z)):=λH U aM J cap aa aI aj ay aB bz aP=>yaj (qQ a8 aj ay aB bz aP bM aV j aX) (λe z t=>⟨t.ret,by
     show TrO W P I u1 u2 u3 u4 bs r e z
     rw[X.o]
     exact TrO.after cu.o t⟩)
    clear bq cM a8 cw X ai bN cP aV bM au cu ct
    generalize bJ.vs.length=dT at*
    generalize bJ.ins.length=b6 at*
    generalize bJ.outs.length=cg at*
    go_upto_region 33 with (go_at_call 136;refine yaj aA.o ?_;rintro e cq ⟨⟨U,n,aa,ad,J,be,rfl,ay,aB,bz,aP⟩,cl⟩)
    have bl:V (∀H,Kept 0 0 cq H->_):=λH aj=>bF.o H U n J be aa ad (cl.trans aj) (eN ay aj) (eN aB aj) (eN bz aj) aP
    have cO:V (∀H,Kept 0 0 cq H->_):=λH aj=>(bw.o.keep (cl.trans aj)).c1
    clear ay aB bz aP bF aA cI bH bk p2
    have bi:=cO.o _ (eA 0 0 cq (fx U b6 n J g.length be aa cg ad))
    have aw:V _:=bl.o _ (eA 0 0 cq (fx U b6 n J g.length be aa cg ad))
    go_wp2_with (go_at_call 135;refine yaj aw.o ?_;rintro e bn ⟨⟨x,rfl⟩,bm⟩)
    go_ret
    exact bm.o)
  have dd:eW f v=1:=xaa;have cw:V (r=iC f (jR f.vs a v y) aX):=aG.o.trans (wS (λc=>h2 c.2) (F.trans dd.symm))
  have ct:Ln f.vs (y:Int) (jl f.vs (v:Int)):=by
   have cf:=jJ bp;rw[jf,show(f.vs.getD v h9).len=eW f v from rfl,dd,<-F];exact cf
  rw[F]at c9;rw[dd]at c8;have cV:=F;have cR:=bp;have cK:=cr;have cN:=cj;have au:=cF;have a8:=ab;have cu:V _:=S.o;have bw:V _:=an.o;clear aG ab S an c7 cF;obtain⟨a1,bB,a0,bG,a3,b3,af,aZ,ah,_,cM⟩:=a8.grad au cK cN;have bq:=cM y;obtain⟨ai,bN,cP⟩:=mT au.v cK cN ct;obtain⟨j,hj⟩:∃j:Nat,(jR f.vs a v y).2=(j:Int):=⟨_,(Int.toNat_of_nonneg bN.1).symm⟩
  have X:V (r=if kz (jR f.vs a v y).1=true then .error (5,aX)else .ok ({f with vs:=(jR f.vs a v y).1},j)):=by
   show r=_;rw[cw.o];unfold iC;rw[hj,Int.toNat_natCast]
  have aV:∀k,k<(jR f.vs a v y).1.length->_:=λk O=>gi (ai.1 k O);obtain⟨d2,d1,a9,_,cI⟩:=a8.lenc cR;rw[a9]at aZ;cases aZ;rw[cV]at cI;have bH:=a8.c0;have bk:=a8.c1;have p2:=a8.c2;subst af a9 ah;(try cases‹h0 _ _ _=h0 _ _ _›);have aA:V _:=bq;have bM:=ai.2;generalize jR f.vs a v y=cS at*;obtain⟨g,da⟩:=cS;simp only at hj aV bM X;subst hj
  have bF:V (∀H U aM J cap aa aI,Kept 0 0 bA H->H.ownsRow bA.heap.size 3 1 (.slice U f.ins.length aM) f.ins.length (f.ins.map (Value.int .i64))->H.ownsRow bA.heap.size 86 6 (.slice J g.length cap) g.length (fN g)->H.ownsRow bA.heap.size 3 1 (.slice aa f.outs.length aI) f.outs.length (f.outs.map (Value.int .i64))->Apart (.slice U f.ins.length aM) (.slice aa f.outs.length aI)->Calls prog 135 #[hZ P,eX U f.ins.length aM J g.length cap aa f.outs.length aI,h1 j,h1 aX] H λe z=>(∃x:Int,e=.returned (h1 x))/\V (TrO W P I u1 u2 u3 u4 bs r e z)):=λH U aM J cap aa aI aj ay aB bz aP=>yaj (qQ a8 aj ay aB bz aP bM aV j aX) (λe z t=>⟨t.ret,by
   show TrO W P I u1 u2 u3 u4 bs r e z
   rw[X.o]
   exact TrO.after cu.o t⟩)
  clear bq cM a8 cw X ai bN cP aV bM au cu ct;exact xbt
 by_cases h2:eW f y=eW f v
 ·have cw:V (r=iC f (jR f.vs a v y) aX):=aG.o.trans (wS (λc=>F c.1) h2)
  have ct:Ln f.vs (y:Int) (jl f.vs (v:Int)):=by
   have cf:=jJ bp;rw[jf,show(f.vs.getD v h9).len=eW f v from rfl,<-h2];exact cf
  rw[<-h2]at c8;have cV:eW f y=eW f y:=rfl;have cR:=bp;have cK:=cr;have cN:=cj;have au:=cF;have a8:=ab;have ak:=yax F;have cu:V _:=S.o;have bw:V _:=an.o;clear aG ab S an c7 cF;obtain⟨a1,bB,a0,bG,a3,b3,af,aZ,ah,_,cM⟩:=a8.grad au cK cN;have bq:=cM y;obtain⟨ai,bN,cP⟩:=mT au.v cK cN ct;obtain⟨j,hj⟩:∃j:Nat,(jR f.vs a v y).2=(j:Int):=⟨_,(Int.toNat_of_nonneg bN.1).symm⟩
  have X:V (r=if kz (jR f.vs a v y).1=true then .error (5,aX)else .ok ({f with vs:=(jR f.vs a v y).1},j)):=by
   show r=_;rw[cw.o];unfold iC;rw[hj,Int.toNat_natCast]
  have aV:∀k,k<(jR f.vs a v y).1.length->_:=λk O=>gi (ai.1 k O);obtain⟨d2,d1,a9,_,cI⟩:=a8.lenc cR;rw[a9]at aZ;cases aZ;rw[cV]at cI;have bH:=a8.c0;have bk:=a8.c1;have p2:=a8.c2;subst af a9 ah;(try cases‹h0 _ _ _=h0 _ _ _›);have aA:V _:=bq;have bM:=ai.2;generalize jR f.vs a v y=cS at*;obtain⟨g,da⟩:=cS;simp only at hj aV bM X;subst hj
  have bF:V (∀H U aM J cap aa aI,Kept 0 0 bA H->H.ownsRow bA.heap.size 3 1 (.slice U f.ins.length aM) f.ins.length (f.ins.map (Value.int .i64))->H.ownsRow bA.heap.size 86 6 (.slice J g.length cap) g.length (fN g)->H.ownsRow bA.heap.size 3 1 (.slice aa f.outs.length aI) f.outs.length (f.outs.map (Value.int .i64))->Apart (.slice U f.ins.length aM) (.slice aa f.outs.length aI)->Calls prog 135 #[hZ P,eX U f.ins.length aM J g.length cap aa f.outs.length aI,h1 j,h1 aX] H λe z=>(∃x:Int,e=.returned (h1 x))/\V (TrO W P I u1 u2 u3 u4 bs r e z)):=λH U aM J cap aa aI aj ay aB bz aP=>yaj (qQ a8 aj ay aB bz aP bM aV j aX) (λe z t=>⟨t.ret,by
   show TrO W P I u1 u2 u3 u4 bs r e z
   rw[X.o]
   exact TrO.after cu.o t⟩)
  clear bq cM a8 cw X ai bN cP aV bM au cu ct;generalize eW f y=d5 at*;exact xbt
 have R:V (r=.error (4,aX)):=aG.o.trans (Jo F h2);have ak:=yax F;have cC:=yax h2;have bT:V _:=jw ab.c5 ab.c6 ab.fr 4 aX (Mst P aR bd bu bC) (.inl rfl);clear ab aG;subst e4;generalize eW f y=d5 at*;generalize eW f v=bE at*;generalize f.vs.length=dv at*;go_wp2_with (go_at_call 111;refine yaj bT.o ?_;rintro e bD ⟨rfl,G⟩);go_ret;rw[R.o];exact⟨rfl,G.c5,G.c6,S.o.bad G.chg⟩):Zp:=h
theorem aZ.qeo(h:Zp:=by
 rcases aq with⟨c,p⟩|⟨s,a⟩
 ·exact xge
 exact qgq):Zp:=h
open aZ in
theorem Fp{W P I u1 u2 u3 u4 bs a5 Q cL u}(h:WS W P I u1 u2 u3 u4 bs st)(ao:st.names.length<=5000)(bV:LcR (Mst P u1 u2 u3 u4) W a5 Q u)(ag:Q<=5000)(aX C){b4 Z b7 q o ci c0 ay ch c1 aB b9 ae c2}(m)(bS:3<=Z)(cc:b4<W.heap.size)(d3:¬Mst P u1 u2 u3 u4 b4)(a2:W.cell? ⟨b4,0,none⟩=some (.slice (some ⟨q,o,none⟩) ci c0))(cQ:Sg1 W b4 1 ay ch c1 m)(bU:W.cell? ⟨b4,2,none⟩=some (.slice (some ⟨aB,b9,none⟩) ae c2))(aq aT)(br:(∃v,fi st u m=.ok v)->RsG st aq)(aN:∀v,fi st u m=.ok v->v<st.vs.length)(bh:(∃v,fi st u m=.ok v)->∀s a,aq=.ok (s,a)->RsG s aT)
  (bf:(∃v,fi st u m=.ok v)->∀H,Kept 0 0 W H->Calls prog 112 #[hZ P,.slice a5 Q cL,.slice (some ⟨q,o,none⟩) ci c0] H (TrO H P I u1 u2 u3 u4 bs aq))
  (bO:(∃v,fi st u m=.ok v)->∀s a,aq=.ok (s,a)->∀H aR bd bu bC,WS H P I aR bd bu bC bs s->Mv (Mst P u1 u2 u3 u4) W (Mst P aR bd bu bC) H->Calls prog 112 #[hZ P,.slice a5 Q cL,.slice (some ⟨aB,b9,none⟩) ae c2] H (TrO H P I aR bd bu bC bs aT)):
  Calls prog 129 #[hZ P,.slice a5 Q cL,iT ⟨[106,118,112],aX,C⟩,h0 b4 Z b7] W (TrO W P I u1 u2 u3 u4 bs (PB ⟨[106,118,112],aX,C⟩ (fi st u m) aq aT)):=by
 have T:V _:=gV W [106,118,112] aX C;have HK:V _:=eA 0 0 W (.cells #[eK [106,118,112],h1 aX,eK C] 137);have aD:V _:=h.far;have aK:V (∀H,Kept 0 0 W H->_):=λH aj=>(aj.cell (p:=⟨b4,0,none⟩) cc xaa).trans a2;have b1:V _:=cQ;have co:V (∀H M',Mv (Mst P u1 u2 u3 u4) W M' H->_):=λH M' aj=>(aj.chg.cell (p:=⟨b4,2,none⟩) cc d3).trans bU;have bX:V (∀H,Kept 0 0 W H->_):=λH aj=>yl (h.keep aj) ao a5 Q cL u (bV.keep aj) ag m;have K:V _:=bf;have cx:V _:=bO;have bv:V _:=br;have bW:V _:=bh;have bj:V _:=aN;obtain⟨r,aF⟩:∃r,r=PB ⟨[106,118,112],aX,C⟩ (fi st u m) aq aT:=⟨_,rfl⟩
 rw[<-aF];have HR:V _:=aF;clear aF h br bf a2 cQ bU aN bV ao bO bh d3;unfold iT at bX⊢;obtain⟨xs,di,cU⟩:=m;simp only at bX⊢;go_enter func129,ntmps129;go_upto_region 2 with fail;change Code.wp _ _ _ _ (W.alloc (.cells #[eK [106,118,112],h1 aX,eK C] 137));generalize W.alloc (.cells #[eK [106,118,112],h1 aX,eK C] 137)=ax at T HK⊢;generalize W.heap.size=a7 at T aD cc⊢;have b:V _:=bX.o ax HK.o;obtain⟨ar,aW,bJ,cB⟩:=(b1.o.keep HK.o).cells;simp only at aW bJ cB;have bL:=T.o.c0;clear bX b1;generalize fi st u ⟨xs,di,cU⟩=dg at b HR bj K bv cx bW;rcases dg with⟨c,p⟩|v
 ·exact xdk
 exact qen
