import Derived.Test.YtbhmhdllnfkjhaaGreatP40
import Derived.Test.YtbhmhdllnfkjhaaGreatP33
import Derived.Test.YtbhmhdllnfkjhaaGreatP29
import Derived.Test.YtbhmhdllnfkjhaaGreatP43
namespace Go.Proofs.Z
variable{Zp:Prop}
open Tryz Go.RowKit Flt
set_option maxRecDepth 1000000
set_option maxHeartbeats 0
section
theorem Ld(w bh P ap n1 c1 T c2 n3 c3 s x ins vs outs)(f:GS w bh n1 (some ⟨ap,0,none⟩) T P n3 ins vs outs)(c8:VA w ap T vs)(b1:n1<=1000000)(ce:T<=2000)(a9:n3<=1000000)(bN:(List.range T).all (okV ins vs)=true)(cN:fd vs<=50000)(ar:s<T)(ak:x<T):
  Calls prog 159 #[eV bh n1 c1 (some ⟨ap,0,none⟩) T c2 P n3 c3,hD s,hD x] w λe I=>vO w I n1 n3 ins outs (grM vs s x) e/\Kept 0 0 w I:=by
 cases F:(jA vs x (s-x)).getD s false with
 |false=>exact xM w _ _ _ _ _ _ _ _ _ s x _ _ _ f c8 b1 ce a9 bN cN ar ak F
 |true=>exact Ad w _ _ _ _ _ _ _ _ _ s x _ _ _ f c8 b1 ce a9 bN cN ar ak F
theorem WS.grad{W P R u1 u2 u3 u4 bs st}(h:WS W P R u1 u2 u3 u4 bs st)(g:Gd st){s x}(ar:s<st.vs.length)(ak:x<st.vs.length):
  ∃a1 bB ap bE a3 b6,u1=.slice a1 st.ins.length bB/\u2=hC ap st.vs.length bE/\u3=.slice a3 st.outs.length b6/\
   (Calls prog 159 #[eV a1 st.ins.length bB (some ⟨ap,0,none⟩) st.vs.length bE a3 st.outs.length b6,hD s,hD x] W λe I=>vO W I st.ins.length st.outs.length st.ins st.outs (grM st.vs s x) e/\Kept 0 0 W I)/\
   ∀t:Nat,Calls prog 161 #[eV a1 st.ins.length bB (some ⟨ap,0,none⟩) st.vs.length bE a3 st.outs.length b6,hD s,hD x,hD t] W λe I=>vO W I st.ins.length st.outs.length st.ins st.outs (jW st.vs s x t) e/\Kept 0 0 W I:=by
 obtain⟨ap,bE,e2,_,_,_,a0⟩:=mh h.r2 xaa rfl;obtain⟨a1,bB,Y,aQ,a3,b6,e1,a5,af,m⟩:=h.gs g.k;rw[e2]at a5;cases a5;have hi:=g.i;have al:=g.o;exact⟨_,_,_,_,_,_,e1,e2,af,Ld W _ _ _ _ _ _ _ _ _ s x _ _ _ m a0 xaa g.n xaa g.ok g.c ar ak,λt=>NS W _ _ _ _ _ _ _ _ _ s x t _ _ _ m a0 xaa g.n xaa g.ok g.c ar ak⟩
end
section
attribute[local go_sem] eG eE eD
def Iu(k:Tok)(q:Rs Nat)(r1:Rs (LSt×Nat)):Rs (LSt×Nat):=match q with
 |.error f=>.error f
 |.ok v=>match r1 with
  |.error f=>.error f
  |.ok (s,a)=>pS s k a v
theorem aY.qbm(h:Zp:=by
 have b7:V _:=ck.o.keepC G.chg aI.o;obtain⟨bp,cv,e2,bQ,bb⟩:=aF.lenc F;have aa:V _:=(Mv.of bD.o).trans G;have ad:V _:=aF;have bu:=b7.o.c0;have d1:=b7.o.c1;have bw:=w.g.n;have aV:=aF.c1;rw[e2]at aV;have bz:V (r=pS s ⟨[103,114,97,100],K,z⟩ a v):=HR.o;clear HR aj ck aT G;by_cases B:fe s a=1
 ·obtain⟨a1,bB,ap,bE,a3,b6,e1,a5,af,bR,_⟩:=aF.grad w.g F ak;obtain⟨aY,bG,cF⟩:=zS w.g.v F ak B;obtain⟨j,hj⟩:∃j:Nat,(grM s.vs a v).2=(j:Int):=⟨_,(Int.toNat_of_nonneg bG.1).symm⟩
  have ar:V (r=if kM (grM s.vs a v).1=true then .error (5,K)else .ok ({s with vs:=(grM s.vs a v).1},j)):=by
   show r=_;rw[bz.o];unfold pS;rw[hF (by simpa using B)];unfold iR;rw[hj,Int.toNat_natCast]
  have b9:∀k,k<(grM s.vs a v).1.length->_:=λk N=>ir (aY.1 k N);rw[e2]at a5;cases a5;subst e1 e2 af;have a8:=aF.c0;have p2:=aF.c2;have bx:V _:=bR;have b2:=aY.2;generalize grM s.vs a v=M at*;obtain⟨m,cV⟩:=M;simp only at hj b9 b2 ar;subst hj
  have bd:V (∀W' O d1 Y cap Z d3,Kept 0 0 a7 W'->W'.ownsRow a7.heap.size 3 1 (.slice O s.ins.length d1) s.ins.length (s.ins.map (Value.int .i64))->W'.ownsRow a7.heap.size 60 6 (.slice Y m.length cap) m.length (fK m)->W'.ownsRow a7.heap.size 3 1 (.slice Z s.outs.length d3) s.outs.length (s.outs.map (Value.int .i64))->Apart (.slice O s.ins.length d1) (.slice Z s.outs.length d3)->Calls prog 160 #[hB P,eV O s.ins.length d1 Y m.length cap Z s.outs.length d3,hD j,hD K] W' λe aB=>(∃x:Int,e=.returned (hD x))/\V (TrO W P R u1 u2 u3 u4 bs r e aB)):=λW' O d1 Y cap Z d3 ai aL aJ bS bU=>yaj (q7 aF ai aL aJ bS bU b2 b9 j K) (λe aB t=>⟨t.ret,by
   show TrO W P R u1 u2 u3 u4 bs r e aB
   rw[ar.o]
   exact TrO.after aa.o t⟩)
  clear bR aF bz ar aX bI bo ad aY bG cF b9 b2 w aa aI bD;rw[B]at bb;generalize s.vs.length=aH at*;generalize s.ins.length=bW at*;generalize s.outs.length=bZ at*;go_upto_region 20 with (go_at_call 159;refine yaj bx.o ?_;rintro e bj ⟨⟨O,an,Z,aC,Y,ae,rfl,aL,aJ,bS,bU⟩,ca⟩);have g:=(b7.o.keep ca).c1;have bf:V (∀W',Kept 0 0 bj W'->_):=λW' ai=>bd.o W' O an Y ae Z aC (ca.trans ai) (eR aL ai) (eR aJ ai) (eR bS ai) bU;have cC:V (∀W',Kept 0 0 bj W'->_):=λW' ai=>(b7.o.keep (ca.trans ai)).c1;clear aL aJ bS bU bd bx bb a8 aV p2 bu d1;have d2:=cC.o _ (ez 0 0 bj (eW O bW an Y m.length ae Z bZ aC));have cx:V _:=bf.o _ (ez 0 0 bj (eW O bW an Y m.length ae Z bZ aC));go_wp2_with (go_at_call 160;refine yaj cx.o ?_;rintro e cq ⟨⟨x,rfl⟩,bh⟩);go_ret;exact bh.o
 have U:V (r=.error (4,K)):=bz.o.trans (hG B);have bM:=yax B;have bm:V _:=jG aF.c5 aF.c6 aF.fr 4 K (Mst P a9 ba be bi) (.inl rfl);clear aF bz aX bI bo ad;generalize fe s a=l at bb B bM;generalize s.vs.length=aH at*;go_wp2_with (go_at_call 117;refine yaj bm.o ?_;rintro e bj ⟨rfl,S⟩);go_ret;rw[U.o];exact⟨rfl,S.c5,S.c6,aa.o.bad S.chg⟩):Zp:=h
theorem aY.qem(h:Zp:=by
 rcases ay with⟨c,p⟩|⟨s,a⟩
 ·exact xgc
 exact qhb):Zp:=h
open aY in
theorem Bu{W P R u1 u2 u3 u4 bs st a6 aS cL u}(h:WS W P R u1 u2 u3 u4 bs st)(aq:st.names.length<=5000)(bJ:LcR (Mst P u1 u2 u3 u4) W a6 aS u)(hn:aS<=5000)(K z){bl ab cp q o bT c0 aL ch c1}(n)(b4:2<=ab)(b0:bl<W.heap.size)(aZ:W.cell? ⟨bl,0,none⟩=some (.slice (some ⟨q,o,none⟩) bT c0))(cd:Sg1 W bl 1 aL ch c1 n)(ay)(bv:(∃v,fC st u n=.ok v)->RsG st ay)(aD:∀v,fC st u n=.ok v->v<st.vs.length)
  (bc:(∃v,fC st u n=.ok v)->∀W',Kept 0 0 W W'->Calls prog 118 #[hB P,.slice a6 aS cL,.slice (some ⟨q,o,none⟩) bT c0] W' (TrO W' P R u1 u2 u3 u4 bs ay)):
  Calls prog 148 #[hB P,.slice a6 aS cL,jc ⟨[103,114,97,100],K,z⟩,hC bl ab cp] W (TrO W P R u1 u2 u3 u4 bs (Iu ⟨[103,114,97,100],K,z⟩ (fC st u n) ay)):=by
 have aA:V _:=iq W [103,114,97,100] K z;have HK:V _:=ez 0 0 W (.cells #[eN [103,114,97,100],hD K,eN z] 92);have aI:V _:=h.far;have ax:V (∀W',Kept 0 0 W W'->_):=λW' ai=>(ai.cell (p:=⟨bl,0,none⟩) b0 xaa).trans aZ;have aU:V _:=cd;have bL:V (∀W',Kept 0 0 W W'->_):=λW' ai=>xS (h.keep ai) aq a6 aS cL u (bJ.keep ai) hn n;have i:V _:=bc;have aX:V _:=bv;have bI:V _:=aD;have bo:V _:=h;obtain⟨r,av⟩:∃r,r=Iu ⟨[103,114,97,100],K,z⟩ (fC st u n) ay:=⟨_,rfl⟩
 rw[<-av];have HR:V _:=av;clear av h bv bc aZ cd aD bJ aq;unfold jc at bL⊢;obtain⟨xs,dd,cX⟩:=n;simp only at bL⊢;go_enter func148,ntmps148;go_upto_region 2 with fail;change Code.wp _ _ _ _ (W.alloc (.cells #[eN [103,114,97,100],hD K,eN z] 92));generalize W.alloc (.cells #[eN [103,114,97,100],hD K,eN z] 92)=az at aA HK⊢;generalize W.heap.size=aR at aA aI⊢;have f:V _:=bL.o az HK.o;obtain⟨ao,aG,Q,cf⟩:=(aU.o.keep HK.o).cells;simp only at aG Q cf;have bH:=aA.o.c0;clear bL aU;generalize fC st u ⟨xs,dd,cX⟩=c9 at f HR bI i aX;rcases c9 with⟨c,p⟩|v
 ·exact xdl
 exact qel
end
section
theorem Bv{f st u k x a r}(h:eO (f+1) st u (.grad k a x)=some r):∃ay,r=Iu k (fC st u x) ay/\(∀v,fC st u x=.ok v->eO f st u a=some ay):=by
 rw[eO]at h;cases aD:fC st u x with
 |error q=>rw[aD]at h;cases h;exact⟨.error q,rfl,λv e=>by cases e⟩
 |ok v=>
  rw[aD]at h;simp only at h;cases B:eO f st u a with
  |none=>rw[B]at h;cases h
  |some ay=>
   rw[B]at h;rcases ay with⟨c,p⟩|⟨ao,y⟩
   ·cases h;exact⟨_,rfl,λ_ _=>rfl⟩
   cases h;exact⟨_,rfl,λ_ _=>rfl⟩
section
variable{f:Nat}{W:World}{P R:Nat}{u1 u2 u3 u4:Value}{bs:List Bc}{st:LSt}{a6:Option Addr}{aS cL:Nat}{u:Loc}{g off m cap:Nat}{ts:List Tok}{a:Ex}{r:Rs (LSt×Nat)}
theorem dA.qed(h:Zp:=by
 have bc:(∃v,fC st u n=.ok v)->∀aB,Kept 0 0 W' aB->_:=λI aB ah=>
  Q aB P R u1 u2 u3 u4 bs st a6 aS cL u g o ts.length c0 ts ⟨H.ws.keep (ai.trans ah),H.gd,H.nm,H.lc.keep (ai.trans ah),H.ln,H.lo,c2.keep ah,H.tg,hM H.m5,c3,λt ht=>H.ti t (by simp[ht]),λt ht=>H.tn t (by simp[ht])⟩ 2 a F yad ay (I.elim e1)
 have bv:(∃v,fC st u n=.ok v)->_:=λI=>gz f st u a H.gd H.nm H.lo b4 ay (I.elim e1);obtain⟨ar,K,z⟩:=k;simp only at N;subst N;exact Bu (H.ws.keep ai) H.gd.m (H.lc.keep ai) H.ln K z n yad b0 c1 ⟨b0,af,c2'⟩ ay bv (λv aD=>oV H.nm H.lo aD) bc):Zp:=h
theorem dA.qgb(h:Zp:=by
 exact qho):Zp:=h
theorem dA.qhp(h:Zp:=by
 have aP:∀x:List UInt8,x≠BZ->(k.sym==x)=false:=λx B=>by
  rw[beq_eq_false_iff_ne]
  rintro rfl
  exact B N
 refine lB H (Pr.grad N ab F ad hn am) (aP _ xab) (aP _ xab) (aP _ xab) (aP _ xab) (aP _ xab) xaa (ts++c::[n]) aH (by rw[pF (X:=[ts]) (y:=[n]) xac al _ yag];simp) _ (λW' bu bX ai aZ=>?_);exact qec):Zp:=h
open dA in
theorem EL{k l c n q}(Q:TrC f)(H:TrIn W P R u1 u2 u3 u4 bs st a6 aS u g off m cap (k::l::(ts++[c,n,q])))(N:k.sym=BZ)(ab:l.sym=[40])(F:Pr 2 [a] ts)(ad:c.sym=[44])(hn:n.sym=gQ)(am:q.sym=[41])(h:eO (f+1) st u (.grad k a n)=some r):
  Calls prog 118 #[hB P,.slice a6 aS cL,.slice (some ⟨g,off,none⟩) m cap] W (TrO W P R u1 u2 u3 u4 bs r):=by
 obtain⟨ay,rfl,e1⟩:=Bv h;exact qga
end
end
section
attribute[local go_sem] eG eE eD
variable{k:Tok}{st:LSt}{a x d:Nat}
def Px(k:Tok)(a v:Nat)(r2:Rs (LSt×Nat)):Rs (LSt×Nat):=match r2 with
 |.error f=>.error f
 |.ok (s2,y)=>qh s2 k a v y
def Od(k:Tok)(q:Rs Nat)(r1 r2:Rs (LSt×Nat)):Rs (LSt×Nat):=match q with
 |.error f=>.error f
 |.ok v=>match r1 with
  |.error f=>.error f
  |.ok (_,a)=>Px k a v r2
def Py(k:Tok)(a v:Nat)(r3:Rs (LSt×Nat)):Rs (LSt×Nat):=match r3 with
 |.error f=>.error f
 |.ok (s3,d)=>iR s3 (jW s3.vs a v d) k.pos
theorem EM(B:fe st d=1)(J:1<fe st x):qh st k a x d=Py k a x (fV st (eL 10 (fe st x) (d:Int) 0 0) k.pos):=by
 unfold qh;rw[hG ⟨B,J⟩];rfl
theorem Iv(B:fe st d≠1)(J:fe st d≠fe st x):qh st k a x d=.error (4,k.pos):=by
 unfold qh;rw[hF (λc=>B c.1),hG J]
theorem v9(B:¬(fe st d=1/\1<fe st x))(J:fe st d=fe st x):qh st k a x d=iR st (jW st.vs a x d) k.pos:=by
 unfold qh;rw[hF B,hF (λc=>c J)]
theorem aZ.qbm(h:Zp:=by
 have b7:V _:=ck.o.keepC G.chg aI.o;have cH:V (¬Mst P a9 ba be bi aR):=λc=>(G.new aR c).elim aI.o (λc=>hM ck.o.lt);obtain⟨bp,cv,e2,bQ,bb⟩:=aF.lenc F;have aa:V _:=(Mv.of bD.o).trans G;have bu:=b7.o.c0;have bw:=w.g.n;have aV:=aF.c1;rw[e2]at aV;have aG:=cJ.o a7 _ aa.o;have bz:V (r=Px ⟨[106,118,112],K,z⟩ a v aW):=HR.o;have cQ:V _:=b1.o ⟨v,rfl⟩ s a rfl a7 a9 ba be bi aF aa.o;have cu:V _:=cD.o ⟨v,rfl⟩ s a rfl;clear HR aj ck aT G aF b1 cD aX bI aI bD e2 bQ cJ;generalize fe s a=l at bb;generalize cW:s.vs.length=aH at*;go_upto_region 22 with fail;clear bb aV;rcases aW with⟨c,p⟩|⟨g,y⟩
 ·go_wp2_with (go_at_call 118;refine yaj cQ.o ?_;rintro e bj ⟨rfl,bh⟩);go_ret;rw[bz.o];exact TrO.after aa.o ⟨rfl,bh⟩
 obtain⟨aw,bX⟩:=cu.o g y rfl;subst cW;have cb:=yak ak aw.n;have cU:=yak F aw.n;have c6:¬((y:Int)<0):=xaa;clear bw;generalize s.vs.length=aH at*;go_upto_region 25 with (go_at_call 118;refine yaj cQ.o ?_;rintro e bj ⟨rfl,aN,a2,bk,bq,al,bn⟩);have bK:V _:=b7.o.keepC bn.chg cH.o;have cK:V (¬Mst P aN a2 bk bq aR):=λc=>(bn.new aR c).elim cH.o (λc=>hM b7.o.lt);have ad:V _:=aa.o.trans bn;have H:V (r=qh g ⟨[106,118,112],K,z⟩ a v y):=bz.o;have cj:=aw.g;have cR:=cj.lenB cb;obtain⟨ec,ea,e4,d4,cS⟩:=al.lenc cb;obtain⟨ee,eb,bo,_,cT⟩:=al.lenc bX;rw[e4]at bo;cases bo;have aV:=al.c1;rw[e4]at aV;have bw:=cj.n;have O:=bK.o.c1;clear cQ bz bn aa b7 cH cu bu aG aw d4;by_cases B:fe g y=1
 ·by_cases J:1<fe g v
  ·have bV:V _:=EM (k:=⟨[106,118,112],K,z⟩) (a:=a) B J;have ar:V (r=Py ⟨[106,118,112],K,z⟩ a v (fV g (eL 10 (fe g v) (y:Int) 0 0) K)):=H.o.trans bV.o;have ca:V _:=λQ d2 (aK:fV g (eL 10 (fe g v) (y:Int) 0 0) K=.ok (Q,d2))=>oU cj (cj.v.p10 cR (by have cP:=jR bX;rw[B]at cP;exact cP)) aK;have bC:V (∀W',Kept 0 0 bj W'->Calls prog 121 #[hB P,(eL 10 (fe g v) (y:Int) 0 0).agg,hD K] W' λe aB=>V (TrO bj P R aN a2 bk bq bs (fV g (eL 10 (fe g v) (y:Int) 0 0) K) e aB)/\(∃x:Int,e=.returned (hD x))/\aB.cell? ⟨aR,1,none⟩=some (hD K)):=λW' ai=>yaj (mB (al.keep ai) cj (eL 10 (fe g v) (y:Int) 0 0) cR yah K) (λe aB t=>⟨TrO.back ai t,t.ret,(t.chg.cell (p:=⟨aR,1,none⟩) (bK.o.keep ai).lt cK.o).trans (bK.o.keep ai).c1⟩);have cy:V (∀Q,Gw g Q->_):=λQ aO=>aO.l v cb;rw[B]at cT;clear H bV;generalize cO:fV g (eL 10 (fe g v) (y:Int) 0 0) K=am at ar ca bC;clear cO;generalize eA:fe g v=b8 at*;clear eA;clear al;subst e4;rcases am with⟨c,p⟩|⟨Q,d2⟩
   ·generalize g.vs.length=dg at*;go_upto_region 27 with fail;clear cS cT aV
    go_region_held3 (λI=>I.cell? ⟨aR,1,none⟩=some (hD K)) (go_keep)
     (first
      |(go_at_call 40;refine yaj (gO _ _ _ _ _ _) ?_;rintro e cq ⟨rfl,cc⟩;have aP:=(bK.o.keep ((eF bj).trans cc)).c1)
      |(go_at_call 121;refine yaj (bC.o _ ((eF bj).trans cc)) ?_;rintro e ci ⟨bh,⟨_,_⟩,bA⟩;obtain rfl:=bh.o.1))
    all_goals (
     go_wp2_with fail
     go_ret
     rw[ar.o]
     exact TrO.after ad.o ⟨rfl,bh.o.2⟩)
   obtain⟨aO,cI,cA⟩:=ca.o Q d2 rfl;have hd0:¬((d2:Int)<0):=xaa;have cw:=yak cU aO.n;have cB:=yak cb aO.n;have d0:=cy.o Q aO;have X:=aO.g;have co:V (r=iR Q (jW Q.vs a v d2) K):=ar.o
   have ct:Ln Q.vs (d2:Int) (jy Q.vs (v:Int)):=by
    have ce:=jR cI;rw[ju,show(Q.vs.getD v hI).len=fe Q v from rfl,d0,<-(show fe Q d2=b8 from cA)];exact ce
   have cN:fe Q d2=b8:=cA;clear ar ca cy aO cA d0 cR;generalize g.vs.length=dg at*;go_upto_region 27 with fail;clear cS cT aV
   go_region_held3 (λI=>I.cell? ⟨aR,1,none⟩=some (hD K)) (go_keep)
    (first
     |(go_at_call 40;refine yaj (gO _ _ _ _ _ _) ?_;rintro e cq ⟨rfl,cc⟩;have aP:=(bK.o.keep ((eF bj).trans cc)).c1)
     |(go_at_call 121;refine yaj (bC.o _ ((eF bj).trans cc)) ?_;rintro e ci ⟨bh,⟨_,_⟩,bA⟩;obtain rfl:=bh.o.1))
   all_goals (
    obtain⟨_,aM,aQ,bY,cg,C,c7⟩:=bh.o
    have cn:V _:=ad.o.trans c7
    have cl:V _:=bK.o.keepC c7.chg cK.o
    clear bh c7 ad bK bC
    obtain⟨a1,bB,ap,bE,a3,b6,e1,a5,af,_,cz⟩:=C.grad X cw cB
    have bR:=cz d2
    obtain⟨aY,bG,cF⟩:=m9 X.v cw cB ct
    obtain⟨j,hj⟩:∃j:Nat,(jW Q.vs a v d2).2=(j:Int):=⟨_,(Int.toNat_of_nonneg bG.1).symm⟩
    have ar:V (r=if kM (jW Q.vs a v d2).1=true then .error (5,K)else .ok ({Q with vs:=(jW Q.vs a v d2).1},j)):=by
     show r=_
     rw[co.o]
     unfold iR
     rw[hj,Int.toNat_natCast]
    have b9:∀k,k<(jW Q.vs a v d2).1.length->_:=λk N=>ir (aY.1 k N)
    obtain⟨ds,dp,bN,_,cr⟩:=C.lenc cI
    rw[bN]at a5
    cases a5
    rw[cN]at cr
    have a8:=C.c0
    have aV:=C.c1
    have p2:=C.c2
    subst e1 bN af
    have bx:V _:=bR
    have b2:=aY.2
    generalize jW Q.vs a v d2=cM at*
    obtain⟨m,cV⟩:=cM
    simp only at hj b9 b2 ar
    subst hj
    have bd:V (∀W' O d1 Y cap Z d3,Kept 0 0 ci W'->W'.ownsRow ci.heap.size 3 1 (.slice O Q.ins.length d1) Q.ins.length (Q.ins.map (Value.int .i64))->W'.ownsRow ci.heap.size 60 6 (.slice Y m.length cap) m.length (fK m)->W'.ownsRow ci.heap.size 3 1 (.slice Z Q.outs.length d3) Q.outs.length (Q.outs.map (Value.int .i64))->Apart (.slice O Q.ins.length d1) (.slice Z Q.outs.length d3)->Calls prog 160 #[hB P,eV O Q.ins.length d1 Y m.length cap Z Q.outs.length d3,hD j,hD K] W' λe aB=>(∃x:Int,e=.returned (hD x))/\V (TrO W P R u1 u2 u3 u4 bs r e aB)):=λW' O d1 Y cap Z d3 ai aL aJ bS bU=>yaj (q7 C ai aL aJ bS bU b2 b9 j K) (λe aB t=>⟨t.ret,by
     show TrO W P R u1 u2 u3 u4 bs r e aB
     rw[ar.o]
     exact TrO.after cn.o t⟩)
    clear bR cz C co ar aY bG cF b9 b2 X cn ct
    generalize Q.vs.length=di at*
    generalize Q.ins.length=bW at*
    generalize Q.outs.length=bZ at*
    go_upto_region 33 with (go_at_call 161;refine yaj bx.o ?_;rintro e b5 ⟨⟨O,an,Z,aC,Y,ae,rfl,aL,aJ,bS,bU⟩,a0⟩)
    have bf:V (∀W',Kept 0 0 b5 W'->_):=λW' ai=>bd.o W' O an Y ae Z aC (a0.trans ai) (eR aL ai) (eR aJ ai) (eR bS ai) bU
    have cC:V (∀W',Kept 0 0 b5 W'->_):=λW' ai=>(cl.o.keep (a0.trans ai)).c1
    clear aL aJ bS bU bd bx cr a8 aV p2
    have d2:=cC.o _ (ez 0 0 b5 (eW O bW an Y m.length ae Z bZ aC))
    have cx:V _:=bf.o _ (ez 0 0 b5 (eW O bW an Y m.length ae Z bZ aC))
    go_wp2_with (go_at_call 160;refine yaj cx.o ?_;rintro e bg ⟨⟨x,rfl⟩,bh⟩)
    go_ret
    exact bh.o)
  have c8:fe g v=1:=xaa;have co:V (r=iR g (jW g.vs a v y) K):=H.o.trans (v9 (λc=>J c.2) (B.trans c8.symm))
  have ct:Ln g.vs (y:Int) (jy g.vs (v:Int)):=by
   have ce:=jR bX;rw[ju,show(g.vs.getD v hI).len=fe g v from rfl,c8,<-B];exact ce
  rw[B]at cT;rw[c8]at cS;have cN:=B;have cI:=bX;have cw:=cU;have cB:=cb;have X:=cj;have C:=al;have cn:V _:=ad.o;have cl:V _:=bK.o;clear H al ad bK cR cj;obtain⟨a1,bB,ap,bE,a3,b6,e1,a5,af,_,cz⟩:=C.grad X cw cB;have bR:=cz y;obtain⟨aY,bG,cF⟩:=m9 X.v cw cB ct;obtain⟨j,hj⟩:∃j:Nat,(jW g.vs a v y).2=(j:Int):=⟨_,(Int.toNat_of_nonneg bG.1).symm⟩
  have ar:V (r=if kM (jW g.vs a v y).1=true then .error (5,K)else .ok ({g with vs:=(jW g.vs a v y).1},j)):=by
   show r=_;rw[co.o];unfold iR;rw[hj,Int.toNat_natCast]
  have b9:∀k,k<(jW g.vs a v y).1.length->_:=λk N=>ir (aY.1 k N);obtain⟨ds,dp,bN,_,cr⟩:=C.lenc cI;rw[bN]at a5;cases a5;rw[cN]at cr;have a8:=C.c0;have aV:=C.c1;have p2:=C.c2;subst e1 bN af;(try cases‹hC _ _ _=hC _ _ _›);have bx:V _:=bR;have b2:=aY.2;generalize jW g.vs a v y=cM at*;obtain⟨m,cV⟩:=cM;simp only at hj b9 b2 ar;subst hj
  have bd:V (∀W' O d1 Y cap Z d3,Kept 0 0 bj W'->W'.ownsRow bj.heap.size 3 1 (.slice O g.ins.length d1) g.ins.length (g.ins.map (Value.int .i64))->W'.ownsRow bj.heap.size 60 6 (.slice Y m.length cap) m.length (fK m)->W'.ownsRow bj.heap.size 3 1 (.slice Z g.outs.length d3) g.outs.length (g.outs.map (Value.int .i64))->Apart (.slice O g.ins.length d1) (.slice Z g.outs.length d3)->Calls prog 160 #[hB P,eV O g.ins.length d1 Y m.length cap Z g.outs.length d3,hD j,hD K] W' λe aB=>(∃x:Int,e=.returned (hD x))/\V (TrO W P R u1 u2 u3 u4 bs r e aB)):=λW' O d1 Y cap Z d3 ai aL aJ bS bU=>yaj (q7 C ai aL aJ bS bU b2 b9 j K) (λe aB t=>⟨t.ret,by
   show TrO W P R u1 u2 u3 u4 bs r e aB
   rw[ar.o]
   exact TrO.after cn.o t⟩)
  clear bR cz C co ar aY bG cF b9 b2 X cn ct;exact xbs
 by_cases J:fe g y=fe g v
 ·have co:V (r=iR g (jW g.vs a v y) K):=H.o.trans (v9 (λc=>B c.1) J)
  have ct:Ln g.vs (y:Int) (jy g.vs (v:Int)):=by
   have ce:=jR bX;rw[ju,show(g.vs.getD v hI).len=fe g v from rfl,<-J];exact ce
  rw[<-J]at cS;have cN:fe g y=fe g y:=rfl;have cI:=bX;have cw:=cU;have cB:=cb;have X:=cj;have C:=al;have bM:=yax B;have cn:V _:=ad.o;have cl:V _:=bK.o;clear H al ad bK cR cj;obtain⟨a1,bB,ap,bE,a3,b6,e1,a5,af,_,cz⟩:=C.grad X cw cB;have bR:=cz y;obtain⟨aY,bG,cF⟩:=m9 X.v cw cB ct;obtain⟨j,hj⟩:∃j:Nat,(jW g.vs a v y).2=(j:Int):=⟨_,(Int.toNat_of_nonneg bG.1).symm⟩
  have ar:V (r=if kM (jW g.vs a v y).1=true then .error (5,K)else .ok ({g with vs:=(jW g.vs a v y).1},j)):=by
   show r=_;rw[co.o];unfold iR;rw[hj,Int.toNat_natCast]
  have b9:∀k,k<(jW g.vs a v y).1.length->_:=λk N=>ir (aY.1 k N);obtain⟨ds,dp,bN,_,cr⟩:=C.lenc cI;rw[bN]at a5;cases a5;rw[cN]at cr;have a8:=C.c0;have aV:=C.c1;have p2:=C.c2;subst e1 bN af;(try cases‹hC _ _ _=hC _ _ _›);have bx:V _:=bR;have b2:=aY.2;generalize jW g.vs a v y=cM at*;obtain⟨m,cV⟩:=cM;simp only at hj b9 b2 ar;subst hj
  have bd:V (∀W' O d1 Y cap Z d3,Kept 0 0 bj W'->W'.ownsRow bj.heap.size 3 1 (.slice O g.ins.length d1) g.ins.length (g.ins.map (Value.int .i64))->W'.ownsRow bj.heap.size 60 6 (.slice Y m.length cap) m.length (fK m)->W'.ownsRow bj.heap.size 3 1 (.slice Z g.outs.length d3) g.outs.length (g.outs.map (Value.int .i64))->Apart (.slice O g.ins.length d1) (.slice Z g.outs.length d3)->Calls prog 160 #[hB P,eV O g.ins.length d1 Y m.length cap Z g.outs.length d3,hD j,hD K] W' λe aB=>(∃x:Int,e=.returned (hD x))/\V (TrO W P R u1 u2 u3 u4 bs r e aB)):=λW' O d1 Y cap Z d3 ai aL aJ bS bU=>yaj (q7 C ai aL aJ bS bU b2 b9 j K) (λe aB t=>⟨t.ret,by
   show TrO W P R u1 u2 u3 u4 bs r e aB
   rw[ar.o]
   exact TrO.after cn.o t⟩)
  clear bR cz C co ar aY bG cF b9 b2 X cn ct;generalize fe g y=d5 at*;exact xbs
 have U:V (r=.error (4,K)):=H.o.trans (Iv B J);have bM:=yax B;have b3:=yax J;have bm:V _:=jG al.c5 al.c6 al.fr 4 K (Mst P aN a2 bk bq) (.inl rfl);clear al H;subst e4;generalize fe g y=d5 at*;generalize fe g v=b8 at*;generalize g.vs.length=dg at*;go_wp2_with (go_at_call 117;refine yaj bm.o ?_;rintro e br ⟨rfl,S⟩);go_ret;rw[U.o];exact⟨rfl,S.c5,S.c6,ad.o.bad S.chg⟩):Zp:=h
theorem aZ.qem(h:Zp:=by
 rcases ay with⟨c,p⟩|⟨s,a⟩
 ·exact xgc
 exact qhb):Zp:=h
open aZ in
theorem EN{W P R u1 u2 u3 u4 bs a6 aS cL u}(h:WS W P R u1 u2 u3 u4 bs st)(aq:st.names.length<=5000)(bJ:LcR (Mst P u1 u2 u3 u4) W a6 aS u)(hn:aS<=5000)(K z){bl ab cp q o bT c0 aL ch c1 aJ bO T c2}(n)(b4:3<=ab)(b0:bl<W.heap.size)(dv:¬Mst P u1 u2 u3 u4 bl)(aZ:W.cell? ⟨bl,0,none⟩=some (.slice (some ⟨q,o,none⟩) bT c0))(cd:Sg1 W bl 1 aL ch c1 n)(bP:W.cell? ⟨bl,2,none⟩=some (.slice (some ⟨aJ,bO,none⟩) T c2))(ay aW)(bv:(∃v,fC st u n=.ok v)->RsG st ay)(aD:∀v,fC st u n=.ok v->v<st.vs.length)(au:(∃v,fC st u n=.ok v)->∀s a,ay=.ok (s,a)->RsG s aW)
  (bc:(∃v,fC st u n=.ok v)->∀W',Kept 0 0 W W'->Calls prog 118 #[hB P,.slice a6 aS cL,.slice (some ⟨q,o,none⟩) bT c0] W' (TrO W' P R u1 u2 u3 u4 bs ay))
  (bF:(∃v,fC st u n=.ok v)->∀s a,ay=.ok (s,a)->∀W' aN a2 bk bq,WS W' P R aN a2 bk bq bs s->Mv (Mst P u1 u2 u3 u4) W (Mst P aN a2 bk bq) W'->Calls prog 118 #[hB P,.slice a6 aS cL,.slice (some ⟨aJ,bO,none⟩) T c2] W' (TrO W' P R aN a2 bk bq bs aW)):
  Calls prog 148 #[hB P,.slice a6 aS cL,jc ⟨[106,118,112],K,z⟩,hC bl ab cp] W (TrO W P R u1 u2 u3 u4 bs (Od ⟨[106,118,112],K,z⟩ (fC st u n) ay aW)):=by
 have aA:V _:=iq W [106,118,112] K z;have HK:V _:=ez 0 0 W (.cells #[eN [106,118,112],hD K,eN z] 92);have aI:V _:=h.far;have ax:V (∀W',Kept 0 0 W W'->_):=λW' ai=>(ai.cell (p:=⟨bl,0,none⟩) b0 xaa).trans aZ;have aU:V _:=cd;have cJ:V (∀W' M',Mv (Mst P u1 u2 u3 u4) W M' W'->_):=λW' M' ai=>(ai.chg.cell (p:=⟨bl,2,none⟩) b0 dv).trans bP;have bL:V (∀W',Kept 0 0 W W'->_):=λW' ai=>xS (h.keep ai) aq a6 aS cL u (bJ.keep ai) hn n;have i:V _:=bc;have b1:V _:=bF;have aX:V _:=bv;have cD:V _:=au;have bI:V _:=aD;obtain⟨r,av⟩:∃r,r=Od ⟨[106,118,112],K,z⟩ (fC st u n) ay aW:=⟨_,rfl⟩
 rw[<-av];have HR:V _:=av;clear av h bv bc aZ cd bP aD bJ aq bF au dv;unfold jc at bL⊢;obtain⟨xs,dd,cX⟩:=n;simp only at bL⊢;go_enter func148,ntmps148;go_upto_region 2 with fail;change Code.wp _ _ _ _ (W.alloc (.cells #[eN [106,118,112],hD K,eN z] 92));generalize W.alloc (.cells #[eN [106,118,112],hD K,eN z] 92)=az at aA HK⊢;generalize W.heap.size=aR at aA aI b0⊢;have f:V _:=bL.o az HK.o;obtain⟨ao,aG,Q,cf⟩:=(aU.o.keep HK.o).cells;simp only at aG Q cf;have bH:=aA.o.c0;clear bL aU;generalize fC st u ⟨xs,dd,cX⟩=c9 at f HR bI i aX b1 cD;rcases c9 with⟨c,p⟩|v
 ·exact xdl
 exact qel
end
section
variable{f P R n g9 n9 cap9:Nat}{Y:Type}{bg:World}{u1 u2 u3 u4:Value}{st:LSt}{bs:List Bc}{zs:List Int}
theorem EO{u k x a d r}(h:eO (f+1) st u (.jvp k a x d)=some r):∃ay aW,r=Od k (fC st u x) ay aW/\(∀v,fC st u x=.ok v->eO f st u a=some ay)/\(∀v,fC st u x=.ok v->∀s y,ay=.ok (s,y)->eO f s u d=some aW):=by
 rw[eO]at h;cases aD:fC st u x with
 |error q=>rw[aD]at h;cases h;exact⟨.error q,.error q,rfl,λv e=>(by cases e),λv e=>(by cases e)⟩
 |ok v=>
  rw[aD]at h;simp only at h;cases B:eO f st u a with
  |none=>rw[B]at h;cases h
  |some ay=>
   rw[B]at h;rcases ay with⟨c,p⟩|⟨ao,y⟩
   ·cases h;exact⟨_,.error (c,p),rfl,λ_ _=>rfl,λ_ _ s y e=>by cases e⟩
   simp only[jF]at h;cases J:eO f ao u d with
   |none=>grind
   |some aW=>
    rw[J]at h;refine⟨.ok (ao,y),aW,?_,λ_ _=>rfl,λ_ _ s O e=>(by cases e;exact J)⟩;rcases aW with⟨c,p⟩|⟨aG,z⟩<;>(cases h;rfl)
section
variable{f:Nat}{W:World}{P R:Nat}{u1 u2 u3 u4:Value}{bs:List Bc}{st:LSt}{a6:Option Addr}{aS cL:Nat}{u:Loc}{g off m cap:Nat}{ts us:List Tok}{a b:Ex}{r:Rs (LSt×Nat)}
theorem cM.qcr(h:Zp:=by
 have b4:=jz F (λt ht=>H.ti t (by simp[ht])) a xac;have ch:=jz hb (λt ht=>H.ti t (by simp[ht])) b xac;have cT:=tV (by rw[hn];decide) (by rw[hn];decide) (by rw[hn];decide);have al:=AX y ad cT G X
 have aH:ts++c::([n]++d::us)=((k::l::(ts++c::n::d::(us++[q]))).drop 2).take (m-1-2):=by
  rw[List.drop_succ_cons,List.drop_succ_cons,List.drop_zero,show ts++c::n::d::(us++[q])=(ts++c::([n]++d::us))++[q] by simp,List.take_append_of_le_length yag,yap yag]
 have aP:∀x:List UInt8,x≠Jx->(k.sym==x)=false:=λx B=>by
  rw[beq_eq_false_iff_ne]
  rintro rfl
  exact B N
 refine lB H (Pr.jvp N ab F ad hn G hb am) (aP _ xab) (aP _ xab) (aP _ xab) (aP _ xab) (aP _ xab) xaa (ts++c::([n]++d::us)) aH (by rw[pF (X:=[ts,[n]]) (y:=us) xac al _ yag];exact cf) _ (λW' bu bX ai aZ=>?_);exact qec):Zp:=h
theorem cM.qed(h:Zp:=by
 obtain⟨bO,S,p,J,Z⟩:=bP 2 xac
 have bc:(∃v,fC st u n=.ok v)->∀aB,Kept 0 0 W' aB->_:=λI aB ah=>
  Q aB P R u1 u2 u3 u4 bs st a6 aS cL u g o ts.length c0 ts (H.seg (H.ws.keep (ai.trans ah)) (Gw.refl H.gd) (Mv.of (ai.trans ah)) (c2.keep ah) xaa c3 (λt ht=>by simp[ht])) 2 a F yad ay (I.elim e1)
 have bv:(∃v,fC st u n=.ok v)->_:=λI=>gz f st u a H.gd H.nm H.lo b4 ay (I.elim e1)
 have au:(∃v,fC st u n=.ok v)->∀s x,ay=.ok (s,x)->RsG s aW:=λI s x e=>by
  obtain⟨w,_⟩:=bv I s x e
  obtain⟨v,aD⟩:=I
  exact gz f s u b w.g (H.nm.gw w) (H.lo.le w.n) ch aW (e2 v aD s x e)
 have bF:(∃v,fC st u n=.ok v)->∀s x,ay=.ok (s,x)->∀aB aN a2 bk bq,WS aB P R aN a2 bk bq bs s->Mv (Mst P u1 u2 u3 u4) W' (Mst P aN a2 bk bq) aB->Calls prog 118 #[hB P,.slice a6 aS cL,.slice (some ⟨g,bO,none⟩) us.length S] aB (TrO aB P R aN a2 bk bq bs aW):=λI s x e aB aN a2 bk bq an C=>by
  obtain⟨w,_⟩:=bv I s x e
  obtain⟨v,aD⟩:=I
  exact Q aB P R aN a2 bk bq bs s a6 aS cL u g bO us.length S us (H.seg an w ((Mv.of ai).trans C) (J.keepC C.chg H.tg) xaa Z (λt ht=>by simp[ht])) 2 b hb yad aW (e2 v aD s x e)
 obtain⟨ar,K,z⟩:=k;simp only at N;subst N;exact EN (H.ws.keep ai) H.gd.m (H.lc.keep ai) H.ln K z n xac b0 (H.ws.far2 cb) c1 ⟨b0,af,c2'⟩ p ay aW bv (λv aD=>oV H.nm H.lo aD) au bc bF):Zp:=h
open cM in
theorem Ix{k l c n d q}(Q:TrC f)(H:TrIn W P R u1 u2 u3 u4 bs st a6 aS u g off m cap (k::l::(ts++c::n::d::(us++[q]))))(N:k.sym=Jx)(ab:l.sym=[40])(F:Pr 2 [a] ts)(ad:c.sym=[44])(hn:n.sym=gQ)(G:d.sym=[44])(hb:Pr 2 [b] us)(am:q.sym=[41])(h:eO (f+1) st u (.jvp k a n b)=some r):
  Calls prog 118 #[hB P,.slice a6 aS cL,.slice (some ⟨g,off,none⟩) m cap] W (TrO W P R u1 u2 u3 u4 bs r):=by
 obtain⟨ay,aW,rfl,e1,e2⟩:=EO h;exact qcq
end
theorem Iy(Q:TrC f){es ts}(aK:Pr n es ts):∀e,es=[e]->n<=2->∀(W:World) (P R:Nat) (u1 u2 u3 u4:Value) (bs:List Bc) (st:LSt) (a6:Option Addr) (aS cL:Nat) (u:Loc) (g off m cap:Nat),TrIn W P R u1 u2 u3 u4 bs st a6 aS u g off m cap ts->∀r,eO (f+1) st u e=some r->
  Calls prog 118 #[hB P,.slice a6 aS cL,.slice (some ⟨g,off,none⟩) m cap] W (TrO W P R u1 u2 u3 u4 bs r):=by
 induction aK with
 |up01 _ aa=>intro e Z hn;exact aa e Z xaa
 |up12 _ aa=>intro e Z hn;exact aa e Z xaa
 |arg1 _ _=>intro e Z hn;omega
 |argM _ _ _ _ _=>intro e Z hn;omega
 |add F al hb _ _=>intro e Z hn;cases Z;intro W P R u1 u2 u3 u4 bs st a6 aS cL u g off m cap H r h;exact Hv Q H F al hb h
 |mul F al hb _ _=>intro e Z hn;cases Z;intro W P R u1 u2 u3 u4 bs st a6 aS cL u g off m cap H r h;exact Hw Q H F al hb h
 |neg al F _=>intro e Z hn;cases Z;intro W P R u1 u2 u3 u4 bs st a6 aS cL u g off m cap H r h;exact Hx Q H al F h
 |num ht=>intro e Z hn;cases Z;intro W P R u1 u2 u3 u4 bs st a6 aS cL u g off m cap H r h;exact H8 H ht h
 |name ht=>intro e Z hn;cases Z;intro W P R u1 u2 u3 u4 bs st a6 aS cL u g off m cap H r h;exact Eo H ht h
 |par ab F am aa=>intro e Z hn;cases Z;intro W P R u1 u2 u3 u4 bs st a6 aS cL u g off m cap H r h;exact Hy H ab F am (λW' c=>aa _ rfl yad _ P R _ _ _ _ _ _ _ _ _ _ g _ _ _ c r h)
 |call0 ht ab am=>intro e Z hn;cases Z;intro W P R u1 u2 u3 u4 bs st a6 aS cL u g off m cap H r h;exact Bs Q H ht ab am h
 |call ht ab F am _=>intro e Z hn;cases Z;intro W P R u1 u2 u3 u4 bs st a6 aS cL u g off m cap H r h;exact EH Q H ht ab F am h
 |key1 N ab F am _=>intro e Z hn;cases Z;intro W P R u1 u2 u3 u4 bs st a6 aS cL u g off m cap H r h;exact Es Q H N ab F am h
 |key2 N ab F ad hb am _ _=>intro e Z hn;cases Z;intro W P R u1 u2 u3 u4 bs st a6 aS cL u g off m cap H r h;exact EE Q H N ab F ad hb am h
 |key3 N ab F ad hb T G am _ _ _=>intro e Z hn;cases Z;intro W P R u1 u2 u3 u4 bs st a6 aS cL u g off m cap H r h;exact EF Q H N ab F ad hb T G am h
 |keyN N ab F ad bI am _=>intro e Z hn;cases Z;intro W P R u1 u2 u3 u4 bs st a6 aS cL u g off m cap H r h;exact Et Q H N ab F ad bI am h
 |put N ab F ad hi T bI am _=>intro e Z hn;cases Z;intro W P R u1 u2 u3 u4 bs st a6 aS cL u g off m cap H r h;exact H7 Q H N ab F ad hi T bI am h
 |grad N ab F ad ak am _=>intro e Z hn;cases Z;intro W P R u1 u2 u3 u4 bs st a6 aS cL u g off m cap H r h;exact EL Q H N ab F ad ak am h
 |jvp N ab F ad ak T hb am _ _=>intro e Z hn;cases Z;intro W P R u1 u2 u3 u4 bs st a6 aS cL u g off m cap H r h;exact Ix Q H N ab F ad ak T hb am h
theorem trc:∀f,TrC f
 |0=>λW P R u1 u2 u3 u4 bs st a6 aS cL u g off m cap ts H n e aK hn r h=>by rw[eO]at h;cases h
 |f+1=>λW P R u1 u2 u3 u4 bs st a6 aS cL u g off m cap ts H n e aK hn r h=>Iy (trc f) aK e rfl hn W P R u1 u2 u3 u4 bs st a6 aS cL u g off m cap H r h
theorem pH(a b:List Y)(z i)(h:i<a.length):(a++b).getD i z=a.getD i z:=by
 grind
theorem wb(a)(x z:Y):(a++[x]).getD a.length z=x:=by
 simp_all
theorem rX(a:List Y)(x z i)(h:i<a.length):(a.set i x).getD i z=x:=by
 simp_all
theorem uE(a:List Y)(x z i j)(h:i≠j):(a.set i x).getD j z=a.getD j z:=by
 simp_all
theorem bD.qbq(h:Zp:=by
 have r:g9≠P:=λe=>by
  subst e
  rcases be with c|c
  ·exact aV c
  ·have:=h.lt;omega
 have t:(Value.slice _ _ _).ownBlock≠some P:=λc=>r ((aP P).1 c);have ak:∀o,_:=λo=>X.cell (p:=⟨P,o,none⟩) h.lt aV;have es:∀o,o≠0->(bg.setCell ⟨P,0,_⟩ (hC g9 n9 cap9)).cell? _=W.cell? _:=λo al=>(eM _ _ _ _ _ _ (.inr (λe=>al e.symm))).trans (ak o);have ar:=(eP (lo:=P) (hi:=P+1) bg ⟨P,0,none⟩ (hC g9 n9 cap9) yac)
 have aw:Mv (Mst P u1 u2 u3 u4) W (Mst P (hC g9 n9 cap9) u2 u3 u4) (bg.setCell ⟨P,0,none⟩ (hC g9 n9 cap9)):=by
  refine⟨Chg.andThen ⟨X.os,X.tape,X.output,X.size,λi hi hn=>X.block i hi (λc=>hn (.inr (.inl c)))⟩ (ar.chg1 (.inl rfl)),λb hb=>?_⟩;rcases hb with c|c|c|c|c
  ·exact .inl (.inl c)
  ·rw[aP]at c;subst c;rcases be with d|d
   ·exact .inl (.inr (.inl d))
   omega
  ·exact .inl (.inr (.inr (.inl c)))
  ·exact .inl (.inr (.inr (.inr (.inl c))))
  exact .inl (.inr (.inr (.inr (.inr c))))
 exact qef):Zp:=h
theorem bD.qeg(h:Zp:=by
 refine⟨⟨by simpa using yak h.lt X.size,λo=>?_,fD _ _ _ _ _ ((ak 0).trans h.c0),(es 1 xab).trans h.c1,(es 2 xab).trans h.c2,(es 3 xab).trans h.c3,(es 4 xab).trans h.c4,(es 5 xab).trans h.c5,(es 6 xab).trans h.c6,?_,?_,?_,?_,⟨t,p2,z,l⟩,⟨(bU h.r2 p.symm).symm,(bU h.r3 C.symm).symm,(bU h.r4 g.symm).symm,aa,m,q⟩,h.nl,λi hi=>(h.nb i hi).mv aw,h.sz⟩,aw⟩
 ·have:=(X.frozen h.lt aV).trans (h.fr o);simp[this]
 ·subst hn;exact eJ aZ t
 ·exact eJ (fy h.r2 X (λb hb c=>p b c hb)) p2
 ·exact eJ (fy h.r3 X (λb hb c=>C b c hb)) z
 exact eJ (fy h.r4 X (λb hb c=>g b c hb)) l):Zp:=h
open bD in
theorem WS.ins_{W}(h:WS W P R u1 u2 u3 u4 bs st)(X:Chg (λb=>u1.ownBlock=some b) W bg)(hn:n9=zs.length)(aZ:bg.ownsRow R 3 1 (hC g9 n9 cap9) n9 (zs.map (Value.int .i64)))(be:u1.ownBlock=some g9\/W.heap.size<=g9):
  WS (bg.setCell ⟨P,0,none⟩ (hC g9 n9 cap9)) P R (hC g9 n9 cap9) u2 u3 u4 bs {st with ins:=zs}/\Mv (Mst P u1 u2 u3 u4) W (Mst P (hC g9 n9 cap9) u2 u3 u4) (bg.setCell ⟨P,0,none⟩ (hC g9 n9 cap9)):=by
 exact qbp
theorem bE.qbq(h:Zp:=by
 have r:g9≠P:=λe=>by
  subst e
  rcases be with c|c
  ·exact z c
  ·have:=h.lt;omega
 have t:(Value.slice _ _ _).ownBlock≠some P:=λc=>r ((aP P).1 c);have ak:∀o,_:=λo=>X.cell (p:=⟨P,o,none⟩) h.lt z;have es:∀o,o≠2->(bg.setCell ⟨P,2,_⟩ (hC g9 n9 cap9)).cell? _=W.cell? _:=λo al=>(eM _ _ _ _ _ _ (.inr (λe=>al e.symm))).trans (ak o);have ar:=(eP (lo:=P) (hi:=P+1) bg ⟨P,2,none⟩ (hC g9 n9 cap9) yac)
 have aw:Mv (Mst P u1 u2 u3 u4) W (Mst P u1 u2 (hC g9 n9 cap9) u4) (bg.setCell ⟨P,2,none⟩ (hC g9 n9 cap9)):=by
  refine⟨Chg.andThen ⟨X.os,X.tape,X.output,X.size,λi hi hn=>X.block i hi (λc=>hn (.inr (.inr (.inr (.inl c)))))⟩ (ar.chg1 (.inl rfl)),λb hb=>?_⟩;rcases hb with c|c|c|c|c
  ·exact .inl (.inl c)
  ·exact .inl (.inr (.inl c))
  ·exact .inl (.inr (.inr (.inl c)))
  ·rw[aP]at c;subst c;rcases be with d|d
   ·exact .inl (.inr (.inr (.inr (.inl d))))
   omega
  exact .inl (.inr (.inr (.inr (.inr c))))
 exact qef):Zp:=h
theorem bE.qeg(h:Zp:=by
 refine⟨⟨by simpa using yak h.lt X.size,λo=>?_,(es 0 xab).trans h.c0,(es 1 xab).trans h.c1,fD _ _ _ _ _ ((ak 2).trans h.c2),(es 3 xab).trans h.c3,(es 4 xab).trans h.c4,(es 5 xab).trans h.c5,(es 6 xab).trans h.c6,?_,?_,?_,?_,⟨aV,p2,t,l⟩,⟨p,bU h.r1 C,g,bU h.r2 aa,m,(bU h.r4 q.symm).symm⟩,h.nl,λi hi=>(h.nb i hi).mv aw,h.sz⟩,aw⟩
 ·have:=(X.frozen h.lt z).trans (h.fr o);simp[this]
 ·exact eJ (fy h.r1 X (λb hb c=>C b hb c)) aV
 ·exact eJ (fy h.r2 X (λb hb c=>aa b hb c)) p2
 ·subst hn;exact eJ aZ t
 exact eJ (fy h.r4 X (λb hb c=>q b c hb)) l):Zp:=h
open bE in
theorem WS.outs_{W}(h:WS W P R u1 u2 u3 u4 bs st)(X:Chg (λb=>u3.ownBlock=some b) W bg)(hn:n9=zs.length)(aZ:bg.ownsRow R 3 1 (hC g9 n9 cap9) n9 (zs.map (Value.int .i64)))(be:u3.ownBlock=some g9\/W.heap.size<=g9):
  WS (bg.setCell ⟨P,2,none⟩ (hC g9 n9 cap9)) P R u1 u2 (hC g9 n9 cap9) u4 bs {st with outs:=zs}/\Mv (Mst P u1 u2 u3 u4) W (Mst P u1 u2 (hC g9 n9 cap9) u4) (bg.setCell ⟨P,2,none⟩ (hC g9 n9 cap9)):=by
 exact qbp
theorem bF.qbq(h:Zp:=by
 have r:g9≠P:=λe=>by
  subst e
  rcases be with c|c
  ·exact l c
  ·have:=h.lt;omega
 have t:(Value.slice _ _ _).ownBlock≠some P:=λc=>r ((aP P).1 c);have ak:∀o,_:=λo=>X.cell (p:=⟨P,o,none⟩) h.lt l;have es:∀o,o≠3->(bg.setCell ⟨P,3,_⟩ (hC g9 n9 cap9)).cell? _=W.cell? _:=λo al=>(eM _ _ _ _ _ _ (.inr (λe=>al e.symm))).trans (ak o);have ar:=(eP (lo:=P) (hi:=P+1) bg ⟨P,3,none⟩ (hC g9 n9 cap9) yac)
 have aw:Mv (Mst P u1 u2 u3 u4) W (Mst P u1 u2 u3 (hC g9 n9 cap9)) (bg.setCell ⟨P,3,none⟩ (hC g9 n9 cap9)):=by
  refine⟨Chg.andThen ⟨X.os,X.tape,X.output,X.size,λi hi hn=>X.block i hi (λc=>hn (.inr (.inr (.inr (.inr c)))))⟩ (ar.chg1 (.inl rfl)),λb hb=>?_⟩;rcases hb with c|c|c|c|c
  ·exact .inl (.inl c)
  ·exact .inl (.inr (.inl c))
  ·exact .inl (.inr (.inr (.inl c)))
  ·exact .inl (.inr (.inr (.inr (.inl c))))
  rw[aP]at c;subst c;rcases be with d|d
  ·exact .inl (.inr (.inr (.inr (.inr d))))
  omega
 exact qef):Zp:=h
theorem bF.qeg(h:Zp:=by
 refine⟨⟨by simpa using yak h.lt X.size,λo=>?_,(es 0 xab).trans h.c0,(es 1 xab).trans h.c1,(es 2 xab).trans h.c2,fD _ _ _ _ _ ((ak 3).trans h.c3),(es 4 xab).trans h.c4,(es 5 xab).trans h.c5,(es 6 xab).trans h.c6,?_,?_,?_,?_,⟨aV,p2,z,t⟩,⟨p,C,bU h.r1 g,aa,bU h.r2 m,bU h.r3 q⟩,(by simp only[yal,List.length_singleton];rw[h.nl]),λi hi=>by
  simp only
  by_cases c:i<bs.length
  ·rw[pH _ _ _ _ c,pH _ _ _ _ (hQ h.nl c)]
   exact(h.nb i c).mv aw
  ·have e:i=bs.length:=by grind
   subst e
   rw[wb,h.nl,wb]
   exact hb aw,h.sz⟩,aw⟩
 ·have:=(X.frozen h.lt l).trans (h.fr o);simp[this]
 ·exact eJ (fy h.r1 X (λb hb c=>g b hb c)) aV
 ·exact eJ (fy h.r2 X (λb hb c=>m b hb c)) p2
 ·exact eJ (fy h.r3 X (λb hb c=>q b hb c)) z
 subst hn;exact eJ aZ t):Zp:=h
open bF in
theorem WS.nms_{W}(h:WS W P R u1 u2 u3 u4 bs st)(X:Chg (λb=>u4.ownBlock=some b) W bg){b d}(hn:n9=(bs++[b]).length)(aZ:bg.ownsRow R 147 5 (hC g9 n9 cap9) n9 (bcF (bs++[b])))(be:u4.ownBlock=some g9\/W.heap.size<=g9)(hb:Mv (Mst P u1 u2 u3 u4) W (Mst P u1 u2 u3 (hC g9 n9 cap9)) (bg.setCell ⟨P,3,none⟩ (hC g9 n9 cap9))->BcOK (Mst P u1 u2 u3 (hC g9 n9 cap9)) (bg.setCell ⟨P,3,none⟩ (hC g9 n9 cap9)) b d):
  WS (bg.setCell ⟨P,3,none⟩ (hC g9 n9 cap9)) P R u1 u2 u3 (hC g9 n9 cap9) (bs++[b]) {st with names:=st.names++[d]}/\Mv (Mst P u1 u2 u3 u4) W (Mst P u1 u2 u3 (hC g9 n9 cap9)) (bg.setCell ⟨P,3,none⟩ (hC g9 n9 cap9)):=by
 exact qbp
theorem Oe{W:World}{e s g cap k:Nat}{xs u}(h:W.ownsRow R e s (hC g n cap) n xs):(W.setCell ⟨g,k,none⟩ u).ownsRow R e s (hC g n cap) n (xs.set k u):=by
 refine⟨by rw[List.length_set];exact h.1,?_⟩;rcases h.2 with⟨c,_⟩|⟨aB,cap',H,e1,O,ax,Z,av,cj,bG⟩
 ·cases c
 cases e1;refine .inr ⟨g,_,H.setIfInBounds k u,rfl,O,?_,Z,av,by grind,?_⟩
 ·rw[heap_setCell_same W g k _ _ _ ax]
 grind[List.take_set]
theorem CB:∀(bs:List Bc) (k:Nat) (v:Int),k<bs.length->(bcF bs).set (k*5+2) (hD v)=bcF (bs.set k {bs.getD k hK with val:=v})
 |b::r,0,v,_=>by simp[bcF,Bc.cells]
 |b::r,k+1,v,h=>by
  have hb:b.cells.length=5:=rfl
  rw[bcF,List.set_append_right _ _ xaa,hb,show(k+1)*5+2-5=k*5+2 by omega,CB r k v (by simpa using h)]
  rfl
theorem WS.setv{W}(h:WS W P R u1 u2 u3 u4 bs st){i}(hi:i<bs.length){s}{bF v:Nat}(G:st.names.getD i (.val [] 0)=.val s bF):∃bO cp,u4=hC bO bs.length cp/\bO<W.heap.size/\W.frozen? ⟨bO,i*5+2,none⟩=false/\WS (W.setCell ⟨bO,i*5+2,none⟩ (hD v)) P R u1 u2 u3 u4 (bs.set i {bs.getD i hK with val:=(v:Int)}) (st.setV i s v)/\Mv (Mst P u1 u2 u3 u4) W (Mst P u1 u2 u3 u4) (W.setCell ⟨bO,i*5+2,none⟩ (hD v)):=by
 obtain⟨bO,cp,e4,_,aR,_,bP⟩:=mA h.r4 xaa;have aP:u4.ownBlock=some bO:=hS e4
 have cF:W.frozen? ⟨bO,i*5+2,none⟩=false:=by
  rcases h.r4.2 with⟨c,c2⟩|⟨aB,cap',H,e1,O,ax,_⟩
  ·omega
  cases e4.symm.trans e1;simp[World.frozen?,ax]
 refine⟨_,_,e4,aR,cF,?_⟩;have K:=eP (lo:=bO) (hi:=bO+1) W ⟨_,i*5+2,none⟩ (hD v) yac;have aw:Mv _ W (Mst P u1 u2 u3 _) _:=⟨K.chg1 (.inr (.inr (.inr (.inr aP)))),λb hb=>.inl hb⟩
 obtain⟨n1,T,n3,l⟩:=h.np;obtain⟨p,C,g,aa,m,q⟩:=h.ap;have r:bO≠P:=λe=>l (by grind);have es:∀o,(W.setCell ⟨_,i*5+2,_⟩ (hD v)).cell? _=W.cell? ⟨P,o,_⟩:=λo=>eM _ _ _ _ _ _ (.inl r);refine⟨⟨by simpa using h.lt,λo=>by simp[h.fr o],(es 0).trans h.c0,(es 1).trans h.c1,(es 2).trans h.c2,(es 3).trans h.c3,(es 4).trans h.c4,(es 5).trans h.c5,(es 6).trans h.c6,eJ h.r1 (λc=>g _ c aP),eJ h.r2 (λc=>m _ c aP),eJ h.r3 (λc=>q _ c aP),?_,h.np,h.ap,?_,λj hj=>?_,h.sz⟩,aw⟩
 ·have:=Oe (k:=i*5+2) (u:=hD v) (by have:=h.r4;rw[e4]at this;exact this);rw[CB _ i v hi]at this;rw[e4,List.length_set];exact this
 ·show(bs.set i _).length=(st.names.set i _).length;rw[List.length_set,List.length_set,h.nl]
 rw[List.length_set]at hj;show BcOK _ _ ((bs.set i _).getD j hK) ((st.names.set i _).getD j (.val [] 0));by_cases c:j=i
 ·subst c;have hb:=h.nb j hi;rw[G]at hb;rw[rX _ _ _ _ hi,rX _ _ _ _ (hQ h.nl hi)];exact⟨hb.1,hb.2.1,rfl⟩
 rw[uE _ _ _ _ _ (λe=>c e.symm),uE _ _ _ _ _ (λe=>c e.symm)];exact(h.nb j hj).mv aw
def StO(W:World)(P B:Nat)(u1 u2 u3 u4:Value)(r:Rs LSt)(e:Ending)(W':World):Prop:=
 e=.returned (.tuple #[])/\match r with
 |.error (c,p)=>W'.cell? ⟨P,5,none⟩=some (.int .i64 c)/\W'.cell? ⟨P,6,none⟩=some (.int .i64 (p:Int))/\Chg (Mst P u1 u2 u3 u4) W W'
 |.ok st=>∃bs v1 v2 v3 v4,WS W' P B v1 v2 v3 v4 bs st/\Mv (Mst P u1 u2 u3 u4) W (Mst P v1 v2 v3 v4) W'
end
section
attribute[local go_sem] eG eE eD
variable{f P R g off m cap:Nat}{u1 u2 u3 u4:Value}{st:LSt}{s:List UInt8}{bs:List Bc}{n k q:Tok}{e:Ex}{ts:List Tok}{r:Rs LSt}
theorem Iz{W}(H:TrIn W P R u1 u2 u3 u4 bs st none 0 [] g off m cap (k::ts))(N:k.sym=Ka)(F:Pr 2 [e] ts)(h:iQ f st (.outS k e)=some r):
  Calls prog 70 #[hB P,.slice (some ⟨g,off,none⟩) m cap] W (StO W P R u1 u2 u3 u4 r):=by
 have aq:=H.tk.len;rw[yaq]at aq;have ab:=jk F;have aG:=H.mc;have cJ:=H.m5;have al:=H.gd.o;have c0:=H.tk.c0 0 xaa;have c1:=H.tk.c1 0 xaa;rw[show(k::ts).getD 0 hJ=k from rfl]at c0 c1;rw[N]at c0;rw[show Ka=[111,117,116] from rfl]at c0;have p2:=H.ws.c2;obtain⟨a3,b6,af⟩:=jt H.ws.r3;have bo:V _:=H.ws;have co:V _:=H.gd;simp only[Nat.zero_mul,Nat.add_zero]at c0 c1;simp only[iQ]at h;by_cases ad:50<=st.outs.length
 ·rw[hG ad]at h;have HR:V _:=(hH h).symm;have bm:V _:=jG H.ws.c5 H.ws.c6 H.ws.fr 5 k.pos (Mst P u1 u2 u3 u4) (.inl rfl);have z:(50:Int)<=(st.outs.length:Int):=xaa;clear H h;subst af;generalize st.outs.length=j at*;generalize k.pos=K at*;go_enter func70,ntmps70;go_wp2_with (go_at_call 117;refine yaj bm.o ?_;rintro e a7 ⟨rfl,S⟩);refine yaz (v:=.tuple #[]) (by simp[results,results70,go_sem]) rfl ?_;rw[HR.o];exact⟨rfl,S.c5,S.c6,S.chg⟩
 rw[hF ad]at h;cases Z:eO f st [] e with
 |none=>rw[Z]at h;cases h
 |some ay=>
  rw[Z]at h;have HR:V _:=(hH h).symm;have b4:=jz F (λt ht=>H.ti t (by simp[ht])) e xac;have bv:=gz f st [] e H.gd H.nm H.lo b4 ay Z
  have ar:=H.sub H.ws (Gw.refl H.gd) (Mv.refl _ _) 1 m yad ts (by
   rw[List.drop_succ_cons,List.drop_zero,yap xaa]) (cap':=cap-1) xaa
  have bc:V _:=trc f W P R u1 u2 u3 u4 bs st none 0 0 [] g _ _ _ ts ar 2 e F yad ay Z;have z:¬(50:Int)<=(st.outs.length:Int):=xaa;have aX:V _:=bv;clear ar bv H h Z;subst af;generalize aB:st.outs.length=j at*;have u:V _:=aB;clear aB;generalize k.pos=K at*;rcases ay with⟨c,p⟩|⟨s,v⟩
  ·go_enter func70,ntmps70;go_wp2_with (go_at_call 118;refine yaj bc.o ?_;rintro e a7 ⟨rfl,bh⟩);refine yaz (v:=.tuple #[]) (by simp[results,results70,go_sem]) rfl ?_;rw[HR.o];exact⟨rfl,bh⟩
  obtain⟨w,aD⟩:=aX.o s v rfl;have cG:0<=(v:Int):=xaa;have cb:V _:=w.o;go_enter func70,ntmps70;go_upto_region 6 with (go_at_call 118;refine yaj bc.o ?_;rintro e a7 ⟨rfl,a9,ba,be,bi,aF,G⟩);have aJ:=aF.c2;have bx:=ez 0 0 a7 (.cells #[hD v] 3);have i:V _:=aF.keep bx;have bN:(a7.alloc (.cells #[hD v] 3)).cell? ⟨a7.heap.size,0,none⟩=some (hD v):=by rw[yav];rfl
  have C:V _:=G.keep bx;have aW:V (R<=a7.heap.size):=by show _<=_;have:=aF.sz;have:=aF.lt;omega
  have aj:V _:=w.g.o;clear aF G c0 c1 p2 bc aX w;go_wp2_with (first|(at_builtin;refine fk _ rfl _ _ rfl R _ s.outs (by rfl) i.o.r3 ⟨a7.heap.size,0,none⟩ (v:Int) (by rfl) bN ?c2 ?c3 ?_)|fail)
  case c2=>have:=aj.o;omega
  case c3=>have:=aW.o;simp;omega
  intro g9 cap9 n9 bg bJ bM bI bL;obtain⟨(U:V _),aa⟩:=i.o.outs_ (n9:=n9) (cap9:=cap9) (g9:=g9) (zs:=s.outs++[(v:Int)]) bI (by rw[bJ];simp) (by rw[List.map_append];exact bM) (bL.imp id (λe=>by rw[e];simp));have aC:=i.o.lt;have aQ:=(bI.cell (p:=⟨P,2,none⟩) aC i.o.np.2.2.1).trans i.o.c2;have bk:=(bI.frozen (p:=⟨P,2,none⟩) aC i.o.np.2.2.1).trans (i.o.fr 2);have aU:V _:=C.o.trans aa;clear aa bI bM bL bJ bx bN i C;go_wp2_with fail;refine yaz (v:=.tuple #[]) (by simp[results,results70,go_sem]) rfl ?_;rw[HR.o];exact⟨rfl,_,_,_,_,_,U.o,aU.o⟩
theorem Of{ab k}(N:k<ab.length)(B:(ab.getD k (.val [] 0)).nm=s)(J:∀j,j<k->(ab.getD j (.val [] 0)).nm≠s):Kt ab s=k:=by
 unfold Kt;rw[List.findIdx_eq N];have e:∀j (hj:j<ab.length),ab.getD j (.val [] 0)=ab[j]:=λj hj=>by simp_all
 grind
theorem Le(g:Gd st)(i s v):Gd (st.setV i s v):=⟨g.n,g.c,g.ok,g.k,g.i,g.o,by show(st.names.set i _).length<=5000;rw[List.length_set];exact g.m⟩
theorem Lf(h:NmOK st)(i s){v}(aD:v<st.vs.length):NmOK (st.setV i s v):=λb hb=>by
 have y:b∈st.names.set i _:=hb
 rcases List.mem_or_eq_of_mem_set y with c|c
 ·exact h b c
 ·subst c;exact aD
theorem IA(M W):LcR M W none 0 []:=⟨rfl,λh=>by omega⟩
theorem TrIn.later{W a6 aS u}(h:TrIn W P R u1 u2 u3 u4 bs st a6 aS u g off m cap ts){W' a9 ba be bi ax O}(an:WS W' P R a9 ba be bi ax O)(ak:Gd O)(af:NmOK O)(k:Mv (Mst P u1 u2 u3 u4) W (Mst P a9 ba be bi) W')(i)(hi:i<m)(us)(aH:us=ts.drop i):TrIn W' P R a9 ba be bi ax O none 0 [] g (off+i*3) (m-i) (cap-i) us where
 ws:=an
 gd:=ak
 nm:=af
 lc:=IA _ _
 ln:=yae
 lo:=λb hb=>by cases hb
 tk:=(h.tk.keepC k.chg h.tg).in_ i m us (by rw[aH,yap (by rw[List.length_drop,h.tk.len];exact yad)]) yad
 tg:=λc=>(k.new g c).elim h.tg (λc=>hM h.tk.lt)
 m5:=hM h.m5
 mc:=hM h.mc
 ti:=λt ht=>h.ti t (by grind)
 tn:=λt ht=>h.tn t (by grind)
theorem IB{W i}(H:TrIn W P R u1 u2 u3 u4 bs st none 0 [] g off m cap (k::i::n::q::ts))(N:k.sym=Kc)(hi:i.sym=iG)(F:Pr 2 [e] ts)(h:iQ f st (.rep i n e)=some r):
  Calls prog 70 #[hB P,.slice (some ⟨g,off,none⟩) m cap] W (StO W P R u1 u2 u3 u4 r):=by
 have aq:=H.tk.len;simp only[yaq]at aq;have ab:=jk F;have aG:=H.mc;have cJ:=H.m5;have aX:bs.length<=100000:=by rw[H.ws.nl];have:=H.gd.m;omega
 have c0:=H.tk.c0 0 xaa;have b3:=H.tk.c0 1 xaa;have cB:=H.tk.c1 1 xaa;have b0:=H.tk.c2 1 xaa;have n1:=H.tk.c1 2 xaa;have T:=H.tk.c2 2 xaa;rw[show(k::i::n::q::ts).getD 0 _=k from rfl]at c0;rw[show(k::i::n::q::ts).getD 1 _=i from rfl]at b3 cB b0;rw[show(k::i::n::q::ts).getD 2 _=n from rfl]at n1 T;rw[N]at c0;rw[show Kc=[114,101,112,101,97,116] from rfl]at c0;have a5:=H.ti i xac hi;have bW:V _:=λW'=>zL i a5 W';have bc:=qj a5 yad;rw[yap yad]at bc;have u:V _:=H;have b4:=jz F (λt ht=>H.ti t (by simp[ht])) e xac;have bU:V _:=F;have ar:V _:=b4;have aV:V _:=rS H.ws.c3 H.ws.r4 aX n.text;have z:=H.ws.c3;have B:V _:=mA H.ws.r4;have bm:V (∀W',Kept 0 0 W W'->∀c p,_):=λW' ai c p=>jG (H.ws.keep ai).c5 (H.ws.keep ai).c6 (H.ws.keep ai).fr c p (Mst P u1 u2 u3 u4) (.inl rfl);have az:V (∀W',Kept 0 0 W W'->_):=λW' ai=>(ai.cell (p:=⟨g,off+3+1,_⟩) H.tk.lt xaa).trans cB;obtain⟨a4,bV,I⟩:=jH H.ws.r4;simp only[Nat.zero_mul,Nat.add_zero,Nat.one_mul]at c0 b3 cB b0 n1 T;simp only[iQ]at h;have HR:V _:=h;clear h H F b4 a5 hi N;obtain⟨bC,bu,bG⟩:=i;obtain⟨bv,Y,Q⟩:=n;unfold jc at bW;simp only at*;subst I;generalize bA:iD _=K at*;clear bA;go_enter func70,ntmps70;go_upto_region 9 with (go_at_call 119;refine yaj aV.o ?_;rintro e ag ⟨av,rfl,bp,an⟩;obtain rfl:=an.symm);clear aV;rcases bp with⟨ah,b2,rfl,cc,ce⟩|⟨rfl,hn⟩
 ·have a8:V _:=oS u.o.ws b2 cc ce;have l:V _:=u.o.ws.nb _ b2;have a6:V (Kt _ Q=ah):=Of (hQ u.o.ws.nl b2) (by rw[<-vU (u.o.ws.nb _ b2)];exact cc) (λj hj=>by rw[<-vU (u.o.ws.nb j xaa)];exact ce j hj);obtain⟨bO,cp,e4,_,_,_,bP⟩:=B.o xaa;cases e4;obtain⟨_,d1,_,_,_⟩:=bP _ b2;have bd:¬((ah:Int)<0):=xaa;have HD:V _:=(show st.names.getD _ (.val [] 0)=st.names.getD ah _ from rfl)
  generalize f4:st.names.getD ah _=aK at a8 l;have cy:V _:=f4;clear f4 HD;generalize Z:bs.getD ah _=b at d1 l;clear Z;have bD:V _:=b2;cases aK with
  |fn af X aJ=>
   have w:=l.o.2.1;rw[w]at d1
   have bz:V (r=.error (3,Y)):=by
    have h:=HR.o;rw[a8.o]at h;exact(hH h).symm
   have bE:V _:=bm.o W (Kept.refl 0 0 W) 3 Y;clear cc ce bP l B bm;generalize bs.length=nn at*;go_wp2_with (go_at_call 117;refine yaj bE.o ?_;rintro e a7 ⟨rfl,S⟩);refine yaz (v:=.tuple #[]) (by simp[results,results70,go_sem]) rfl ?_;rw[bz.o];exact⟨rfl,S.c5,S.c6,S.chg⟩
  |val af bF=>
   have w:=l.o.2.1
   have cO:V (af=Q):=by
    have:=vU (u.o.ws.nb _ b2);rw[cy.o]at this;exact this.symm.trans cc
   rw[w]at d1;clear cc ce bP l B;have aT:=b2;generalize bb:bs.length=nn at z b2 aX;go_upto_region 12 with (go_at_call 120;refine yaj (bW.o _) ?_;rintro e a7 ⟨rfl,aF⟩);have bR:V _:=aF;clear aF c0 b3 cB b0 n1 T d1 z bW;by_cases aw:100<K
   ·have bz:V (r=.error (5,bu)):=by
     have h:=HR.o;rw[a8.o]at h;simp only[hG aw]at h;exact(hH h).symm
    have bx:V _:=bm.o _ bR.o 5 bu;have cB:=az.o _ bR.o;clear bm az;go_wp2_with (go_at_call 117;refine yaj bx.o ?_;rintro e bj ⟨rfl,S⟩);refine yaz (v:=.tuple #[]) (by simp[results,results70,go_sem]) rfl ?_;rw[bz.o];exact⟨rfl,S.c5,S.c6,(Mv.of bR.o).bad S.chg⟩
   obtain⟨aH,rfl⟩:∃aH:Nat,K=aH:=⟨K.toNat,by omega⟩
   have bz:V (nZ f e ah Q aH st=some r):=by
    have h:=HR.o;rw[a8.o]at h;simp only[hF aw]at h;rw[a6.o,Int.toNat_natCast]at h;exact h
   have J:V (st.names.getD ah (.val [] 0)=.val Q bF):=by show _=_;rw[cy.o,cO.o]
   have bf:V (∀W' ax aN a2 bk bq s,WS _ P R aN _ _ _ ax s->Gd s->NmOK s->Mv _ W _ W'->∀ay,eO f s _ e=some _->RsG s _/\Calls _ _ _ _ _):=λW' ax aN a2 bk bq s an aR am C ay aZ=>⟨gz f s _ e aR am (λb hb=>by cases hb) ar.o _ aZ,trc f _ P R _ a2 bk bq _ s _ 0 0 _ g _ _ _ _ (u.o.later an aR am C 4 xaa _ rfl) 2 e bU.o yad ay aZ⟩
   have ad:V _:=u.o.ws.keep bR.o;have a0:V _:=u.o.gd;have a9:V _:=u.o.nm;clear HR a6 a8 cy bm az cO bU ar u;go_wp2_with fail;go_loopw [8] (λnv W'=>∃(j:Nat) (s:LSt) (ax:List Bc) (aN a2 bk bq:Value) (aY:Nat),j<=aH/\nv=hD j/\V (WS W' P R aN a2 bk bq ax s)/\V (Mv (Mst P u1 u2 u3 (hC bO bs.length bV)) W (Mst P aN a2 bk bq) W')/\V (nZ f e ah Q (aH-j) s=some r)/\V (Gd s)/\V (NmOK s)/\V (ax.length=bs.length)/\V (s.names.getD ah (.val [] 0)=.val Q aY)) (λnv _=>aH-(intOf nv).toNat)
   case atStart=>exact⟨0,_,_,_,_,_,_,_,yae,rfl,ad,(show V _ from Mv.of bR.o),bz,a0,a9,(show V _ from rfl),J⟩
   case round=>
    obtain⟨j,s,ax,aN,a2,bk,bq,aY,hj,rfl,aP,aA,aI,br,aL,ae,bl⟩:=hrel;clear bz J ad a0 a9;by_cases aC:j<aH
    ·cases x:eO f s [] e with
     |none=>
      exfalso;have h:=aI.o;rw[show aH-j=(aH-j-1)+1 by omega,nZ,x]at h;cases h
     |some ay=>
      obtain⟨aB,bg⟩:=bf.o _ _ _ _ _ _ s aP.o br.o aL.o aA.o _ x;have ak:V _:=aB;have aj:V _:=bg;have ba:V _:=aI.o;rw[show aH-j=(aH-j-1)+1 by omega,nZ,x]at ba;clear aB bg x aI;rcases ay with⟨c,p⟩|⟨ao,v⟩
      ·have bz:V _:=(hH ba.o).symm;go_wp2_with (go_at_call 118;refine yaj aj.o ?_;rintro e bj ⟨rfl,bh⟩);refine yaz (v:=.tuple #[]) (by simp[results,results70,go_sem]) rfl ?_;rw[bz.o];exact⟨rfl,bh.1,bh.2.1,aA.o.bad bh.2.2⟩
      obtain⟨aO,aD⟩:=ak.o _ v rfl;have cG:¬((v:Int)<0):=xaa;have O:V (ao.names.getD ah (.val [] 0)=.val Q aY):=by show _=_;rw[aO.m];exact bl.o
      have cD:V _:=Le aO.g ah Q v;have bi:V _:=Lf (NmOK.gw aL.o aO) ah Q aD;have ap:V (nZ f e ah Q (aH-(j+1)) (ao.setV ah Q v)=some r):=by show _=_;rw[show aH-(j+1)=aH-j-1 by omega];exact ba.o
      go_upto_region 19 with (go_at_call 118;refine yaj aj.o ?_;rintro e bj ⟨rfl,aM,aQ,bY,cg,al,bn⟩);obtain⟨ec,bw,bo,aW,cF,aS,aa⟩:=al.setv (v:=v) (hO ae.o aT) O.o;have bS:=al.c3;rw[bo,ae.o,bb]at bS;have au:=(mA al.r4 (hR ae.o))
      obtain⟨cf,bB,G,_,_,_,bP⟩:=au;have ck:=(bP _ (hO ae.o aT)).2.2.1;rw[bo]at G;cases G;have U:V _:=aS;have aU:V _:=(aA.o.trans bn).trans aa;have y:V ((ax.set ah {ax.getD ah hK with val:=v}).length=bs.length):=by show _=_;rw[List.length_set];exact ae.o
      have be:V ((ao.setV ah Q v).names.getD ah (.val [] 0)=.val Q v):=by
       show(ao.names.set ah _).getD ah _=_;rw[rX _ _ _ _ (by rw[<-al.nl,ae.o];exact aT)]
      clear bP aS aa al bn aA aP aj ak ba br aL bl aO aW;go_wp2_with fail;go_roundw;exact⟨j+1,ao.setV ah Q v,_,aM,aQ,bY,cg,v,by omega,by go_num,U,aU,ap,cD,bi,y,be⟩;simp[intOf];omega
    obtain rfl:j=aH:=xaa
    have bz:V (r=.ok s):=by
     have h:=aI.o;rw[Nat.sub_self,nZ]at h;exact(hH h).symm
    clear aI bf;go_wp2_with fail;refine yaz (v:=.tuple #[]) (by simp[results,results70,go_sem]) rfl ?_;rw[bz.o];exact⟨rfl,_,_,_,_,_,aP.o,aA.o⟩
 have bz:V (r=.error (3,Y)):=by
  have h:=HR.o;rw[pE u.o.ws hn]at h;exact(hH h).symm
 have bE:V _:=bm.o W (Kept.refl 0 0 W) 3 Y;clear hn B bm z;go_wp2_with (go_at_call 117;refine yaj bE.o ?_;rintro e a7 ⟨rfl,S⟩);refine yaz (v:=.tuple #[]) (by simp[results,results70,go_sem]) rfl ?_;rw[bz.o];exact⟨rfl,S.c5,S.c6,S.chg⟩
theorem Og:(prog.info? 147).map (λi=>(i.zero,i.size,i.bytes))=some (some (.agg #[.string ⟨#[]⟩,.bool false,hD 0,.slice none 0 0,.slice none 0 0]),5,80):=by kernel_rfl
theorem nN:∃b3,prog.info? 147=some b3/\b3.zero=some (.agg #[.string ⟨#[]⟩,.bool false,hD 0,.slice none 0 0,.slice none 0 0])/\b3.size=5/\b3.bytes=80:=by
 have h:=Og;simp_all
theorem IC(w:World)(b:Bc)(m):∀j u,b.cells[j]? =some u->((w.alloc (.cells #[eN b.nm,.bool b.fn,hD b.val,.slice b.pa b.pn b.pc,.slice b.ba b.bn b.bc] 147)).drewN m).cell? ((⟨w.heap.size,0,none⟩:Addr).add j)=some u:=λj u aH=>
 World.news_of_block (w:=w.alloc (.cells #[eN b.nm,.bool b.fn,hD b.val,.slice b.pa b.pn b.pc,.slice b.ba b.bn b.bc] 147)) (t:=147) (fr:=(0,0)) (cs:=#[eN b.nm,.bool b.fn,hD b.val,.slice b.pa b.pn b.pc,.slice b.ba b.bn b.bc]) (yy _ _) j u aH
theorem Oh(b:Bc):∀u∈b.cells,u.oneCell'=true:=λu aH=>by
 simp only[Bc.cells,List.mem_cons,List.not_mem_nil,or_false]at aH
 rcases aH with rfl|rfl|rfl|rfl|rfl<;>rfl
theorem qn{W}(h:WS W P R u1 u2 u3 u4 bs st)(ab:bs.length<=100000)(a9:i8 st.names s=none):Calls prog 119 #[hB P,eN s] W λe W'=>e=.returned (hD (-1))/\W'=W:=
 yaj (rS h.c3 h.r4 ab s) (λe W' ⟨r,e1,bp,an⟩=>by
  rcases bp with⟨ah,b2,rfl,cc,ce⟩|⟨rfl,hn⟩
  ·rw[oS h b2 cc ce]at a9;cases a9
  grind)
theorem qo{W}(h:WS W P R u1 u2 u3 u4 bs st)(ab:bs.length<=100000){d}(a9:i8 st.names s=some d):Calls prog 119 #[hB P,eN s] W λe W'=>∃k:Nat,e=.returned (hD k)/\W'=W:=
 yaj (rS h.c3 h.r4 ab s) (λe W' ⟨r,e1,bp,an⟩=>by
  rcases bp with⟨ah,b2,rfl,cc,ce⟩|⟨rfl,hn⟩<;>grind[pE])
theorem uF{r d}(h:i8 st.names n.text=some d):pK st n r=some (.error (3,n.pos)):=by unfold pK;rw[h]
theorem uG{r}(h:i8 st.names n.text=none):pK st n r=r:=by unfold pK;rw[h]
theorem cX.qdz(h:Zp:=by
 clear bT n1 T;cases Z:i8 st.names Q with
 |some d=>
  exact qam
 |none=>
  exact qfw):Zp:=h
theorem cX.qfv(h:Zp:=by
 rw[show(k::n::q::ts).getD 0 _=k from rfl]at c0;rw[show(k::n::q::ts).getD 1 _=n from rfl]at bT n1 T;rw[N,show J9=[108,101,116] from rfl]at c0;exact qhc):Zp:=h
theorem cX.qfx(h:Zp:=by
 have bz:V ((eO f st [] e).map (q8 Q)=some r):=by
  have h:=HR.o;rw[uG HFn.o]at h;exact h
 cases x:eO f st [] e with
 |none=>exfalso;have h:=bz.o;grind
 |some ay=>
  have J:V (r=q8 Q ay):=by
   have h:=bz.o;rw[x]at h;exact(hH h).symm
  have aB:=gz f _ _ e u.o.gd u.o.nm (λb hb=>by cases hb) ar.o _ x;have ak:V _:=aB;have aj:V _:=trc f _ P R _ _ _ _ _ _ _ 0 0 _ g _ _ _ _ (u.o.later bH.o u.o.gd u.o.nm (Mv.of HK.o) 3 xaa _ rfl) 2 e bU.o yad _ x;clear aB x bz HR HFn bU ar;rcases ay with⟨c,p⟩|⟨s,v⟩
  ·go_wp2_with (go_at_call 118;refine yaj aj.o ?_;rintro e a7 ⟨rfl,bh⟩);refine yaz (v:=.tuple #[]) (by simp[results,results70,go_sem]) rfl ?_;rw[J.o];exact⟨rfl,bh.1,bh.2.1,(Mv.of HK.o).bad bh.2.2⟩
  obtain⟨w,aD⟩:=ak.o s v rfl;have cG:(0:Int)<=v:=xaa;have bD:=w.g;have co:V (r=.ok _):=J.o;go_upto_region 49 with (go_at_call 118;refine yaj aj.o ?_;rintro e y ⟨rfl,a9,ba,be,bi,C,G⟩);have cn:V _:=(Mv.of HK.o).trans G;have cl:V _:=aA.o.keepC G.chg aM.o;have cj:¬Mst P _ _ _ _ _:=λc=>(G.new _ c).elim aM.o (λc=>hM aA.o.lt);clear aj ak J G u bH O ax aA w;obtain⟨b3,a2,a6,b8,b5⟩:=nN;have bS:=C.c3;have cF:=C.fr 3;have aN:=C.lt;have cr:R<=y.heap.size:=hM C.sz
  obtain⟨a4,bV,e4⟩:=jH C.r4;have af:V (bi.ownBlock≠some P/\bi.ownBlock≠some _):=⟨C.np.2.2.2,λc=>cj (.inr (.inr (.inr (.inr c))))⟩
  exact qhi):Zp:=h
theorem cX.qhd(h:Zp:=by
 have bU:V _:=F;have ar:V _:=b4;clear h H F b4 N;exact qhs):Zp:=h
theorem cX.qhj(h:Zp:=by
 go_upto_region 50 with fail
 go_region_law
  ((refine step_append_lies _ rfl _ _ _ rfl R 147 _ _ 5 _ underlying96 a2 a6 b8 b5 rfl xab _ _ _ (by simp[Act.eval]) (me aZ.o 1 _) _ 1 1 (Bc.cells ⟨_,_,_,_,0,0,_,0,0⟩) (by simp[Act.eval]) rfl (IC _ _ _) (Oh _) xab (by unfold maxLen;omega) xaa yag _ rfl ?_;intro g9 cap9 bg bQ a0 cd bO;have aT:=lJ a0 aN af.o.1 bS;have bG:=far2 a0 aN af.o.1 cF;have ao:=lJ a0 ch af.o.2 aY))
 all_goals
  have al:=cd.imp id (λe=>Nat.le_of_eq e.symm)
  have aK:=(ez 0 0 y (.cells #[eN Q,.bool false,hD v,.slice none 0 0,.slice none 0 0] 147)).trans (eK 0 0 _ 1)
  obtain⟨(U:V _),aa⟩:=(bn.o.keep aK).nms_ (d:=.val Q v) (n9:=aH+1) (ii a0) (by rw[yal,bu.o];rfl) (by rw[xO,xP];exact bQ) al (λ_=>⟨rfl,rfl,rfl⟩)
  have aU:V _:=(cn.o.keep aK).trans aa
  clear aa al aK bQ a0 cd bO aT bG ao
  go_wp2_with fail
  refine yaz (v:=.tuple #[]) (by simp[results,results70,go_sem]) rfl ?_
  rw[co.o]
  exact⟨rfl,_,_,_,_,_,U.o,aU.o⟩):Zp:=h
open cX in
theorem ID{W}(H:TrIn W P R u1 u2 u3 u4 bs st none 0 [] g off m cap (k::n::q::ts))(N:k.sym=J9)(F:Pr 2 [e] ts)(h:iQ f st (.letS n e)=some r):
  Calls prog 70 #[hB P,.slice (some ⟨g,off,none⟩) m cap] W (StO W P R u1 u2 u3 u4 r):=by
 have ab:=jk F;have b4:=jz F (λt ht=>H.ti t (by simp[ht])) e xac;have aq:=H.tk.len;simp only[yaq]at aq;exact qfu
