import Derived.Test.YtamokkcfibdghaaGreatP41
import Derived.Test.YtamokkcfibdghaaGreatP43
namespace Go.Proofs.Z
variable {Zp:Prop}
open Tryz Go.RowKit Flt
set_option maxRecDepth 1000000
set_option maxHeartbeats 0
section
theorem K8(w bc bd ag Y c1 U c2 Z c3 s x ins vs outs)(f:GS w bc Y (some ⟨ag,0,none⟩) U bd Z ins vs outs)(cW:VA w ag U vs)(bP:Y<=1000000)(b8:U<=2000)(cx:Z<=1000000)(P:(List.range U).all (okV ins vs)=true)(cD:fe vs<=50000)(ad:s<U)(au:x<U):
  Calls prog 139 #[eZ bc Y c1 (some ⟨ag,0,none⟩) U c2 bd Z c3,hI s,hI x] w λe J=>uY w J Y Z ins outs (grM vs s x) e/\Kept 0 0 w J:=by
 cases G:(jC vs x (s-x)).getD s false with
 |false=>exact xT w _ _ _ _ _ _ _ _ _ s x _ _ _ f cW bP b8 cx P cD ad au G
 |true=>exact Ae w _ _ _ _ _ _ _ _ _ s x _ _ _ f cW bP b8 cx P cD ad au G
theorem WS.grad{W P I am al ar X bs st}(h:WS W P I am al ar X bs st)(g:Gd st){s x}(ad:s<st.vs.length)(au:x<st.vs.length):
  ∃a1 bI ag bJ a3 cb,am=.slice a1 st.ins.length bI/\al=hH ag st.vs.length bJ/\ar=.slice a3 st.outs.length cb/\
   (Calls prog 139 #[eZ a1 st.ins.length bI (some ⟨ag,0,none⟩) st.vs.length bJ a3 st.outs.length cb,hI s,hI x] W λe J=>uY W J st.ins.length st.outs.length st.ins st.outs (grM st.vs s x) e/\Kept 0 0 W J)/\
   ∀t:Nat,Calls prog 141 #[eZ a1 st.ins.length bI (some ⟨ag,0,none⟩) st.vs.length bJ a3 st.outs.length cb,hI s,hI x,hI t] W λe J=>uY W J st.ins.length st.outs.length st.ins st.outs (j9 st.vs s x t) e/\Kept 0 0 W J:=by
 obtain⟨ag,bJ,a9,_,_,_,a8⟩:=ng h.r2 xaa rfl;obtain⟨a1,bI,a2,aY,a3,cb,ae,bG,ak,u⟩:=h.gs g.k;rw[a9]at bG;cases bG;have hi:=g.i;have av:=g.o;exact⟨_,_,_,_,_,_,ae,a9,ak,K8 W _ _ _ _ _ _ _ _ _ s x _ _ _ u a8 xaa g.n xaa g.ok g.c ad au,λt=>Oc W _ _ _ _ _ _ _ _ _ s x t _ _ _ u a8 xaa g.n xaa g.ok g.c ad au⟩
end
section
attribute [local go_sem] eG eE eD
def Im (k:Tok)(q:Rs Nat)(r1:Rs (LSt×Nat)):Rs (LSt×Nat):=match q with
 |.error f=>.error f
 |.ok v=>match r1 with
  |.error f=>.error f
  |.ok (s,a)=>pE s k a v
theorem bD.qbq(h:Zp:=by
 have cd:V _:=cF.o.keepC bp.chg aP.o;obtain⟨bu,cv,a9,b7,aV⟩:=aM.lenc G;have ad:V _:=(Mv.of bN.o).trans bp;have ai:V _:=aM;have bD:=cd.o.c0;have d1:=cd.o.c1;have bF:=w.g.n;have a8:=aM.c1;rw[a9]at a8;have aJ:V (r=pE s ⟨[103,114,97,100],K,z⟩ a v):=HR.o;clear HR av cF s0 bp;by_cases B:fg s a=1
 ·obtain⟨a1,bI,ag,bJ,a3,cb,ae,bG,ak,cl,_⟩:=aM.grad w.g G au;obtain⟨bn,cf,cS⟩:=zR w.g.v G au B;obtain⟨j,hj⟩:∃j:Nat,(grM s.vs a v).2=(j:Int):=⟨_,(Int.toNat_of_nonneg cf.1).symm⟩
  have a6:V (r=if kM (grM s.vs a v).1=true then .error (5,K)else .ok ({s with vs:=(grM s.vs a v).1},j)):=by
   show r=_;rw[aJ.o];unfold pE;rw[hJ (by simpa using B)];unfold iV;rw[hj,Int.toNat_natCast]
  have b4:∀k,k<(grM s.vs a v).1.length->_:=λk O=>iu (bn.1 k O);rw[a9]at bG;cases bG;subst ae a9 ak;have bk:=aM.c0;have p2:=aM.c2;have bU:V _:=cl;have bY:=bn.2;generalize grM s.vs a v=M at*;obtain⟨S,Y⟩:=M;simp only at hj b4 bY a6;subst hj
  have bP:V (∀W' N d1 a2 cap ab d3,Kept 0 0 aX W'->W'.ownsRow aX.heap.size 3 1 (.slice N s.ins.length d1) s.ins.length (s.ins.map (Value.int .i64))->W'.ownsRow aX.heap.size 53 6 (.slice a2 S.length cap) S.length (fQ S)->W'.ownsRow aX.heap.size 3 1 (.slice ab s.outs.length d3) s.outs.length (s.outs.map (Value.int .i64))->Apart (.slice N s.ins.length d1) (.slice ab s.outs.length d3)->Calls prog 140 #[hG P,eZ N s.ins.length d1 a2 S.length cap ab s.outs.length d3,hI j,hI K] W' λe aG=>(∃x:Int,e=.returned (hI x))/\V (TrO W P I am al ar X bs r e aG)):=λW' N d1 a2 cap ab d3 ap aO aR b2 bK=>yai (qP aM ap aO aR b2 bK bY b4 j K) (λe aG t=>⟨t.ret,by
   show TrO W P I am al ar X bs r e aG
   rw[a6.o]
   exact TrO.after ad.o t⟩)
  clear cl aM aJ a6 a5 cj bx ai bn cf cS b4 bY w ad aP bN;rw[B]at aV;generalize s.vs.length=bQ at*;generalize s.ins.length=cB at*;generalize s.outs.length=cD at*;go_upto_region 20 with (go_at_call 139;refine yai bU.o ?_;rintro e bm ⟨⟨N,aS,ab,ba,a2,aF,rfl,aO,aR,b2,bK⟩,bZ⟩);have g:=(cd.o.keep bZ).c1;have bH:V (∀W',Kept 0 0 bm W'->_):=λW' ap=>bP.o W' N aS a2 aF ab ba (bZ.trans ap) (e8 aO ap) (e8 aR ap) (e8 b2 ap) bK;have cQ:V (∀W',Kept 0 0 bm W'->_):=λW' ap=>(cd.o.keep (bZ.trans ap)).c1;clear aO aR b2 bK bP bU aV bk a8 p2 bD d1;have d2:=cQ.o _ (ez 0 0 bm (eY N cB aS a2 S.length aF ab cD ba));have n:V _:=bH.o _ (ez 0 0 bm (eY N cB aS a2 S.length aF ab cD ba));go_wp2_with (go_at_call 140;refine yai n.o ?_;rintro e ck ⟨⟨x,rfl⟩,bi⟩);go_ret;exact bi.o
 have aa:V (r=.error (4,K)):=aJ.o.trans (hK B);have bj:=yaw B;have b3:V _:=jK aM.c5 aM.c6 aM.fr 4 K (Mst P bc bd bg Z) (.inl rfl);clear aM aJ a5 cj bx ai;generalize fg s a=l at aV B bj;generalize s.vs.length=bQ at*;go_wp2_with (go_at_call 92;refine yai b3.o ?_;rintro e bm ⟨rfl,F⟩);go_ret;rw[aa.o];exact⟨rfl,F.c5,F.c6,ad.o.bad F.chg⟩):Zp:=h
theorem bD.qes(h:Zp:=by
 rcases aC with⟨c,p⟩|⟨s,a⟩
 ·exact xhq
 exact qhf):Zp:=h
open bD in
theorem Bv{W P I am al ar X bs st bh Q cL u}(h:WS W P I am al ar X bs st)(az:st.names.length<=5000)(bO:LcR (Mst P am al ar X) W bh Q u)(hn:Q<=5000)(K z){b0 ah bR q o b5 c0 aO b1 c1}(aj)(cr:2<=ah)(aw:b0<W.heap.size)(aT:W.cell? ⟨b0,0,none⟩=some (.slice (some ⟨q,o,none⟩) b5 c0))(cA:Sg1 W b0 1 aO b1 c1 aj)(aC)(bq:(∃v,fD st u aj=.ok v)->RsG st aC)(aL:∀v,fD st u aj=.ok v->v<st.vs.length)
  (bl:(∃v,fD st u aj=.ok v)->∀W',Kept 0 0 W W'->Calls prog 93 #[hG P,.slice bh Q cL,.slice (some ⟨q,o,none⟩) b5 c0] W' (TrO W' P I am al ar X bs aC)):
  Calls prog 128 #[hG P,.slice bh Q cL,jb ⟨[103,114,97,100],K,z⟩,hH b0 ah bR] W (TrO W P I am al ar X bs (Im ⟨[103,114,97,100],K,z⟩ (fD st u aj) aC)):=by
 have aI:V _:=it W [103,114,97,100] K z;have HK:V _:=ez 0 0 W (.cells #[eN [103,114,97,100],hI K,eN z] 84);have aP:V _:=h.far;have aq:V (∀W',Kept 0 0 W W'->_):=λW' ap=>(ap.cell (p:=⟨b0,0,none⟩) aw xaa).trans aT;have a7:V _:=cA;have bT:V (∀W',Kept 0 0 W W'->_):=λW' ap=>xZ (h.keep ap) az bh Q cL u (bO.keep ap) hn aj;have i:V _:=bl;have a5:V _:=bq;have cj:V _:=aL;have bx:V _:=h;obtain⟨r,ay⟩:∃r,r=Im ⟨[103,114,97,100],K,z⟩ (fD st u aj) aC:=⟨_,rfl⟩
 rw[<-ay];have HR:V _:=ay;clear ay h bq bl aT cA aL bO az;unfold jb at bT⊢;obtain⟨xs,ea,cx⟩:=aj;simp only at bT⊢;go_enter func128,ntmps128;go_upto_region 2 with fail;change Code.wp _ _ _ _ (W.alloc (.cells #[eN [103,114,97,100],hI K,eN z] 84));generalize W.alloc (.cells #[eN [103,114,97,100],hI K,eN z] 84)=aD at aI HK⊢;generalize W.heap.size=bL at aI aP⊢;have f:V _:=bT.o aD HK.o;obtain⟨ax,aN,bC,cp⟩:=(a7.o.keep HK.o).cells;simp only at aN bC cp;have bb:=aI.o.c0;clear bT a7;generalize fD st u ⟨xs,ea,cx⟩=d0 at f HR cj i a5;rcases d0 with⟨c,p⟩|v
 ·exact xes
 exact qer
end
section
theorem Bw{f st u k x a r}(h:eP (f+1) st u (.grad k a x)=some r):∃aC,r=Im k (fD st u x) aC/\(∀v,fD st u x=.ok v->eP f st u a=some aC):=by
 rw[eP]at h;cases aL:fD st u x with
 |error q=>rw[aL]at h;cases h;exact⟨.error q,rfl,λv e=>by cases e⟩
 |ok v=>
  rw[aL]at h;simp only at h;cases B:eP f st u a with
  |none=>rw[B]at h;cases h
  |some aC=>
   rw[B]at h;rcases aC with⟨c,p⟩|⟨ax,y⟩
   ·cases h;exact⟨_,rfl,λ_ _=>rfl⟩
   cases h;exact⟨_,rfl,λ_ _=>rfl⟩
section
variable {f:Nat}{W:World}{P I:Nat}{am al ar X:Value}{bs:List Bc}{st:LSt}{bh:Option Addr}{Q cL:Nat}{u:Loc}{g off m cap:Nat}{ts:List Tok}{a:Ex}{r:Rs (LSt×Nat)}
theorem dF.qen(h:Zp:=by
 have bl:(∃v,fD st u n=.ok v)->∀aG,Kept 0 0 W' aG->_:=λJ aG ao=>
  aj aG P I am al ar X bs st bh Q cL u g o ts.length c0 ts ⟨H.ws.keep (ap.trans ao),H.gd,H.nm,H.lc.keep (ap.trans ao),H.ln,H.lo,c2.keep ao,H.tg,hR H.m5,c3,λt ht=>H.ti t (by simp[ht]),λt ht=>H.tn t (by simp[ht])⟩ 2 a G yad aC (J.elim ae)
 have bq:(∃v,fD st u n=.ok v)->_:=λJ=>gC f st u a H.gd H.nm H.lo b1 aC (J.elim ae);obtain⟨ay,K,z⟩:=k;simp only at O;subst O;exact Bv (H.ws.keep ap) H.gd.m (H.lc.keep ap) H.ln K z n yad aw c1 ⟨aw,ak,c2'⟩ aC bq (λv aL=>oF H.nm H.lo aL) bl):Zp:=h
theorem dF.qgm(h:Zp:=by
 exact qhw):Zp:=h
theorem dF.qhx(h:Zp:=by
 have aQ:∀x:List UInt8,x≠BU->(k.sym==x)=false:=λx B=>by
  rw[beq_eq_false_iff_ne]
  rintro rfl
  exact B O
 refine ll H (Pr.grad O ah G ai hn aq) (aQ _ xab) (aQ _ xab) (aQ _ xab) (aQ _ xab) (aQ _ xab) xaa (ts++c::[n]) aJ (by rw[pe (X:=[ts]) (y:=[n]) xac U _ yaf];simp) _ (λW' aW cc ap aT=>?_);exact qem):Zp:=h
open dF in
theorem EF{k l c n q}(aj:TrC f)(H:TrIn W P I am al ar X bs st bh Q u g off m cap (k::l::(ts++[c,n,q])))(O:k.sym=BU)(ah:l.sym=[40])(G:Pr 2 [a] ts)(ai:c.sym=[44])(hn:n.sym=gS)(aq:q.sym=[41])(h:eP (f+1) st u (.grad k a n)=some r):
  Calls prog 93 #[hG P,.slice bh Q cL,.slice (some ⟨g,off,none⟩) m cap] W (TrO W P I am al ar X bs r):=by
 obtain⟨aC,rfl,ae⟩:=Bw h;exact qgl
end
end
section
attribute [local go_sem] eG eE eD
variable {k:Tok}{st:LSt}{a x d:Nat}
def PF (k:Tok)(a v:Nat)(r2:Rs (LSt×Nat)):Rs (LSt×Nat):=match r2 with
 |.error f=>.error f
 |.ok (s2,y)=>pP s2 k a v y
def Od (k:Tok)(q:Rs Nat)(r1 r2:Rs (LSt×Nat)):Rs (LSt×Nat):=match q with
 |.error f=>.error f
 |.ok v=>match r1 with
  |.error f=>.error f
  |.ok (_,a)=>PF k a v r2
def PH (k:Tok)(a v:Nat)(r3:Rs (LSt×Nat)):Rs (LSt×Nat):=match r3 with
 |.error f=>.error f
 |.ok (s3,d)=>iV s3 (j9 s3.vs a v d) k.pos
theorem EG(B:fg st d=1)(R:1<fg st x):pP st k a x d=PH k a x (fZ st (eL 10 (fg st x) (d:Int) 0 0) k.pos):=by
 unfold pP;rw[hK ⟨B,R⟩];rfl
theorem In(B:fg st d≠1)(R:fg st d≠fg st x):pP st k a x d=.error (4,k.pos):=by
 unfold pP;rw[hJ (λc=>B c.1),hK R]
theorem vQ(B:¬(fg st d=1/\1<fg st x))(R:fg st d=fg st x):pP st k a x d=iV st (j9 st.vs a x d) k.pos:=by
 unfold pP;rw[hJ B,hJ (λc=>c R)]
theorem bE.qbq(h:Zp:=by
 have cd:V _:=cF.o.keepC bp.chg aP.o;have cT:V (¬Mst P bc bd bg Z bL):=λc=>(bp.new bL c).elim aP.o (λc=>hR cF.o.lt);obtain⟨bu,cv,a9,b7,aV⟩:=aM.lenc G;have ad:V _:=(Mv.of bN.o).trans bp;have bD:=cd.o.c0;have bF:=w.g.n;have a8:=aM.c1;rw[a9]at a8;have aN:=cz.o aX _ ad.o;have aJ:V (r=PF ⟨[106,118,112],K,z⟩ a v a0):=HR.o;have cJ:V _:=cH.o ⟨v,rfl⟩ s a rfl aX bc bd bg Z aM ad.o;have cM:V _:=cw.o ⟨v,rfl⟩ s a rfl;clear HR av cF s0 bp aM cH cw a5 cj aP bN a9 b7 cz;generalize fg s a=l at aV;generalize c9:s.vs.length=bQ at*;go_upto_region 22 with fail;clear aV a8;rcases a0 with⟨c,p⟩|⟨g,y⟩
 ·go_wp2_with (go_at_call 93;refine yai cJ.o ?_;rintro e bm ⟨rfl,bi⟩);go_ret;rw[aJ.o];exact TrO.after ad.o ⟨rfl,bi⟩
 obtain⟨bX,bV⟩:=cM.o g y rfl;subst c9;have cg:=yaj au bX.n;have c7:=yaj G bX.n;have cV:¬((y:Int)<0):=xaa;clear bF;generalize s.vs.length=bQ at*;go_upto_region 25 with (go_at_call 93;refine yai cJ.o ?_;rintro e bm ⟨rfl,aZ,be,bz,bE,bv,bB⟩);have ch:V _:=cd.o.keepC bB.chg cT.o;have cW:V (¬Mst P aZ be bz bE bL):=λc=>(bB.new bL c).elim cT.o (λc=>hR cd.o.lt);have cq:V _:=ad.o.trans bB;have aH:V (r=pP g ⟨[106,118,112],K,z⟩ a v y):=aJ.o;have cI:=bX.g;have dg:=cI.lenB cg;obtain⟨ep,ek,e4,ei,di⟩:=bv.lenc cg;obtain⟨er,en,bx,_,dp⟩:=bv.lenc bV;rw[e4]at bx;cases bx;have a8:=bv.c1;rw[e4]at a8;have bF:=cI.n;have N:=ch.o.c1;clear cJ aJ bB ad cd cT cM bD aN bX ei;by_cases B:fg g y=1
 ·by_cases R:1<fg g v
  ·have aW:V _:=EG (k:=⟨[106,118,112],K,z⟩) (a:=a) B R;have a6:V (r=PH ⟨[106,118,112],K,z⟩ a v (fZ g (eL 10 (fg g v) (y:Int) 0 0) K)):=aH.o.trans aW.o;have ct:V _:=λbC d2 (aK:fZ g (eL 10 (fg g v) (y:Int) 0 0) K=.ok (bC,d2))=>oE cI (cI.v.p10 dg (by have dd:=jX bV;rw[B]at dd;exact dd)) aK;have bM:V (∀W',Kept 0 0 bm W'->Calls prog 96 #[hG P,(eL 10 (fg g v) (y:Int) 0 0).agg,hI K] W' λe aG=>V (TrO bm P I aZ be bz bE bs (fZ g (eL 10 (fg g v) (y:Int) 0 0) K) e aG)/\(∃x:Int,e=.returned (hI x))/\aG.cell? ⟨bL,1,none⟩=some (hI K)):=λW' ap=>yai (mo (bv.keep ap) cI (eL 10 (fg g v) (y:Int) 0 0) dg yag K) (λe aG t=>⟨TrO.back ap t,t.ret,(t.chg.cell (p:=⟨bL,1,none⟩) (ch.o.keep ap).lt cW.o).trans (ch.o.keep ap).c1⟩);have cG:V (∀bC,Gw g bC->_):=λbC aB=>aB.l v cg;rw[B]at dp;clear aH aW;generalize c8:fZ g (eL 10 (fg g v) (y:Int) 0 0) K=ai at a6 ct bM;clear c8;generalize eB:fg g v=cu at*;clear eB;clear bv;subst e4;rcases ai with⟨c,p⟩|⟨bC,d2⟩
   ·generalize g.vs.length=eb at*;go_upto_region 27 with fail;clear di dp a8
    go_region_held3 (λJ=>J.cell? ⟨bL,1,none⟩=some (hI K)) (go_keep)
     (first
      |(go_at_call 34;refine yai (gQ _ _ _ _ _ _) ?_;rintro e ck ⟨rfl,b6⟩;have aQ:=(ch.o.keep ((eF bm).trans b6)).c1)
      |(go_at_call 96;refine yai (bM.o _ ((eF bm).trans b6)) ?_;rintro e cc ⟨bi,⟨_,_⟩,br⟩;obtain rfl:=bi.o.1))
    all_goals (
     go_wp2_with fail
     go_ret
     rw[a6.o]
     exact TrO.after cq.o ⟨rfl,bi.o.2⟩)
   obtain⟨aB,cU,co⟩:=ct.o bC d2 rfl;have hd0:¬((d2:Int)<0):=xaa;have cN:=yaj c7 aB.n;have cP:=yaj cg aB.n;have eg:=cG.o bC aB;have H:=aB.g;have cy:V (r=iV bC (j9 bC.vs a v d2) K):=a6.o
   have bf:Ln bC.vs (d2:Int) (jA bC.vs (v:Int)):=by
    have b8:=jX cU;rw[jw,show(bC.vs.getD v hM).len=fg bC v from rfl,eg,<-(show fg bC d2=cu from co)];exact b8
   have c6:fg bC d2=cu:=co;clear a6 ct cG aB co eg dg;generalize g.vs.length=eb at*;go_upto_region 27 with fail;clear di dp a8
   go_region_held3 (λJ=>J.cell? ⟨bL,1,none⟩=some (hI K)) (go_keep)
    (first
     |(go_at_call 34;refine yai (gQ _ _ _ _ _ _) ?_;rintro e ck ⟨rfl,b6⟩;have aQ:=(ch.o.keep ((eF bm).trans b6)).c1)
     |(go_at_call 96;refine yai (bM.o _ ((eF bm).trans b6)) ?_;rintro e cc ⟨bi,⟨_,_⟩,br⟩;obtain rfl:=bi.o.1))
   all_goals (
    obtain⟨_,aU,aY,bW,b9,C,ds⟩:=bi.o
    have cn:V _:=cq.o.trans ds
    have ci:V _:=ch.o.keepC ds.chg cW.o
    clear bi ds cq ch bM
    obtain⟨a1,bI,ag,bJ,a3,cb,ae,bG,ak,_,cO⟩:=C.grad H cN cP
    have cl:=cO d2
    obtain⟨bn,cf,cS⟩:=mY H.v cN cP bf
    obtain⟨j,hj⟩:∃j:Nat,(j9 bC.vs a v d2).2=(j:Int):=⟨_,(Int.toNat_of_nonneg cf.1).symm⟩
    have a6:V (r=if kM (j9 bC.vs a v d2).1=true then .error (5,K)else .ok ({bC with vs:=(j9 bC.vs a v d2).1},j)):=by
     show r=_
     rw[cy.o]
     unfold iV
     rw[hj,Int.toNat_natCast]
    have b4:∀k,k<(j9 bC.vs a v d2).1.length->_:=λk O=>iu (bn.1 k O)
    obtain⟨ee,ed,bZ,_,cK⟩:=C.lenc cU
    rw[bZ]at bG
    cases bG
    rw[c6]at cK
    have bk:=C.c0
    have a8:=C.c1
    have p2:=C.c2
    subst ae bZ ak
    have bU:V _:=cl
    have bY:=bn.2
    generalize j9 bC.vs a v d2=cX at*
    obtain⟨S,Y⟩:=cX
    simp only at hj b4 bY a6
    subst hj
    have bP:V (∀W' N d1 a2 cap ab d3,Kept 0 0 cc W'->W'.ownsRow cc.heap.size 3 1 (.slice N bC.ins.length d1) bC.ins.length (bC.ins.map (Value.int .i64))->W'.ownsRow cc.heap.size 53 6 (.slice a2 S.length cap) S.length (fQ S)->W'.ownsRow cc.heap.size 3 1 (.slice ab bC.outs.length d3) bC.outs.length (bC.outs.map (Value.int .i64))->Apart (.slice N bC.ins.length d1) (.slice ab bC.outs.length d3)->Calls prog 140 #[hG P,eZ N bC.ins.length d1 a2 S.length cap ab bC.outs.length d3,hI j,hI K] W' λe aG=>(∃x:Int,e=.returned (hI x))/\V (TrO W P I am al ar X bs r e aG)):=λW' N d1 a2 cap ab d3 ap aO aR b2 bK=>yai (qP C ap aO aR b2 bK bY b4 j K) (λe aG t=>⟨t.ret,by
     show TrO W P I am al ar X bs r e aG
     rw[a6.o]
     exact TrO.after cn.o t⟩)
    clear cl cO C cy a6 bn cf cS b4 bY H cn bf
    generalize bC.vs.length=ec at*
    generalize bC.ins.length=cB at*
    generalize bC.outs.length=cD at*
    go_upto_region 33 with (go_at_call 141;refine yai bU.o ?_;rintro e m ⟨⟨N,aS,ab,ba,a2,aF,rfl,aO,aR,b2,bK⟩,cC⟩)
    have bH:V (∀W',Kept 0 0 m W'->_):=λW' ap=>bP.o W' N aS a2 aF ab ba (cC.trans ap) (e8 aO ap) (e8 aR ap) (e8 b2 ap) bK
    have cQ:V (∀W',Kept 0 0 m W'->_):=λW' ap=>(ci.o.keep (cC.trans ap)).c1
    clear aO aR b2 bK bP bU cK bk a8 p2
    have d2:=cQ.o _ (ez 0 0 m (eY N cB aS a2 S.length aF ab cD ba))
    have n:V _:=bH.o _ (ez 0 0 m (eY N cB aS a2 S.length aF ab cD ba))
    go_wp2_with (go_at_call 140;refine yai n.o ?_;rintro e bo ⟨⟨x,rfl⟩,bi⟩)
    go_ret
    exact bi.o)
  have dv:fg g v=1:=xaa;have cy:V (r=iV g (j9 g.vs a v y) K):=aH.o.trans (vQ (λc=>R c.2) (B.trans dv.symm))
  have bf:Ln g.vs (y:Int) (jA g.vs (v:Int)):=by
   have b8:=jX bV;rw[jw,show(g.vs.getD v hM).len=fg g v from rfl,dv,<-B];exact b8
  rw[B]at dp;rw[dv]at di;have c6:=B;have cU:=bV;have cN:=c7;have cP:=cg;have H:=cI;have C:=bv;have cn:V _:=cq.o;have ci:V _:=ch.o;clear aH bv cq ch dg cI;obtain⟨a1,bI,ag,bJ,a3,cb,ae,bG,ak,_,cO⟩:=C.grad H cN cP;have cl:=cO y;obtain⟨bn,cf,cS⟩:=mY H.v cN cP bf;obtain⟨j,hj⟩:∃j:Nat,(j9 g.vs a v y).2=(j:Int):=⟨_,(Int.toNat_of_nonneg cf.1).symm⟩
  have a6:V (r=if kM (j9 g.vs a v y).1=true then .error (5,K)else .ok ({g with vs:=(j9 g.vs a v y).1},j)):=by
   show r=_;rw[cy.o];unfold iV;rw[hj,Int.toNat_natCast]
  have b4:∀k,k<(j9 g.vs a v y).1.length->_:=λk O=>iu (bn.1 k O);obtain⟨ee,ed,bZ,_,cK⟩:=C.lenc cU;rw[bZ]at bG;cases bG;rw[c6]at cK;have bk:=C.c0;have a8:=C.c1;have p2:=C.c2;subst ae bZ ak;(try cases‹hH _ _ _=hH _ _ _›);have bU:V _:=cl;have bY:=bn.2;generalize j9 g.vs a v y=cX at*;obtain⟨S,Y⟩:=cX;simp only at hj b4 bY a6;subst hj
  have bP:V (∀W' N d1 a2 cap ab d3,Kept 0 0 bm W'->W'.ownsRow bm.heap.size 3 1 (.slice N g.ins.length d1) g.ins.length (g.ins.map (Value.int .i64))->W'.ownsRow bm.heap.size 53 6 (.slice a2 S.length cap) S.length (fQ S)->W'.ownsRow bm.heap.size 3 1 (.slice ab g.outs.length d3) g.outs.length (g.outs.map (Value.int .i64))->Apart (.slice N g.ins.length d1) (.slice ab g.outs.length d3)->Calls prog 140 #[hG P,eZ N g.ins.length d1 a2 S.length cap ab g.outs.length d3,hI j,hI K] W' λe aG=>(∃x:Int,e=.returned (hI x))/\V (TrO W P I am al ar X bs r e aG)):=λW' N d1 a2 cap ab d3 ap aO aR b2 bK=>yai (qP C ap aO aR b2 bK bY b4 j K) (λe aG t=>⟨t.ret,by
   show TrO W P I am al ar X bs r e aG
   rw[a6.o]
   exact TrO.after cn.o t⟩)
  clear cl cO C cy a6 bn cf cS b4 bY H cn bf;exact xcj
 by_cases R:fg g y=fg g v
 ·have cy:V (r=iV g (j9 g.vs a v y) K):=aH.o.trans (vQ (λc=>B c.1) R)
  have bf:Ln g.vs (y:Int) (jA g.vs (v:Int)):=by
   have b8:=jX bV;rw[jw,show(g.vs.getD v hM).len=fg g v from rfl,<-R];exact b8
  rw[<-R]at di;have c6:fg g y=fg g y:=rfl;have cU:=bV;have cN:=c7;have cP:=cg;have H:=cI;have C:=bv;have bj:=yaw B;have cn:V _:=cq.o;have ci:V _:=ch.o;clear aH bv cq ch dg cI;obtain⟨a1,bI,ag,bJ,a3,cb,ae,bG,ak,_,cO⟩:=C.grad H cN cP;have cl:=cO y;obtain⟨bn,cf,cS⟩:=mY H.v cN cP bf;obtain⟨j,hj⟩:∃j:Nat,(j9 g.vs a v y).2=(j:Int):=⟨_,(Int.toNat_of_nonneg cf.1).symm⟩
  have a6:V (r=if kM (j9 g.vs a v y).1=true then .error (5,K)else .ok ({g with vs:=(j9 g.vs a v y).1},j)):=by
   show r=_;rw[cy.o];unfold iV;rw[hj,Int.toNat_natCast]
  have b4:∀k,k<(j9 g.vs a v y).1.length->_:=λk O=>iu (bn.1 k O);obtain⟨ee,ed,bZ,_,cK⟩:=C.lenc cU;rw[bZ]at bG;cases bG;rw[c6]at cK;have bk:=C.c0;have a8:=C.c1;have p2:=C.c2;subst ae bZ ak;(try cases‹hH _ _ _=hH _ _ _›);have bU:V _:=cl;have bY:=bn.2;generalize j9 g.vs a v y=cX at*;obtain⟨S,Y⟩:=cX;simp only at hj b4 bY a6;subst hj
  have bP:V (∀W' N d1 a2 cap ab d3,Kept 0 0 bm W'->W'.ownsRow bm.heap.size 3 1 (.slice N g.ins.length d1) g.ins.length (g.ins.map (Value.int .i64))->W'.ownsRow bm.heap.size 53 6 (.slice a2 S.length cap) S.length (fQ S)->W'.ownsRow bm.heap.size 3 1 (.slice ab g.outs.length d3) g.outs.length (g.outs.map (Value.int .i64))->Apart (.slice N g.ins.length d1) (.slice ab g.outs.length d3)->Calls prog 140 #[hG P,eZ N g.ins.length d1 a2 S.length cap ab g.outs.length d3,hI j,hI K] W' λe aG=>(∃x:Int,e=.returned (hI x))/\V (TrO W P I am al ar X bs r e aG)):=λW' N d1 a2 cap ab d3 ap aO aR b2 bK=>yai (qP C ap aO aR b2 bK bY b4 j K) (λe aG t=>⟨t.ret,by
   show TrO W P I am al ar X bs r e aG
   rw[a6.o]
   exact TrO.after cn.o t⟩)
  clear cl cO C cy a6 bn cf cS b4 bY H cn bf;generalize fg g y=ej at*;exact xcj
 have aa:V (r=.error (4,K)):=aH.o.trans (In B R);have bj:=yaw B;have ce:=yaw R;have b3:V _:=jK bv.c5 bv.c6 bv.fr 4 K (Mst P aZ be bz bE) (.inl rfl);clear bv aH;subst e4;generalize fg g y=ej at*;generalize fg g v=cu at*;generalize g.vs.length=eb at*;go_wp2_with (go_at_call 92;refine yai b3.o ?_;rintro e bA ⟨rfl,F⟩);go_ret;rw[aa.o];exact⟨rfl,F.c5,F.c6,cq.o.bad F.chg⟩):Zp:=h
theorem bE.qes(h:Zp:=by
 rcases aC with⟨c,p⟩|⟨s,a⟩
 ·exact xhq
 exact qhf):Zp:=h
open bE in
theorem EH{W P I am al ar X bs bh Q cL u}(h:WS W P I am al ar X bs st)(az:st.names.length<=5000)(bO:LcR (Mst P am al ar X) W bh Q u)(hn:Q<=5000)(K z){b0 ah bR q o b5 c0 aO b1 c1 aR bS U c2}(aj)(cr:3<=ah)(aw:b0<W.heap.size)(ef:¬Mst P am al ar X b0)(aT:W.cell? ⟨b0,0,none⟩=some (.slice (some ⟨q,o,none⟩) b5 c0))(cA:Sg1 W b0 1 aO b1 c1 aj)(aA:W.cell? ⟨b0,2,none⟩=some (.slice (some ⟨aR,bS,none⟩) U c2))(aC a0)(bq:(∃v,fD st u aj=.ok v)->RsG st aC)(aL:∀v,fD st u aj=.ok v->v<st.vs.length)(an:(∃v,fD st u aj=.ok v)->∀s a,aC=.ok (s,a)->RsG s a0)
  (bl:(∃v,fD st u aj=.ok v)->∀W',Kept 0 0 W W'->Calls prog 93 #[hG P,.slice bh Q cL,.slice (some ⟨q,o,none⟩) b5 c0] W' (TrO W' P I am al ar X bs aC))
  (bw:(∃v,fD st u aj=.ok v)->∀s a,aC=.ok (s,a)->∀W' aZ be bz bE,WS W' P I aZ be bz bE bs s->Mv (Mst P am al ar X) W (Mst P aZ be bz bE) W'->Calls prog 93 #[hG P,.slice bh Q cL,.slice (some ⟨aR,bS,none⟩) U c2] W' (TrO W' P I aZ be bz bE bs a0)):
  Calls prog 128 #[hG P,.slice bh Q cL,jb ⟨[106,118,112],K,z⟩,hH b0 ah bR] W (TrO W P I am al ar X bs (Od ⟨[106,118,112],K,z⟩ (fD st u aj) aC a0)):=by
 have aI:V _:=it W [106,118,112] K z;have HK:V _:=ez 0 0 W (.cells #[eN [106,118,112],hI K,eN z] 84);have aP:V _:=h.far;have aq:V (∀W',Kept 0 0 W W'->_):=λW' ap=>(ap.cell (p:=⟨b0,0,none⟩) aw xaa).trans aT;have a7:V _:=cA;have cz:V (∀W' M',Mv (Mst P am al ar X) W M' W'->_):=λW' M' ap=>(ap.chg.cell (p:=⟨b0,2,none⟩) aw ef).trans aA;have bT:V (∀W',Kept 0 0 W W'->_):=λW' ap=>xZ (h.keep ap) az bh Q cL u (bO.keep ap) hn aj;have i:V _:=bl;have cH:V _:=bw;have a5:V _:=bq;have cw:V _:=an;have cj:V _:=aL;obtain⟨r,ay⟩:∃r,r=Od ⟨[106,118,112],K,z⟩ (fD st u aj) aC a0:=⟨_,rfl⟩
 rw[<-ay];have HR:V _:=ay;clear ay h bq bl aT cA aA aL bO az bw an ef;unfold jb at bT⊢;obtain⟨xs,ea,cx⟩:=aj;simp only at bT⊢;go_enter func128,ntmps128;go_upto_region 2 with fail;change Code.wp _ _ _ _ (W.alloc (.cells #[eN [106,118,112],hI K,eN z] 84));generalize W.alloc (.cells #[eN [106,118,112],hI K,eN z] 84)=aD at aI HK⊢;generalize W.heap.size=bL at aI aP aw⊢;have f:V _:=bT.o aD HK.o;obtain⟨ax,aN,bC,cp⟩:=(a7.o.keep HK.o).cells;simp only at aN bC cp;have bb:=aI.o.c0;clear bT a7;generalize fD st u ⟨xs,ea,cx⟩=d0 at f HR cj i a5 cH cw;rcases d0 with⟨c,p⟩|v
 ·exact xes
 exact qer
end
section
variable {f P I n g9 n9 cap9:Nat}{ad:Type}{bo:World}{am al ar X:Value}{st:LSt}{bs:List Bc}{zs:List Int}
theorem EI{u k x a d r}(h:eP (f+1) st u (.jvp k a x d)=some r):∃aC a0,r=Od k (fD st u x) aC a0/\(∀v,fD st u x=.ok v->eP f st u a=some aC)/\(∀v,fD st u x=.ok v->∀s y,aC=.ok (s,y)->eP f s u d=some a0):=by
 rw[eP]at h;cases aL:fD st u x with
 |error q=>rw[aL]at h;cases h;exact⟨.error q,.error q,rfl,λv e=>(by cases e),λv e=>(by cases e)⟩
 |ok v=>
  rw[aL]at h;simp only at h;cases B:eP f st u a with
  |none=>rw[B]at h;cases h
  |some aC=>
   rw[B]at h;rcases aC with⟨c,p⟩|⟨ax,y⟩
   ·cases h;exact⟨_,.error (c,p),rfl,λ_ _=>rfl,λ_ _ s y e=>by cases e⟩
   simp only[jJ]at h;cases R:eP f ax u d with
   |none=>grind
   |some a0=>
    rw[R]at h;refine⟨.ok (ax,y),a0,?_,λ_ _=>rfl,λ_ _ s N e=>(by cases e;exact R)⟩;rcases a0 with⟨c,p⟩|⟨aN,z⟩<;>(cases h;rfl)
section
variable {f:Nat}{W:World}{P I:Nat}{am al ar X:Value}{bs:List Bc}{st:LSt}{bh:Option Addr}{Q cL:Nat}{u:Loc}{g off m cap:Nat}{ts us:List Tok}{a b:Ex}{r:Rs (LSt×Nat)}
theorem cS.qcz(h:Zp:=by
 have b1:=jB G (λt ht=>H.ti t (by simp[ht])) a xac;have cf:=jB hb (λt ht=>H.ti t (by simp[ht])) b xac;have cO:=tK (by rw[hn];decide) (by rw[hn];decide) (by rw[hn];decide);have U:=AY y ai cO aV Z
 have aJ:ts++c::([n]++d::us)=((k::l::(ts++c::n::d::(us++[q]))).drop 2).take (m-1-2):=by
  rw[List.drop_succ_cons,List.drop_succ_cons,List.drop_zero,show ts++c::n::d::(us++[q])=(ts++c::([n]++d::us))++[q] by simp,List.take_append_of_le_length yaf,yao yaf]
 have aQ:∀x:List UInt8,x≠JM->(k.sym==x)=false:=λx B=>by
  rw[beq_eq_false_iff_ne]
  rintro rfl
  exact B O
 refine ll H (Pr.jvp O ah G ai hn aV hb aq) (aQ _ xab) (aQ _ xab) (aQ _ xab) (aQ _ xab) (aQ _ xab) xaa (ts++c::([n]++d::us)) aJ (by rw[pe (X:=[ts,[n]]) (y:=us) xac U _ yaf];exact bT) _ (λW' aW cc ap aT=>?_);exact qem):Zp:=h
theorem cS.qen(h:Zp:=by
 obtain⟨bS,p,Y,F,R⟩:=aA 2 xac
 have bl:(∃v,fD st u n=.ok v)->∀aG,Kept 0 0 W' aG->_:=λJ aG ao=>
  aj aG P I am al ar X bs st bh Q cL u g o ts.length c0 ts (H.seg (H.ws.keep (ap.trans ao)) (Gw.refl H.gd) (Mv.of (ap.trans ao)) (c2.keep ao) xaa c3 (λt ht=>by simp[ht])) 2 a G yad aC (J.elim ae)
 have bq:(∃v,fD st u n=.ok v)->_:=λJ=>gC f st u a H.gd H.nm H.lo b1 aC (J.elim ae)
 have an:(∃v,fD st u n=.ok v)->∀s x,aC=.ok (s,x)->RsG s a0:=λJ s x e=>by
  obtain⟨w,_⟩:=bq J s x e
  obtain⟨v,aL⟩:=J
  exact gC f s u b w.g (H.nm.gw w) (H.lo.le w.n) cf a0 (a9 v aL s x e)
 have bw:(∃v,fD st u n=.ok v)->∀s x,aC=.ok (s,x)->∀aG aZ be bz bE,WS aG P I aZ be bz bE bs s->Mv (Mst P am al ar X) W' (Mst P aZ be bz bE) aG->Calls prog 93 #[hG P,.slice bh Q cL,.slice (some ⟨g,bS,none⟩) us.length p] aG (TrO aG P I aZ be bz bE bs a0):=λJ s x e aG aZ be bz bE S C=>by
  obtain⟨w,_⟩:=bq J s x e
  obtain⟨v,aL⟩:=J
  exact aj aG P I aZ be bz bE bs s bh Q cL u g bS us.length p us (H.seg S w ((Mv.of ap).trans C) (F.keepC C.chg H.tg) xaa R (λt ht=>by simp[ht])) 2 b hb yad a0 (a9 v aL s x e)
 obtain⟨ay,K,z⟩:=k;simp only at O;subst O;exact EH (H.ws.keep ap) H.gd.m (H.lc.keep ap) H.ln K z n xac aw (H.ws.far2 cu) c1 ⟨aw,ak,c2'⟩ Y aC a0 bq (λv aL=>oF H.nm H.lo aL) an bl bw):Zp:=h
open cS in
theorem Io{k l c n d q}(aj:TrC f)(H:TrIn W P I am al ar X bs st bh Q u g off m cap (k::l::(ts++c::n::d::(us++[q]))))(O:k.sym=JM)(ah:l.sym=[40])(G:Pr 2 [a] ts)(ai:c.sym=[44])(hn:n.sym=gS)(aV:d.sym=[44])(hb:Pr 2 [b] us)(aq:q.sym=[41])(h:eP (f+1) st u (.jvp k a n b)=some r):
  Calls prog 93 #[hG P,.slice bh Q cL,.slice (some ⟨g,off,none⟩) m cap] W (TrO W P I am al ar X bs r):=by
 obtain⟨aC,a0,rfl,ae,a9⟩:=EI h;exact qcy
end
theorem Ip(aj:TrC f){es ts}(aK:Pr n es ts):∀e,es=[e]->n<=2->∀(W:World) (P I:Nat) (am al ar X:Value) (bs:List Bc) (st:LSt) (bh:Option Addr) (Q cL:Nat) (u:Loc) (g off m cap:Nat),TrIn W P I am al ar X bs st bh Q u g off m cap ts->∀r,eP (f+1) st u e=some r->
  Calls prog 93 #[hG P,.slice bh Q cL,.slice (some ⟨g,off,none⟩) m cap] W (TrO W P I am al ar X bs r):=by
 induction aK with
 |up01 _ ag=>intro e ab hn;exact ag e ab xaa
 |up12 _ ag=>intro e ab hn;exact ag e ab xaa
 |arg1 _ _=>intro e ab hn;omega
 |argM _ _ _ _ _=>intro e ab hn;omega
 |add G av hb _ _=>intro e ab hn;cases ab;intro W P I am al ar X bs st bh Q cL u g off m cap H r h;exact Ho aj H G av hb h
 |mul G av hb _ _=>intro e ab hn;cases ab;intro W P I am al ar X bs st bh Q cL u g off m cap H r h;exact Hp aj H G av hb h
 |neg av G _=>intro e ab hn;cases ab;intro W P I am al ar X bs st bh Q cL u g off m cap H r h;exact Hq aj H av G h
 |num ht=>intro e ab hn;cases ab;intro W P I am al ar X bs st bh Q cL u g off m cap H r h;exact Hv H ht h
 |name ht=>intro e ab hn;cases ab;intro W P I am al ar X bs st bh Q cL u g off m cap H r h;exact Ec H ht h
 |par ah G aq ag=>intro e ab hn;cases ab;intro W P I am al ar X bs st bh Q cL u g off m cap H r h;exact Hr H ah G aq (λW' i=>ag _ rfl yad _ P I _ _ _ _ _ _ _ _ _ _ g _ _ _ i r h)
 |call0 ht ah aq=>intro e ab hn;cases ab;intro W P I am al ar X bs st bh Q cL u g off m cap H r h;exact Bq aj H ht ah aq h
 |call ht ah G aq _=>intro e ab hn;cases ab;intro W P I am al ar X bs st bh Q cL u g off m cap H r h;exact Ey aj H ht ah G aq h
 |key1 O ah G aq _=>intro e ab hn;cases ab;intro W P I am al ar X bs st bh Q cL u g off m cap H r h;exact Ef aj H O ah G aq h
 |key2 O ah G ai hb aq _ _=>intro e ab hn;cases ab;intro W P I am al ar X bs st bh Q cL u g off m cap H r h;exact Eu aj H O ah G ai hb aq h
 |key3 O ah G ai hb Y aV aq _ _ _=>intro e ab hn;cases ab;intro W P I am al ar X bs st bh Q cL u g off m cap H r h;exact Ev aj H O ah G ai hb Y aV aq h
 |keyN O ah G ai bg aq _=>intro e ab hn;cases ab;intro W P I am al ar X bs st bh Q cL u g off m cap H r h;exact Eg aj H O ah G ai bg aq h
 |put O ah G ai hi Y bg aq _=>intro e ab hn;cases ab;intro W P I am al ar X bs st bh Q cL u g off m cap H r h;exact Hu aj H O ah G ai hi Y bg aq h
 |grad O ah G ai au aq _=>intro e ab hn;cases ab;intro W P I am al ar X bs st bh Q cL u g off m cap H r h;exact EF aj H O ah G ai au aq h
 |jvp O ah G ai au Y hb aq _ _=>intro e ab hn;cases ab;intro W P I am al ar X bs st bh Q cL u g off m cap H r h;exact Io aj H O ah G ai au Y hb aq h
theorem trc:∀f,TrC f
 |0=>λW P I am al ar X bs st bh Q cL u g off m cap ts H n e aK hn r h=>by rw[eP]at h;cases h
 |f+1=>λW P I am al ar X bs st bh Q cL u g off m cap ts H n e aK hn r h=>Ip (trc f) aK e rfl hn W P I am al ar X bs st bh Q cL u g off m cap H r h
theorem po(a b:List ad)(z i)(h:i<a.length):(a++b).getD i z=a.getD i z:=by
 grind
theorem vR(a)(x z:ad):(a++[x]).getD a.length z=x:=by
 simp_all
theorem rL(a:List ad)(x z i)(h:i<a.length):(a.set i x).getD i z=x:=by
 simp_all
theorem ur(a:List ad)(x z i j)(h:i≠j):(a.set i x).getD j z=a.getD j z:=by
 simp_all
theorem bI.qbu(h:Zp:=by
 have q:g9≠P:=λe=>by
  subst e
  rcases bg with c|c
  ·exact a8 c
  ·have:=h.lt;omega
 have t:(Value.slice _ _ _).ownBlock≠some P:=λc=>q ((ab P).1 c);have aQ:∀o,_:=λo=>ah.cell (p:=⟨P,o,none⟩) h.lt a8;have es:∀o,o≠0->(bo.setCell ⟨P,0,_⟩ (hH g9 n9 cap9)).cell? _=W.cell? _:=λo av=>(eO _ _ _ _ _ _ (.inr (λe=>av e.symm))).trans (aQ o);have ay:=(eX (lo:=P) (hi:=P+1) bo ⟨P,0,none⟩ (hH g9 n9 cap9) yac)
 have aP:Mv (Mst P am al ar X) W (Mst P (hH g9 n9 cap9) al ar X) (bo.setCell ⟨P,0,none⟩ (hH g9 n9 cap9)):=by
  refine⟨Chg.andThen ⟨ah.os,ah.tape,ah.output,ah.size,λi hi hn=>ah.block i hi (λc=>hn (.inr (.inl c)))⟩ (ay.chg1 (.inl rfl)),λb hb=>?_⟩;rcases hb with c|c|c|c|c
  ·exact .inl (.inl c)
  ·rw[ab]at c;subst c;rcases bg with d|d
   ·exact .inl (.inr (.inl d))
   omega
  ·exact .inl (.inr (.inr (.inl c)))
  ·exact .inl (.inr (.inr (.inr (.inl c))))
  exact .inl (.inr (.inr (.inr (.inr c))))
 exact qep):Zp:=h
theorem bI.qeq(h:Zp:=by
 refine⟨⟨by simpa using yaj h.lt ah.size,λo=>?_,fJ _ _ _ _ _ ((aQ 0).trans h.c0),(es 1 xab).trans h.c1,(es 2 xab).trans h.c2,(es 3 xab).trans h.c3,(es 4 xab).trans h.c4,(es 5 xab).trans h.c5,(es 6 xab).trans h.c6,?_,?_,?_,?_,⟨t,p2,z,l⟩,⟨(bK h.r2 S.symm).symm,(bK h.r3 C.symm).symm,(bK h.r4 g.symm).symm,au,m,p⟩,h.nl,λi hi=>(h.nb i hi).mv aP,h.sz⟩,aP⟩
 ·have:=(ah.frozen h.lt a8).trans (h.fr o);simp[this]
 ·subst hn;exact eJ aT t
 ·exact eJ (fN h.r2 ah (λb hb c=>S b c hb)) p2
 ·exact eJ (fN h.r3 ah (λb hb c=>C b c hb)) z
 exact eJ (fN h.r4 ah (λb hb c=>g b c hb)) l):Zp:=h
open bI in
theorem WS.ins_{W}(h:WS W P I am al ar X bs st)(ah:Chg (λb=>am.ownBlock=some b) W bo)(hn:n9=zs.length)(aT:bo.ownsRow I 3 1 (hH g9 n9 cap9) n9 (zs.map (Value.int .i64)))(bg:am.ownBlock=some g9\/W.heap.size<=g9):
  WS (bo.setCell ⟨P,0,none⟩ (hH g9 n9 cap9)) P I (hH g9 n9 cap9) al ar X bs {st with ins:=zs}/\Mv (Mst P am al ar X) W (Mst P (hH g9 n9 cap9) al ar X) (bo.setCell ⟨P,0,none⟩ (hH g9 n9 cap9)):=by
 exact qbt
theorem bJ.qbu(h:Zp:=by
 have q:g9≠P:=λe=>by
  subst e
  rcases bg with c|c
  ·exact z c
  ·have:=h.lt;omega
 have t:(Value.slice _ _ _).ownBlock≠some P:=λc=>q ((ab P).1 c);have aQ:∀o,_:=λo=>ah.cell (p:=⟨P,o,none⟩) h.lt z;have es:∀o,o≠2->(bo.setCell ⟨P,2,_⟩ (hH g9 n9 cap9)).cell? _=W.cell? _:=λo av=>(eO _ _ _ _ _ _ (.inr (λe=>av e.symm))).trans (aQ o);have ay:=(eX (lo:=P) (hi:=P+1) bo ⟨P,2,none⟩ (hH g9 n9 cap9) yac)
 have aP:Mv (Mst P am al ar X) W (Mst P am al (hH g9 n9 cap9) X) (bo.setCell ⟨P,2,none⟩ (hH g9 n9 cap9)):=by
  refine⟨Chg.andThen ⟨ah.os,ah.tape,ah.output,ah.size,λi hi hn=>ah.block i hi (λc=>hn (.inr (.inr (.inr (.inl c)))))⟩ (ay.chg1 (.inl rfl)),λb hb=>?_⟩;rcases hb with c|c|c|c|c
  ·exact .inl (.inl c)
  ·exact .inl (.inr (.inl c))
  ·exact .inl (.inr (.inr (.inl c)))
  ·rw[ab]at c;subst c;rcases bg with d|d
   ·exact .inl (.inr (.inr (.inr (.inl d))))
   omega
  exact .inl (.inr (.inr (.inr (.inr c))))
 exact qep):Zp:=h
theorem bJ.qeq(h:Zp:=by
 refine⟨⟨by simpa using yaj h.lt ah.size,λo=>?_,(es 0 xab).trans h.c0,(es 1 xab).trans h.c1,fJ _ _ _ _ _ ((aQ 2).trans h.c2),(es 3 xab).trans h.c3,(es 4 xab).trans h.c4,(es 5 xab).trans h.c5,(es 6 xab).trans h.c6,?_,?_,?_,?_,⟨a8,p2,t,l⟩,⟨S,bK h.r1 C,g,bK h.r2 au,m,(bK h.r4 p.symm).symm⟩,h.nl,λi hi=>(h.nb i hi).mv aP,h.sz⟩,aP⟩
 ·have:=(ah.frozen h.lt z).trans (h.fr o);simp[this]
 ·exact eJ (fN h.r1 ah (λb hb c=>C b hb c)) a8
 ·exact eJ (fN h.r2 ah (λb hb c=>au b hb c)) p2
 ·subst hn;exact eJ aT t
 exact eJ (fN h.r4 ah (λb hb c=>p b c hb)) l):Zp:=h
open bJ in
theorem WS.outs_{W}(h:WS W P I am al ar X bs st)(ah:Chg (λb=>ar.ownBlock=some b) W bo)(hn:n9=zs.length)(aT:bo.ownsRow I 3 1 (hH g9 n9 cap9) n9 (zs.map (Value.int .i64)))(bg:ar.ownBlock=some g9\/W.heap.size<=g9):
  WS (bo.setCell ⟨P,2,none⟩ (hH g9 n9 cap9)) P I am al (hH g9 n9 cap9) X bs {st with outs:=zs}/\Mv (Mst P am al ar X) W (Mst P am al (hH g9 n9 cap9) X) (bo.setCell ⟨P,2,none⟩ (hH g9 n9 cap9)):=by
 exact qbt
theorem bK.qbu(h:Zp:=by
 have q:g9≠P:=λe=>by
  subst e
  rcases bg with c|c
  ·exact l c
  ·have:=h.lt;omega
 have t:(Value.slice _ _ _).ownBlock≠some P:=λc=>q ((ab P).1 c);have aQ:∀o,_:=λo=>ah.cell (p:=⟨P,o,none⟩) h.lt l;have es:∀o,o≠3->(bo.setCell ⟨P,3,_⟩ (hH g9 n9 cap9)).cell? _=W.cell? _:=λo av=>(eO _ _ _ _ _ _ (.inr (λe=>av e.symm))).trans (aQ o);have ay:=(eX (lo:=P) (hi:=P+1) bo ⟨P,3,none⟩ (hH g9 n9 cap9) yac)
 have aP:Mv (Mst P am al ar X) W (Mst P am al ar (hH g9 n9 cap9)) (bo.setCell ⟨P,3,none⟩ (hH g9 n9 cap9)):=by
  refine⟨Chg.andThen ⟨ah.os,ah.tape,ah.output,ah.size,λi hi hn=>ah.block i hi (λc=>hn (.inr (.inr (.inr (.inr c)))))⟩ (ay.chg1 (.inl rfl)),λb hb=>?_⟩;rcases hb with c|c|c|c|c
  ·exact .inl (.inl c)
  ·exact .inl (.inr (.inl c))
  ·exact .inl (.inr (.inr (.inl c)))
  ·exact .inl (.inr (.inr (.inr (.inl c))))
  rw[ab]at c;subst c;rcases bg with d|d
  ·exact .inl (.inr (.inr (.inr (.inr d))))
  omega
 exact qep):Zp:=h
theorem bK.qeq(h:Zp:=by
 refine⟨⟨by simpa using yaj h.lt ah.size,λo=>?_,(es 0 xab).trans h.c0,(es 1 xab).trans h.c1,(es 2 xab).trans h.c2,fJ _ _ _ _ _ ((aQ 3).trans h.c3),(es 4 xab).trans h.c4,(es 5 xab).trans h.c5,(es 6 xab).trans h.c6,?_,?_,?_,?_,⟨a8,p2,z,t⟩,⟨S,C,bK h.r1 g,au,bK h.r2 m,bK h.r3 p⟩,(by simp only[yak,List.length_singleton];rw[h.nl]),λi hi=>by
  simp only
  by_cases c:i<bs.length
  ·rw[po _ _ _ _ c,po _ _ _ _ (hV h.nl c)]
   exact(h.nb i c).mv aP
  ·have e:i=bs.length:=by grind
   subst e
   rw[vR,h.nl,vR]
   exact hb aP,h.sz⟩,aP⟩
 ·have:=(ah.frozen h.lt l).trans (h.fr o);simp[this]
 ·exact eJ (fN h.r1 ah (λb hb c=>g b hb c)) a8
 ·exact eJ (fN h.r2 ah (λb hb c=>m b hb c)) p2
 ·exact eJ (fN h.r3 ah (λb hb c=>p b hb c)) z
 subst hn;exact eJ aT t):Zp:=h
open bK in
theorem WS.nms_{W}(h:WS W P I am al ar X bs st)(ah:Chg (λb=>X.ownBlock=some b) W bo){b d}(hn:n9=(bs++[b]).length)(aT:bo.ownsRow I 123 5 (hH g9 n9 cap9) n9 (bcF (bs++[b])))(bg:X.ownBlock=some g9\/W.heap.size<=g9)(hb:Mv (Mst P am al ar X) W (Mst P am al ar (hH g9 n9 cap9)) (bo.setCell ⟨P,3,none⟩ (hH g9 n9 cap9))->BcOK (Mst P am al ar (hH g9 n9 cap9)) (bo.setCell ⟨P,3,none⟩ (hH g9 n9 cap9)) b d):
  WS (bo.setCell ⟨P,3,none⟩ (hH g9 n9 cap9)) P I am al ar (hH g9 n9 cap9) (bs++[b]) {st with names:=st.names++[d]}/\Mv (Mst P am al ar X) W (Mst P am al ar (hH g9 n9 cap9)) (bo.setCell ⟨P,3,none⟩ (hH g9 n9 cap9)):=by
 exact qbt
theorem Oe{W:World}{e s g cap k:Nat}{xs u}(h:W.ownsRow I e s (hH g n cap) n xs):(W.setCell ⟨g,k,none⟩ u).ownsRow I e s (hH g n cap) n (xs.set k u):=by
 refine⟨by rw[List.length_set];exact h.1,?_⟩;rcases h.2 with⟨c,_⟩|⟨aG,cap',H,ae,N,aA,ab,aI,b9,cn⟩
 ·cases c
 cases ae;refine .inr ⟨g,_,H.setIfInBounds k u,rfl,N,?_,ab,aI,by grind,?_⟩
 ·rw[heap_setCell_same W g k _ _ _ aA]
 grind [List.take_set]
theorem Cw:∀(bs:List Bc) (k:Nat) (v:Int),k<bs.length->(bcF bs).set (k*5+2) (hI v)=bcF (bs.set k {bs.getD k hO with val:=v})
 |b::r,0,v,_=>by simp[bcF,Bc.cells]
 |b::r,k+1,v,h=>by
  have hb:b.cells.length=5:=rfl
  rw[bcF,List.set_append_right _ _ xaa,hb,show(k+1)*5+2-5=k*5+2 by omega,Cw r k v (by simpa using h)]
  rfl
theorem WS.setv{W}(h:WS W P I am al ar X bs st){i}(hi:i<bs.length){s}{ay v:Nat}(aV:st.names.getD i (.val [] 0)=.val s ay):∃cg bR,X=hH cg bs.length bR/\cg<W.heap.size/\W.frozen? ⟨cg,i*5+2,none⟩=false/\WS (W.setCell ⟨cg,i*5+2,none⟩ (hI v)) P I am al ar X (bs.set i {bs.getD i hO with val:=(v:Int)}) (st.setV i s v)/\Mv (Mst P am al ar X) W (Mst P am al ar X) (W.setCell ⟨cg,i*5+2,none⟩ (hI v)):=by
 obtain⟨cg,bR,e4,_,aW,_,bV⟩:=mn h.r4 xaa;have ab:X.ownBlock=some cg:=hX e4
 have co:W.frozen? ⟨cg,i*5+2,none⟩=false:=by
  rcases h.r4.2 with⟨c,c2⟩|⟨aG,cap',H,ae,N,aA,_⟩
  ·omega
  cases e4.symm.trans ae;simp[World.frozen?,aA]
 refine⟨_,_,e4,aW,co,?_⟩;have K:=eX (lo:=cg) (hi:=cg+1) W ⟨_,i*5+2,none⟩ (hI v) yac;have aP:Mv _ W (Mst P am al ar _) _:=⟨K.chg1 (.inr (.inr (.inr (.inr ab)))),λb hb=>.inl hb⟩
 obtain⟨Y,U,Z,l⟩:=h.np;obtain⟨S,C,g,au,m,p⟩:=h.ap;have q:cg≠P:=λe=>l (by grind);have es:∀o,(W.setCell ⟨_,i*5+2,_⟩ (hI v)).cell? _=W.cell? ⟨P,o,_⟩:=λo=>eO _ _ _ _ _ _ (.inl q);refine⟨⟨by simpa using h.lt,λo=>by simp[h.fr o],(es 0).trans h.c0,(es 1).trans h.c1,(es 2).trans h.c2,(es 3).trans h.c3,(es 4).trans h.c4,(es 5).trans h.c5,(es 6).trans h.c6,eJ h.r1 (λc=>g _ c ab),eJ h.r2 (λc=>m _ c ab),eJ h.r3 (λc=>p _ c ab),?_,h.np,h.ap,?_,λj hj=>?_,h.sz⟩,aP⟩
 ·have:=Oe (k:=i*5+2) (u:=hI v) (by have:=h.r4;rw[e4]at this;exact this);rw[Cw _ i v hi]at this;rw[e4,List.length_set];exact this
 ·show(bs.set i _).length=(st.names.set i _).length;rw[List.length_set,List.length_set,h.nl]
 rw[List.length_set]at hj;show BcOK _ _ ((bs.set i _).getD j hO) ((st.names.set i _).getD j (.val [] 0));by_cases c:j=i
 ·subst c;have hb:=h.nb j hi;rw[aV]at hb;rw[rL _ _ _ _ hi,rL _ _ _ _ (hV h.nl hi)];exact⟨hb.1,hb.2.1,rfl⟩
 rw[ur _ _ _ _ _ (λe=>c e.symm),ur _ _ _ _ _ (λe=>c e.symm)];exact(h.nb j hj).mv aP
def StO (W:World)(P B:Nat)(u1 u2 u3 u4:Value)(r:Rs LSt)(e:Ending)(W':World):Prop:=
 e=.returned (.tuple #[])/\match r with
 |.error (c,p)=>W'.cell? ⟨P,5,none⟩=some (.int .i64 c)/\W'.cell? ⟨P,6,none⟩=some (.int .i64 (p:Int))/\Chg (Mst P u1 u2 u3 u4) W W'
 |.ok st=>∃bs v1 v2 v3 v4,WS W' P B v1 v2 v3 v4 bs st/\Mv (Mst P u1 u2 u3 u4) W (Mst P v1 v2 v3 v4) W'
