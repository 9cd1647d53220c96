import Derived.Test.YtaheilbiakhlgaaGreatP35
import Derived.Test.YtaheilbiakhlgaaGreatP37
import Derived.Test.YtaheilbiakhlgaaGreatP49
namespace Go.Proofs.Z
variable{Zp:Prop}
open Tryz Go.RowKit Flt
set_option maxRecDepth 1000000
set_option maxHeartbeats 0
section
theorem K1(w P af aC Y c1 ab c2 aa c3 s x ins vs outs)(f:GS w P Y (some ⟨aC,0,none⟩) ab af aa ins vs outs)(c7:VA w aC ab vs)(bJ:Y<=1000000)(b5:ab<=2000)(cu:aa<=1000000)(b6:(List.range ab).all (okV ins vs)=true)(cG:fd vs<=50000)(ae:s<ab)(ap:x<ab):
  Calls prog 156 #[eX P Y c1 (some ⟨aC,0,none⟩) ab c2 af aa c3,hF s,hF x] w λe J=>vw w J Y aa ins outs (grM vs s x) e/\Kept 0 0 w J:=by
 cases F:(jA vs x (s-x)).getD s false with
 |false=>exact xJ w _ _ _ _ _ _ _ _ _ s x _ _ _ f c7 bJ b5 cu b6 cG ae ap F
 |true=>exact zv w _ _ _ _ _ _ _ _ _ s x _ _ _ f c7 bJ b5 cu b6 cG ae ap F
theorem WS.grad{W P I u1 u2 u3 u4 bs st}(h:WS W P I u1 u2 u3 u4 bs st)(g:Gd st){s x}(ae:s<st.vs.length)(ap:x<st.vs.length):
  ∃a1 bL aC bM a3 cj,u1=.slice a1 st.ins.length bL/\u2=hE aC st.vs.length bM/\u3=.slice a3 st.outs.length cj/\
   (Calls prog 156 #[eX a1 st.ins.length bL (some ⟨aC,0,none⟩) st.vs.length bM a3 st.outs.length cj,hF s,hF x] W λe J=>vw W J st.ins.length st.outs.length st.ins st.outs (grM st.vs s x) e/\Kept 0 0 W J)/\
   ∀t:Nat,Calls prog 158 #[eX a1 st.ins.length bL (some ⟨aC,0,none⟩) st.vs.length bM a3 st.outs.length cj,hF s,hF x,hF t] W λe J=>vw W J st.ins.length st.outs.length st.ins st.outs (jZ st.vs s x t) e/\Kept 0 0 W J:=by
 obtain⟨aC,bM,a0,_,_,_,a6⟩:=mb h.r2 xaa rfl;obtain⟨a1,bL,Z,aV,a3,cj,af,aY,aj,B⟩:=h.gs g.k;rw[a0]at aY;cases aY;have hi:=g.i;have ax:=g.o;exact⟨_,_,_,_,_,_,af,a0,aj,K1 W _ _ _ _ _ _ _ _ _ s x _ _ _ B a6 xaa g.n xaa g.ok g.c ae ap,λt=>Oi W _ _ _ _ _ _ _ _ _ s x t _ _ _ B a6 xaa g.n xaa g.ok g.c ae ap⟩
end
section
attribute[local go_sem] eF eE eD
def Ic(k:Tok)(q:Rs Nat)(r1:Rs (LSt×Nat)):Rs (LSt×Nat):=match q with
 |.error f=>.error f
 |.ok v=>match r1 with
  |.error f=>.error f
  |.ok (s,a)=>pA s k a v
theorem bH.qbu(h:Zp:=by
 have ch:V _:=cz.o.keepC G.chg aL.o;obtain⟨bx,cv,a0,b9,bd⟩:=aJ.lenc F;have ae:V _:=(Mv.of bN.o).trans G;have aZ:V _:=aJ;have bw:=ch.o.c0;have d1:=ch.o.c1;have bB:=w.g.n;have a5:=aJ.c1;rw[a0]at a5;have bP:V (r=pA s ⟨[103,114,97,100],K,S⟩ a v):=HR.o;clear HR am cz aW G;by_cases B:fe s a=1
 ·obtain⟨a1,bL,aC,bM,a3,cj,af,aY,aj,bU,_⟩:=aJ.grad w.g F ap;obtain⟨aX,bH,cM⟩:=y8 w.g.v F ap B;obtain⟨j,hj⟩:∃j:Nat,(grM s.vs a v).2=(j:Int):=⟨_,(Int.toNat_of_nonneg bH.1).symm⟩
  have ah:V (r=if kM (grM s.vs a v).1=true then .error (5,K)else .ok ({s with vs:=(grM s.vs a v).1},j)):=by
   show r=_;rw[bP.o];unfold pA;rw[hG (by simpa using B)];unfold iQ;rw[hj,Int.toNat_natCast]
  have b8:∀k,k<(grM s.vs a v).1.length->_:=λk O=>iq (aX.1 k O);rw[a0]at aY;cases aY;subst af a0 aj;have bi:=aJ.c0;have p2:=aJ.c2;have br:V _:=bU;have bZ:=aX.2;generalize grM s.vs a v=M at*;obtain⟨Y,ai⟩:=M;simp only at hj b8 bZ ah;subst hj
  have a7:V (∀W' N d1 Z cap ad d3,Kept 0 0 a8 W'->W'.ownsRow a8.heap.size 3 1 (.slice N s.ins.length d1) s.ins.length (s.ins.map (Value.int .i64))->W'.ownsRow a8.heap.size 40 6 (.slice Z Y.length cap) Y.length (fW Y)->W'.ownsRow a8.heap.size 3 1 (.slice ad s.outs.length d3) s.outs.length (s.outs.map (Value.int .i64))->Apart (.slice N s.ins.length d1) (.slice ad s.outs.length d3)->Calls prog 157 #[hD P,eX N s.ins.length d1 Z Y.length cap ad s.outs.length d3,hF j,hF K] W' λe aA=>(∃x:Int,e=.returned (hF x))/\V (TrO W P I u1 u2 u3 u4 bs r e aA)):=λW' N d1 Z cap ad d3 al aK aP b3 bJ=>yai (qI aJ al aK aP b3 bJ bZ b8 j K) (λe aA t=>⟨t.ret,by
   show TrO W P I u1 u2 u3 u4 bs r e aA
   rw[ah.o]
   exact TrO.after ae.o t⟩)
  clear bU aJ bP ah bk bE bp aZ aX bH cM b8 bZ w ae aL bN;rw[B]at bd;generalize s.vs.length=bK at*;generalize s.ins.length=cd at*;generalize s.outs.length=ck at*;go_upto_region 20 with (go_at_call 156;refine yai br.o ?_;rintro e bj ⟨⟨N,i,ad,m,Z,aT,rfl,aK,aP,b3,bJ⟩,b7⟩);have f:=(ch.o.keep b7).c1;have cc:V (∀W',Kept 0 0 bj W'->_):=λW' al=>a7.o W' N i Z aT ad m (b7.trans al) (eW aK al) (eW aP al) (eW b3 al) bJ;have cK:V (∀W',Kept 0 0 bj W'->_):=λW' al=>(ch.o.keep (b7.trans al)).c1;clear aK aP b3 bJ a7 br bd bi a5 p2 bw d1;have d2:=cK.o _ (ez 0 0 bj (eZ N cd i Z Y.length aT ad ck m));have cu:V _:=cc.o _ (ez 0 0 bj (eZ N cd i Z Y.length aT ad ck m));go_wp2_with (go_at_call 157;refine yai cu.o ?_;rintro e cg ⟨⟨x,rfl⟩,bh⟩);go_ret;exact bh.o
 have R:V (r=.error (4,K)):=bP.o.trans (hI B);have bf:=yaw B;have bT:V _:=jI aJ.c5 aJ.c6 aJ.fr 4 K (Mst P ba bc z aa) (.inl rfl);clear aJ bP bk bE bp aZ;generalize fe s a=l at bd B bf;generalize s.vs.length=bK at*;go_wp2_with (go_at_call 102;refine yai bT.o ?_;rintro e bj ⟨rfl,aI⟩);go_ret;rw[R.o];exact⟨rfl,aI.c5,aI.c6,ae.o.bad aI.chg⟩):Zp:=h
theorem bH.qfa(h:Zp:=by
 rcases az with⟨c,p⟩|⟨s,a⟩
 ·exact xhj
 exact qhq):Zp:=h
open bH in
theorem Ba{W P I u1 u2 u3 u4 bs st bC bn cL u}(h:WS W P I u1 u2 u3 u4 bs st)(aw:st.names.length<=5000)(bQ:LcR (Mst P u1 u2 u3 u4) W bC bn u)(hn:bn<=5000)(K S){bz aB b0 q o b2 c0 aK bV c1}(g)(cx:2<=aB)(au:bz<W.heap.size)(aU:W.cell? ⟨bz,0,none⟩=some (.slice (some ⟨q,o,none⟩) b2 c0))(cy:Sg1 W bz 1 aK bV c1 g)(az)(bl:(∃v,fJ st u g=.ok v)->RsG st az)(aM:∀v,fJ st u g=.ok v->v<st.vs.length)
  (bg:(∃v,fJ st u g=.ok v)->∀W',Kept 0 0 W W'->Calls prog 103 #[hD P,.slice bC bn cL,.slice (some ⟨q,o,none⟩) b2 c0] W' (TrO W' P I u1 u2 u3 u4 bs az)):
  Calls prog 143 #[hD P,.slice bC bn cL,i7 ⟨[103,114,97,100],K,S⟩,hE bz aB b0] W (TrO W P I u1 u2 u3 u4 bs (Ic ⟨[103,114,97,100],K,S⟩ (fJ st u g) az)):=by
 have aH:V _:=im W [103,114,97,100] K S;have HK:V _:=ez 0 0 W (.cells #[eO [103,114,97,100],hF K,eO S] 89);have aL:V _:=h.far;have ao:V (∀W',Kept 0 0 W W'->_):=λW' al=>(al.cell (p:=⟨bz,0,none⟩) au xaa).trans aU;have a2:V _:=cy;have b1:V (∀W',Kept 0 0 W W'->_):=λW' al=>xy (h.keep al) aw bC bn cL u (bQ.keep al) hn g;have Q:V _:=bg;have bk:V _:=bl;have bE:V _:=aM;have bp:V _:=h;obtain⟨r,av⟩:∃r,r=Ic ⟨[103,114,97,100],K,S⟩ (fJ st u g) az:=⟨_,rfl⟩
 rw[<-av];have HR:V _:=av;clear av h bl bg aU cy aM bQ aw;unfold i7 at b1⊢;obtain⟨xs,dp,ci⟩:=g;simp only at b1⊢;go_enter func143,ntmps143;go_upto_region 2 with fail;change Code.wp _ _ _ _ (W.alloc (.cells #[eO [103,114,97,100],hF K,eO S] 89));generalize W.alloc (.cells #[eO [103,114,97,100],hF K,eO S] 89)=ay at aH HK⊢;generalize W.heap.size=bI at aH aL⊢;have n:V _:=b1.o ay HK.o;obtain⟨aq,aN,bA,cw⟩:=(a2.o.keep HK.o).cells;simp only at aN bA cw;have a9:=aH.o.c0;clear b1 a2;generalize fJ st u ⟨xs,dp,ci⟩=di at n HR bE Q bk;rcases di with⟨c,p⟩|v
 ·exact xen
 exact qez
end
section
theorem Bb{f st u k x a r}(h:eP (f+1) st u (.grad k a x)=some r):∃az,r=Ic k (fJ st u x) az/\(∀v,fJ st u x=.ok v->eP f st u a=some az):=by
 rw[eP]at h;cases aM:fJ st u x with
 |error q=>rw[aM]at h;cases h;exact⟨.error q,rfl,λv e=>by cases e⟩
 |ok v=>
  rw[aM]at h;simp only at h;cases B:eP f st u a with
  |none=>rw[B]at h;cases h
  |some az=>
   rw[B]at h;rcases az with⟨c,p⟩|⟨aq,y⟩
   ·cases h;exact⟨_,rfl,λ_ _=>rfl⟩
   cases h;exact⟨_,rfl,λ_ _=>rfl⟩
section
variable{f:Nat}{W:World}{P I:Nat}{u1 u2 u3 u4:Value}{bs:List Bc}{st:LSt}{bC:Option Addr}{bn cL:Nat}{u:Loc}{g off m cap:Nat}{ts:List Tok}{a:Ex}{r:Rs (LSt×Nat)}
theorem dR.qew(h:Zp:=by
 have bg:(∃v,fJ st u n=.ok v)->∀aA,Kept 0 0 W' aA->_:=λaY aA an=>
  Q aA P I u1 u2 u3 u4 bs st bC bn cL u g o ts.length c0 ts ⟨H.ws.keep (al.trans an),H.gd,H.nm,H.lc.keep (al.trans an),H.ln,H.lo,c2.keep an,H.tg,hO H.m5,c3,λt ht=>H.ti t (by simp[ht]),λt ht=>H.tn t (by simp[ht])⟩ 2 a F yad az (aY.elim af)
 have bl:(∃v,fJ st u n=.ok v)->_:=λaY=>gF f st u a H.gd H.nm H.lo cc az (aY.elim af);obtain⟨ae,K,S⟩:=k;simp only at O;subst O;exact Ba (H.ws.keep al) H.gd.m (H.lc.keep al) H.ln K S n yad au c1 ⟨au,br,c2'⟩ az bl (λv aM=>oF H.nm H.lo aM) bg):Zp:=h
theorem dR.qgv(h:Zp:=by
 exact qif):Zp:=h
theorem dR.qig(h:Zp:=by
 have aO:∀x:List UInt8,x≠BA->(k.sym==x)=false:=λx B=>by
  rw[beq_eq_false_iff_ne]
  rintro rfl
  exact B O
 refine lj H (Pr.grad O ah F ak hn ao) (aO _ xab) (aO _ xab) (aO _ xab) (aO _ xab) (aO _ xab) xaa (ts++c::[n]) aI (by rw[pe (X:=[ts]) (y:=[n]) xac ag _ yaf];simp) _ (λW' aQ bA al aU=>?_);exact qev):Zp:=h
open dR in
theorem Ek{k l c n q}(Q:TrC f)(H:TrIn W P I u1 u2 u3 u4 bs st bC bn u g off m cap (k::l::(ts++[c,n,q])))(O:k.sym=BA)(ah:l.sym=[40])(F:Pr 2 [a] ts)(ak:c.sym=[44])(hn:n.sym=gU)(ao:q.sym=[41])(h:eP (f+1) st u (.grad k a n)=some r):
  Calls prog 103 #[hD P,.slice bC bn cL,.slice (some ⟨g,off,none⟩) m cap] W (TrO W P I u1 u2 u3 u4 bs r):=by
 obtain⟨az,rfl,af⟩:=Bb h;exact qgu
end
end
section
attribute[local go_sem] eF eE eD
variable{k:Tok}{st:LSt}{a x d:Nat}
def PB(k:Tok)(a v:Nat)(r2:Rs (LSt×Nat)):Rs (LSt×Nat):=match r2 with
 |.error f=>.error f
 |.ok (s2,y)=>pM s2 k a v y
def Ok(k:Tok)(q:Rs Nat)(r1 r2:Rs (LSt×Nat)):Rs (LSt×Nat):=match q with
 |.error f=>.error f
 |.ok v=>match r1 with
  |.error f=>.error f
  |.ok (_,a)=>PB k a v r2
def PC(k:Tok)(a v:Nat)(r3:Rs (LSt×Nat)):Rs (LSt×Nat):=match r3 with
 |.error f=>.error f
 |.ok (s3,d)=>iQ s3 (jZ s3.vs a v d) k.pos
theorem El(B:fe st d=1)(U:1<fe st x):pM st k a x d=PC k a x (gh st (eK 10 (fe st x) (d:Int) 0 0) k.pos):=by
 unfold pM;rw[hI ⟨B,U⟩];rfl
theorem Id(B:fe st d≠1)(U:fe st d≠fe st x):pM st k a x d=.error (4,k.pos):=by
 unfold pM;rw[hG (λc=>B c.1),hI U]
theorem vC(B:¬(fe st d=1/\1<fe st x))(U:fe st d=fe st x):pM st k a x d=iQ st (jZ st.vs a x d) k.pos:=by
 unfold pM;rw[hG B,hG (λc=>c U)]
theorem bI.qbu(h:Zp:=by
 have ch:V _:=cz.o.keepC G.chg aL.o;have cQ:V (¬Mst P ba bc z aa bI):=λc=>(G.new bI c).elim aL.o (λc=>hO cz.o.lt);obtain⟨bx,cv,a0,b9,bd⟩:=aJ.lenc F;have ae:V _:=(Mv.of bN.o).trans G;have bw:=ch.o.c0;have bB:=w.g.n;have a5:=aJ.c1;rw[a0]at a5;have aN:=co.o a8 _ ae.o;have bP:V (r=PB ⟨[106,118,112],K,S⟩ a v aZ):=HR.o;have cO:V _:=cA.o ⟨v,rfl⟩ s a rfl a8 ba bc z aa aJ ae.o;have cP:V _:=cB.o ⟨v,rfl⟩ s a rfl;clear HR am cz aW G aJ cA cB bk bE aL bN a0 b9 co;generalize fe s a=l at bd;generalize dd:s.vs.length=bK at*;go_upto_region 22 with fail;clear bd a5;rcases aZ with⟨c,p⟩|⟨f,y⟩
 ·go_wp2_with (go_at_call 103;refine yai cO.o ?_;rintro e bj ⟨rfl,bh⟩);go_ret;rw[bP.o];exact TrO.after ae.o ⟨rfl,bh⟩
 obtain⟨bm,bS⟩:=cP.o f y rfl;subst dd;have bX:=yaj ap bm.n;have cW:=yaj F bm.n;have cN:¬((y:Int)<0):=xaa;clear bB;generalize s.vs.length=bK at*;go_upto_region 25 with (go_at_call 103;refine yai cO.o ?_;rintro e bj ⟨rfl,aS,bb,bq,bD,ax,a6⟩);have X:V _:=ch.o.keepC a6.chg cQ.o;have cS:V (¬Mst P aS bb bq bD bI):=λc=>(a6.new bI c).elim cQ.o (λc=>hO ch.o.lt);have bu:V _:=ae.o.trans a6;have bR:V (r=pM f ⟨[106,118,112],K,S⟩ a v y):=bP.o;have b7:=bm.g;have c6:=b7.lenB bX;obtain⟨ej,eg,e4,ed,c7⟩:=ax.lenc bX;obtain⟨ek,ei,bW,_,c8⟩:=ax.lenc bS;rw[e4]at bW;cases bW;have a5:=ax.c1;rw[e4]at a5;have bB:=b7.n;have N:=X.o.c1;clear cO bP a6 ae ch cQ cP bw aN bm ed;by_cases B:fe f y=1
 ·by_cases U:1<fe f v
  ·have aQ:V _:=El (k:=⟨[106,118,112],K,S⟩) (a:=a) B U;have ah:V (r=PC ⟨[106,118,112],K,S⟩ a v (gh f (eK 10 (fe f v) (y:Int) 0 0) K)):=bR.o.trans aQ.o;have cl:V _:=λbA d2 (aF:gh f (eK 10 (fe f v) (y:Int) 0 0) K=.ok (bA,d2))=>oE b7 (b7.v.p10 c6 (by have cX:=jV bS;rw[B]at cX;exact cX)) aF;have ak:V (∀W',Kept 0 0 bj W'->Calls prog 106 #[hD P,(eK 10 (fe f v) (y:Int) 0 0).agg,hF K] W' λe aA=>V (TrO bj P I aS bb bq bD bs (gh f (eK 10 (fe f v) (y:Int) 0 0) K) e aA)/\(∃x:Int,e=.returned (hF x))/\aA.cell? ⟨bI,1,none⟩=some (hF K)):=λW' al=>yai (ms (ax.keep al) b7 (eK 10 (fe f v) (y:Int) 0 0) c6 yag K) (λe aA t=>⟨TrO.back al t,t.ret,(t.chg.cell (p:=⟨bI,1,none⟩) (X.o.keep al).lt cS.o).trans (X.o.keep al).c1⟩);have cC:V (∀bA,Gw f bA->_):=λbA aG=>aG.l v bX;rw[B]at c8;clear bR aQ;generalize cV:gh f (eK 10 (fe f v) (y:Int) 0 0) K=ar at ah cl ak;clear cV;generalize eS:fe f v=ca at*;clear eS;clear ax;subst e4;rcases ar with⟨c,p⟩|⟨bA,d2⟩
   ·generalize f.vs.length=ds at*;go_upto_region 27 with fail;clear c7 c8 a5
    go_region_held3 (λJ=>J.cell? ⟨bI,1,none⟩=some (hF K)) (go_keep)
     (first
      |(go_at_call 39;refine yai (gS _ _ _ _ _ _) ?_;rintro e cg ⟨rfl,cb⟩;have aO:=(X.o.keep ((eG bj).trans cb)).c1)
      |(go_at_call 106;refine yai (ak.o _ ((eG bj).trans cb)) ?_;rintro e cf ⟨bh,⟨_,_⟩,bG⟩;obtain rfl:=bh.o.1))
    all_goals (
     go_wp2_with fail
     go_ret
     rw[ah.o]
     exact TrO.after bu.o ⟨rfl,bh.o.2⟩)
   obtain⟨aG,cR,ct⟩:=cl.o bA d2 rfl;have hd0:¬((d2:Int)<0):=xaa;have cF:=yaj cW aG.n;have cJ:=yaj bX aG.n;have ec:=cC.o bA aG;have H:=aG.g;have cr:V (r=iQ bA (jZ bA.vs a v d2) K):=ah.o
   have cq:Ln bA.vs (d2:Int) (jy bA.vs (v:Int)):=by
    have b5:=jV cR;rw[jt,show(bA.vs.getD v hK).len=fe bA v from rfl,ec,<-(show fe bA d2=ca from ct)];exact b5
   have cU:fe bA d2=ca:=ct;clear ah cl cC aG ct ec c6;generalize f.vs.length=ds at*;go_upto_region 27 with fail;clear c7 c8 a5
   go_region_held3 (λJ=>J.cell? ⟨bI,1,none⟩=some (hF K)) (go_keep)
    (first
     |(go_at_call 39;refine yai (gS _ _ _ _ _ _) ?_;rintro e cg ⟨rfl,cb⟩;have aO:=(X.o.keep ((eG bj).trans cb)).c1)
     |(go_at_call 106;refine yai (ak.o _ ((eG bj).trans cb)) ?_;rintro e cf ⟨bh,⟨_,_⟩,bG⟩;obtain rfl:=bh.o.1))
   all_goals (
    obtain⟨_,aR,aV,bY,ce,C,c9⟩:=bh.o
    have cp:V _:=bu.o.trans c9
    have cn:V _:=X.o.keepC c9.chg cS.o
    clear bh c9 bu X ak
    obtain⟨a1,bL,aC,bM,a3,cj,af,aY,aj,_,cI⟩:=C.grad H cF cJ
    have bU:=cI d2
    obtain⟨aX,bH,cM⟩:=nd H.v cF cJ cq
    obtain⟨j,hj⟩:∃j:Nat,(jZ bA.vs a v d2).2=(j:Int):=⟨_,(Int.toNat_of_nonneg bH.1).symm⟩
    have ah:V (r=if kM (jZ bA.vs a v d2).1=true then .error (5,K)else .ok ({bA with vs:=(jZ bA.vs a v d2).1},j)):=by
     show r=_
     rw[cr.o]
     unfold iQ
     rw[hj,Int.toNat_natCast]
    have b8:∀k,k<(jZ bA.vs a v d2).1.length->_:=λk O=>iq (aX.1 k O)
    obtain⟨ea,d0,bo,_,cD⟩:=C.lenc cR
    rw[bo]at aY
    cases aY
    rw[cU]at cD
    have bi:=C.c0
    have a5:=C.c1
    have p2:=C.c2
    subst af bo aj
    have br:V _:=bU
    have bZ:=aX.2
    generalize jZ bA.vs a v d2=cT at*
    obtain⟨Y,ai⟩:=cT
    simp only at hj b8 bZ ah
    subst hj
    have a7:V (∀W' N d1 Z cap ad d3,Kept 0 0 cf W'->W'.ownsRow cf.heap.size 3 1 (.slice N bA.ins.length d1) bA.ins.length (bA.ins.map (Value.int .i64))->W'.ownsRow cf.heap.size 40 6 (.slice Z Y.length cap) Y.length (fW Y)->W'.ownsRow cf.heap.size 3 1 (.slice ad bA.outs.length d3) bA.outs.length (bA.outs.map (Value.int .i64))->Apart (.slice N bA.ins.length d1) (.slice ad bA.outs.length d3)->Calls prog 157 #[hD P,eX N bA.ins.length d1 Z Y.length cap ad bA.outs.length d3,hF j,hF K] W' λe aA=>(∃x:Int,e=.returned (hF x))/\V (TrO W P I u1 u2 u3 u4 bs r e aA)):=λW' N d1 Z cap ad d3 al aK aP b3 bJ=>yai (qI C al aK aP b3 bJ bZ b8 j K) (λe aA t=>⟨t.ret,by
     show TrO W P I u1 u2 u3 u4 bs r e aA
     rw[ah.o]
     exact TrO.after cp.o t⟩)
    clear bU cI C cr ah aX bH cM b8 bZ H cp cq
    generalize bA.vs.length=dv at*
    generalize bA.ins.length=cd at*
    generalize bA.outs.length=ck at*
    go_upto_region 33 with (go_at_call 158;refine yai br.o ?_;rintro e b4 ⟨⟨N,i,ad,m,Z,aT,rfl,aK,aP,b3,bJ⟩,cG⟩)
    have cc:V (∀W',Kept 0 0 b4 W'->_):=λW' al=>a7.o W' N i Z aT ad m (cG.trans al) (eW aK al) (eW aP al) (eW b3 al) bJ
    have cK:V (∀W',Kept 0 0 b4 W'->_):=λW' al=>(cn.o.keep (cG.trans al)).c1
    clear aK aP b3 bJ a7 br cD bi a5 p2
    have d2:=cK.o _ (ez 0 0 b4 (eZ N cd i Z Y.length aT ad ck m))
    have cu:V _:=cc.o _ (ez 0 0 b4 (eZ N cd i Z Y.length aT ad ck m))
    go_wp2_with (go_at_call 157;refine yai cu.o ?_;rintro e be ⟨⟨x,rfl⟩,bh⟩)
    go_ret
    exact bh.o)
  have dg:fe f v=1:=xaa;have cr:V (r=iQ f (jZ f.vs a v y) K):=bR.o.trans (vC (λc=>U c.2) (B.trans dg.symm))
  have cq:Ln f.vs (y:Int) (jy f.vs (v:Int)):=by
   have b5:=jV bS;rw[jt,show(f.vs.getD v hK).len=fe f v from rfl,dg,<-B];exact b5
  rw[B]at c8;rw[dg]at c7;have cU:=B;have cR:=bS;have cF:=cW;have cJ:=bX;have H:=b7;have C:=ax;have cp:V _:=bu.o;have cn:V _:=X.o;clear bR ax bu X c6 b7;obtain⟨a1,bL,aC,bM,a3,cj,af,aY,aj,_,cI⟩:=C.grad H cF cJ;have bU:=cI y;obtain⟨aX,bH,cM⟩:=nd H.v cF cJ cq;obtain⟨j,hj⟩:∃j:Nat,(jZ f.vs a v y).2=(j:Int):=⟨_,(Int.toNat_of_nonneg bH.1).symm⟩
  have ah:V (r=if kM (jZ f.vs a v y).1=true then .error (5,K)else .ok ({f with vs:=(jZ f.vs a v y).1},j)):=by
   show r=_;rw[cr.o];unfold iQ;rw[hj,Int.toNat_natCast]
  have b8:∀k,k<(jZ f.vs a v y).1.length->_:=λk O=>iq (aX.1 k O);obtain⟨ea,d0,bo,_,cD⟩:=C.lenc cR;rw[bo]at aY;cases aY;rw[cU]at cD;have bi:=C.c0;have a5:=C.c1;have p2:=C.c2;subst af bo aj;(try cases‹hE _ _ _=hE _ _ _›);have br:V _:=bU;have bZ:=aX.2;generalize jZ f.vs a v y=cT at*;obtain⟨Y,ai⟩:=cT;simp only at hj b8 bZ ah;subst hj
  have a7:V (∀W' N d1 Z cap ad d3,Kept 0 0 bj W'->W'.ownsRow bj.heap.size 3 1 (.slice N f.ins.length d1) f.ins.length (f.ins.map (Value.int .i64))->W'.ownsRow bj.heap.size 40 6 (.slice Z Y.length cap) Y.length (fW Y)->W'.ownsRow bj.heap.size 3 1 (.slice ad f.outs.length d3) f.outs.length (f.outs.map (Value.int .i64))->Apart (.slice N f.ins.length d1) (.slice ad f.outs.length d3)->Calls prog 157 #[hD P,eX N f.ins.length d1 Z Y.length cap ad f.outs.length d3,hF j,hF K] W' λe aA=>(∃x:Int,e=.returned (hF x))/\V (TrO W P I u1 u2 u3 u4 bs r e aA)):=λW' N d1 Z cap ad d3 al aK aP b3 bJ=>yai (qI C al aK aP b3 bJ bZ b8 j K) (λe aA t=>⟨t.ret,by
   show TrO W P I u1 u2 u3 u4 bs r e aA
   rw[ah.o]
   exact TrO.after cp.o t⟩)
  clear bU cI C cr ah aX bH cM b8 bZ H cp cq;exact xcf
 by_cases U:fe f y=fe f v
 ·have cr:V (r=iQ f (jZ f.vs a v y) K):=bR.o.trans (vC (λc=>B c.1) U)
  have cq:Ln f.vs (y:Int) (jy f.vs (v:Int)):=by
   have b5:=jV bS;rw[jt,show(f.vs.getD v hK).len=fe f v from rfl,<-U];exact b5
  rw[<-U]at c7;have cU:fe f y=fe f y:=rfl;have cR:=bS;have cF:=cW;have cJ:=bX;have H:=b7;have C:=ax;have bf:=yaw B;have cp:V _:=bu.o;have cn:V _:=X.o;clear bR ax bu X c6 b7;obtain⟨a1,bL,aC,bM,a3,cj,af,aY,aj,_,cI⟩:=C.grad H cF cJ;have bU:=cI y;obtain⟨aX,bH,cM⟩:=nd H.v cF cJ cq;obtain⟨j,hj⟩:∃j:Nat,(jZ f.vs a v y).2=(j:Int):=⟨_,(Int.toNat_of_nonneg bH.1).symm⟩
  have ah:V (r=if kM (jZ f.vs a v y).1=true then .error (5,K)else .ok ({f with vs:=(jZ f.vs a v y).1},j)):=by
   show r=_;rw[cr.o];unfold iQ;rw[hj,Int.toNat_natCast]
  have b8:∀k,k<(jZ f.vs a v y).1.length->_:=λk O=>iq (aX.1 k O);obtain⟨ea,d0,bo,_,cD⟩:=C.lenc cR;rw[bo]at aY;cases aY;rw[cU]at cD;have bi:=C.c0;have a5:=C.c1;have p2:=C.c2;subst af bo aj;(try cases‹hE _ _ _=hE _ _ _›);have br:V _:=bU;have bZ:=aX.2;generalize jZ f.vs a v y=cT at*;obtain⟨Y,ai⟩:=cT;simp only at hj b8 bZ ah;subst hj
  have a7:V (∀W' N d1 Z cap ad d3,Kept 0 0 bj W'->W'.ownsRow bj.heap.size 3 1 (.slice N f.ins.length d1) f.ins.length (f.ins.map (Value.int .i64))->W'.ownsRow bj.heap.size 40 6 (.slice Z Y.length cap) Y.length (fW Y)->W'.ownsRow bj.heap.size 3 1 (.slice ad f.outs.length d3) f.outs.length (f.outs.map (Value.int .i64))->Apart (.slice N f.ins.length d1) (.slice ad f.outs.length d3)->Calls prog 157 #[hD P,eX N f.ins.length d1 Z Y.length cap ad f.outs.length d3,hF j,hF K] W' λe aA=>(∃x:Int,e=.returned (hF x))/\V (TrO W P I u1 u2 u3 u4 bs r e aA)):=λW' N d1 Z cap ad d3 al aK aP b3 bJ=>yai (qI C al aK aP b3 bJ bZ b8 j K) (λe aA t=>⟨t.ret,by
   show TrO W P I u1 u2 u3 u4 bs r e aA
   rw[ah.o]
   exact TrO.after cp.o t⟩)
  clear bU cI C cr ah aX bH cM b8 bZ H cp cq;generalize fe f y=ee at*;exact xcf
 have R:V (r=.error (4,K)):=bR.o.trans (Id B U);have bf:=yaw B;have b6:=yaw U;have bT:V _:=jI ax.c5 ax.c6 ax.fr 4 K (Mst P aS bb bq bD) (.inl rfl);clear ax bR;subst e4;generalize fe f y=ee at*;generalize fe f v=ca at*;generalize f.vs.length=ds at*;go_wp2_with (go_at_call 102;refine yai bT.o ?_;rintro e bF ⟨rfl,aI⟩);go_ret;rw[R.o];exact⟨rfl,aI.c5,aI.c6,bu.o.bad aI.chg⟩):Zp:=h
theorem bI.qfa(h:Zp:=by
 rcases az with⟨c,p⟩|⟨s,a⟩
 ·exact xhj
 exact qhq):Zp:=h
open bI in
theorem Em{W P I u1 u2 u3 u4 bs bC bn cL u}(h:WS W P I u1 u2 u3 u4 bs st)(aw:st.names.length<=5000)(bQ:LcR (Mst P u1 u2 u3 u4) W bC bn u)(hn:bn<=5000)(K S){bz aB b0 q o b2 c0 aK bV c1 aP bO ab c2}(g)(cx:3<=aB)(au:bz<W.heap.size)(eb:¬Mst P u1 u2 u3 u4 bz)(aU:W.cell? ⟨bz,0,none⟩=some (.slice (some ⟨q,o,none⟩) b2 c0))(cy:Sg1 W bz 1 aK bV c1 g)(aD:W.cell? ⟨bz,2,none⟩=some (.slice (some ⟨aP,bO,none⟩) ab c2))(az aZ)(bl:(∃v,fJ st u g=.ok v)->RsG st az)(aM:∀v,fJ st u g=.ok v->v<st.vs.length)(bp:(∃v,fJ st u g=.ok v)->∀s a,az=.ok (s,a)->RsG s aZ)
  (bg:(∃v,fJ st u g=.ok v)->∀W',Kept 0 0 W W'->Calls prog 103 #[hD P,.slice bC bn cL,.slice (some ⟨q,o,none⟩) b2 c0] W' (TrO W' P I u1 u2 u3 u4 bs az))
  (bv:(∃v,fJ st u g=.ok v)->∀s a,az=.ok (s,a)->∀W' aS bb bq bD,WS W' P I aS bb bq bD bs s->Mv (Mst P u1 u2 u3 u4) W (Mst P aS bb bq bD) W'->Calls prog 103 #[hD P,.slice bC bn cL,.slice (some ⟨aP,bO,none⟩) ab c2] W' (TrO W' P I aS bb bq bD bs aZ)):
  Calls prog 143 #[hD P,.slice bC bn cL,i7 ⟨[106,118,112],K,S⟩,hE bz aB b0] W (TrO W P I u1 u2 u3 u4 bs (Ok ⟨[106,118,112],K,S⟩ (fJ st u g) az aZ)):=by
 have aH:V _:=im W [106,118,112] K S;have HK:V _:=ez 0 0 W (.cells #[eO [106,118,112],hF K,eO S] 89);have aL:V _:=h.far;have ao:V (∀W',Kept 0 0 W W'->_):=λW' al=>(al.cell (p:=⟨bz,0,none⟩) au xaa).trans aU;have a2:V _:=cy;have co:V (∀W' M',Mv (Mst P u1 u2 u3 u4) W M' W'->_):=λW' M' al=>(al.chg.cell (p:=⟨bz,2,none⟩) au eb).trans aD;have b1:V (∀W',Kept 0 0 W W'->_):=λW' al=>xy (h.keep al) aw bC bn cL u (bQ.keep al) hn g;have Q:V _:=bg;have cA:V _:=bv;have bk:V _:=bl;have cB:V _:=bp;have bE:V _:=aM;obtain⟨r,av⟩:∃r,r=Ok ⟨[106,118,112],K,S⟩ (fJ st u g) az aZ:=⟨_,rfl⟩
 rw[<-av];have HR:V _:=av;clear av h bl bg aU cy aD aM bQ aw bv bp eb;unfold i7 at b1⊢;obtain⟨xs,dp,ci⟩:=g;simp only at b1⊢;go_enter func143,ntmps143;go_upto_region 2 with fail;change Code.wp _ _ _ _ (W.alloc (.cells #[eO [106,118,112],hF K,eO S] 89));generalize W.alloc (.cells #[eO [106,118,112],hF K,eO S] 89)=ay at aH HK⊢;generalize W.heap.size=bI at aH aL au⊢;have n:V _:=b1.o ay HK.o;obtain⟨aq,aN,bA,cw⟩:=(a2.o.keep HK.o).cells;simp only at aN bA cw;have a9:=aH.o.c0;clear b1 a2;generalize fJ st u ⟨xs,dp,ci⟩=di at n HR bE Q bk cA cB;rcases di with⟨c,p⟩|v
 ·exact xen
 exact qez
end
section
theorem Eo{f st u k x a d r}(h:eP (f+1) st u (.jvp k a x d)=some r):∃az aZ,r=Ok k (fJ st u x) az aZ/\(∀v,fJ st u x=.ok v->eP f st u a=some az)/\(∀v,fJ st u x=.ok v->∀s y,az=.ok (s,y)->eP f s u d=some aZ):=by
 rw[eP]at h;cases aM:fJ st u x with
 |error q=>rw[aM]at h;cases h;exact⟨.error q,.error q,rfl,λv e=>(by cases e),λv e=>(by cases e)⟩
 |ok v=>
  rw[aM]at h;simp only at h;cases B:eP f st u a with
  |none=>rw[B]at h;cases h
  |some az=>
   rw[B]at h;rcases az with⟨c,p⟩|⟨aq,y⟩
   ·cases h;exact⟨_,.error (c,p),rfl,λ_ _=>rfl,λ_ _ s y e=>by cases e⟩
   simp only[jH]at h;cases U:eP f aq u d with
   |none=>grind
   |some aZ=>
    rw[U]at h;refine⟨.ok (aq,y),aZ,?_,λ_ _=>rfl,λ_ _ s N e=>(by cases e;exact U)⟩;rcases aZ with⟨c,p⟩|⟨aN,z⟩<;>(cases h;rfl)
section
variable{f:Nat}{W:World}{P I:Nat}{u1 u2 u3 u4:Value}{bs:List Bc}{st:LSt}{bC:Option Addr}{bn cL:Nat}{u:Loc}{g off m cap:Nat}{ts us:List Tok}{a b:Ex}{r:Rs (LSt×Nat)}
theorem cY.qdb(h:Zp:=by
 have cc:=jz F (λt ht=>H.ti t (by simp[ht])) a xac;have cp:=jz hb (λt ht=>H.ti t (by simp[ht])) b xac;have ee:=sX (by rw[hn];decide) (by rw[hn];decide) (by rw[hn];decide);have ag:=Ax y ak ee G J
 have aI:ts++c::([n]++d::us)=((k::l::(ts++c::n::d::(us++[q]))).drop 2).take (m-1-2):=by
  rw[List.drop_succ_cons,List.drop_succ_cons,List.drop_zero,show ts++c::n::d::(us++[q])=(ts++c::([n]++d::us))++[q] by simp,List.take_append_of_le_length yaf,yao yaf]
 have aO:∀x:List UInt8,x≠Jm->(k.sym==x)=false:=λx B=>by
  rw[beq_eq_false_iff_ne]
  rintro rfl
  exact B O
 refine lj H (Pr.jvp O ah F ak hn G hb ao) (aO _ xab) (aO _ xab) (aO _ xab) (aO _ xab) (aO _ xab) xaa (ts++c::([n]++d::us)) aI (by rw[pe (X:=[ts,[n]]) (y:=us) xac ag _ yaf];exact ca) _ (λW' aQ bA al aU=>?_);exact qev):Zp:=h
theorem cY.qew(h:Zp:=by
 obtain⟨bO,p,aB,N,U⟩:=aD 2 xac
 have bg:(∃v,fJ st u n=.ok v)->∀aA,Kept 0 0 W' aA->_:=λaY aA an=>
  Q aA P I u1 u2 u3 u4 bs st bC bn cL u g o ts.length c0 ts (H.seg (H.ws.keep (al.trans an)) (Gw.refl H.gd) (Mv.of (al.trans an)) (c2.keep an) xaa c3 (λt ht=>by simp[ht])) 2 a F yad az (aY.elim af)
 have bl:(∃v,fJ st u n=.ok v)->_:=λaY=>gF f st u a H.gd H.nm H.lo cc az (aY.elim af)
 have bp:(∃v,fJ st u n=.ok v)->∀s x,az=.ok (s,x)->RsG s aZ:=λaY s x e=>by
  obtain⟨w,_⟩:=bl aY s x e
  obtain⟨v,aM⟩:=aY
  exact gF f s u b w.g (H.nm.gw w) (H.lo.le w.n) cp aZ (a0 v aM s x e)
 have bv:(∃v,fJ st u n=.ok v)->∀s x,az=.ok (s,x)->∀aA aS bb bq bD,WS aA P I aS bb bq bD bs s->Mv (Mst P u1 u2 u3 u4) W' (Mst P aS bb bq bD) aA->Calls prog 103 #[hD P,.slice bC bn cL,.slice (some ⟨g,bO,none⟩) us.length p] aA (TrO aA P I aS bb bq bD bs aZ):=λaY s x e aA aS bb bq bD X C=>by
  obtain⟨w,_⟩:=bl aY s x e
  obtain⟨v,aM⟩:=aY
  exact Q aA P I aS bb bq bD bs s bC bn cL u g bO us.length p us (H.seg X w ((Mv.of al).trans C) (N.keepC C.chg H.tg) xaa U (λt ht=>by simp[ht])) 2 b hb yad aZ (a0 v aM s x e)
 obtain⟨ae,K,S⟩:=k;simp only at O;subst O;exact Em (H.ws.keep al) H.gd.m (H.lc.keep al) H.ln K S n xac au (H.ws.far2 ax) c1 ⟨au,br,c2'⟩ aB az aZ bl (λv aM=>oF H.nm H.lo aM) bp bg bv):Zp:=h
open cY in
theorem Ie{k l c n d q}(Q:TrC f)(H:TrIn W P I u1 u2 u3 u4 bs st bC bn u g off m cap (k::l::(ts++c::n::d::(us++[q]))))(O:k.sym=Jm)(ah:l.sym=[40])(F:Pr 2 [a] ts)(ak:c.sym=[44])(hn:n.sym=gU)(G:d.sym=[44])(hb:Pr 2 [b] us)(ao:q.sym=[41])(h:eP (f+1) st u (.jvp k a n b)=some r):
  Calls prog 103 #[hD P,.slice bC bn cL,.slice (some ⟨g,off,none⟩) m cap] W (TrO W P I u1 u2 u3 u4 bs r):=by
 obtain⟨az,aZ,rfl,af,a0⟩:=Eo h;exact qda
