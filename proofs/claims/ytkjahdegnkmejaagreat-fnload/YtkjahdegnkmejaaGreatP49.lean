import Derived.Test.YtkjahdegnkmejaaGreatP41
import Derived.Test.YtkjahdegnkmejaaGreatP48
namespace Go.Proofs.Z
variable{Zp:Prop}
open Tryz Go.RowKit Flt
set_option maxRecDepth 1000000
set_option maxHeartbeats 0
section
theorem K7(w F P a2 Y c1 ae c2 aa c3 s x ins vs outs)(f:GS w F Y (some ⟨a2,0,none⟩) ae P aa ins vs outs)(dc:VA w a2 ae vs)(cj:Y<=1000000)(cw:ae<=2000)(cK:aa<=1000000)(af:(List.range ae).all (okV ins vs)=true)(c7:eY vs<=50000)(aw:s<ae)(aH:x<ae):
  Calls prog 124 #[eX F Y c1 (some ⟨a2,0,none⟩) ae c2 P aa c3,ih s,ih x] w λe O=>uW w O Y aa ins outs (grM vs s x) e/\Kept 0 0 w O:=by
 cases aB:(jg vs x (s-x)).getD s false with
 |false=>exact xn w _ _ _ _ _ _ _ _ _ s x _ _ _ f dc cj cw cK af c7 aw aH aB
 |true=>exact zZ w _ _ _ _ _ _ _ _ _ s x _ _ _ f dc cj cw cK af c7 aw aH aB
theorem WS.grad{W P I u1 u2 u3 u4 bs st}(h:WS W P I u1 u2 u3 u4 bs st)(g:Gd st){s x}(aw:s<st.vs.length)(aH:x<st.vs.length):
  ∃a1 bH a2 bJ a3 cb,u1=.slice a1 st.ins.length bH/\u2=ia a2 st.vs.length bJ/\u3=.slice a3 st.outs.length cb/\
   (Calls prog 124 #[eX a1 st.ins.length bH (some ⟨a2,0,none⟩) st.vs.length bJ a3 st.outs.length cb,ih s,ih x] W λe O=>uW W O st.ins.length st.outs.length st.ins st.outs (grM st.vs s x) e/\Kept 0 0 W O)/\
   ∀t:Nat,Calls prog 126 #[eX a1 st.ins.length bH (some ⟨a2,0,none⟩) st.vs.length bJ a3 st.outs.length cb,ih s,ih x,ih t] W λe O=>uW W O st.ins.length st.outs.length st.ins st.outs (jK st.vs s x t) e/\Kept 0 0 W O:=by
 obtain⟨a2,bJ,be,_,_,_,bp⟩:=mV h.r2 xaa rfl;obtain⟨a1,bH,K,aP,a3,cb,ad,bm,ah,N⟩:=h.gs g.k;rw[be]at bm;cases bm;have hi:=g.i;have aR:=g.o;exact⟨_,_,_,_,_,_,ad,be,ah,K7 W _ _ _ _ _ _ _ _ _ s x _ _ _ N bp xaa g.n xaa g.ok g.c aw aH,λt=>ND W _ _ _ _ _ _ _ _ _ s x t _ _ _ N bp xaa g.n xaa g.ok g.c aw aH⟩
end
section
attribute[local go_sem] eE eC eB
def Hx(k:Tok)(q:Rs Nat)(r1:Rs (LSt×Nat)):Rs (LSt×Nat):=match q with
 |.error f=>.error f
 |.ok v=>match r1 with
  |.error f=>.error f
  |.ok (s,a)=>pr s k a v
theorem aX.qbo(h:Zp:=by
 have b7:V _:=ct.o.keepC bC.chg aO.o;obtain⟨b5,cv,be,cr,b4⟩:=a8.lenc aB;have Z:V _:=(Mv.of bN.o).trans bC;have am:V _:=a8;have bT:=b7.o.c0;have aX:=b7.o.c1;have bL:=w.g.n;have bn:=a8.c1;rw[be]at bn;have aI:V (r=pr s ⟨[103,114,97,100],aS,aa⟩ a v):=HR.o;clear HR aw ct a0 bC;by_cases B:eW s a=1
 ·obtain⟨a1,bH,a2,bJ,a3,cb,ad,bm,ah,bV,_⟩:=a8.grad w.g aB aH;obtain⟨bl,bM,cP⟩:=zc w.g.v aB aH B;obtain⟨j,hj⟩:∃j:Nat,(grM s.vs a v).2=(j:Int):=⟨_,(Int.toNat_of_nonneg bM.1).symm⟩
  have aU:V (r=if kq (grM s.vs a v).1=true then .error (5,aS)else .ok ({s with vs:=(grM s.vs a v).1},j)):=by
   show r=_;rw[aI.o];unfold pr;rw[ip (by simpa using B)];unfold iB;rw[hj,Int.toNat_natCast]
  have a6:∀k,k<(grM s.vs a v).1.length->_:=λk J=>fV (bl.1 k J);rw[be]at bm;cases bm;subst ad be ah;have bG:=a8.c0;have p2:=a8.c2;have bj:V _:=bV;have bO:=bl.2;generalize grM s.vs a v=M at*;obtain⟨g,db⟩:=M;simp only at hj a6 bO aU;subst hj
  have br:V (∀F R aX K cap U ab,Kept 0 0 aM F->F.ownsRow aM.heap.size 3 1 (.slice R s.ins.length aX) s.ins.length (s.ins.map (Value.int .i64))->F.ownsRow aM.heap.size 79 6 (.slice K g.length cap) g.length (fU g)->F.ownsRow aM.heap.size 3 1 (.slice U s.outs.length ab) s.outs.length (s.outs.map (Value.int .i64))->Apart (.slice R s.ins.length aX) (.slice U s.outs.length ab)->Calls prog 125 #[ge P,eX R s.ins.length aX K g.length cap U s.outs.length ab,ih j,ih aS] F λe z=>(∃x:Int,e=.returned (ih x))/\V (TrO W P I u1 u2 u3 u4 bs r e z)):=λF R aX K cap U ab al ax aF bv bp=>yaj (qw a8 al ax aF bv bp bO a6 j aS) (λe z t=>⟨t.ret,by
   show TrO W P I u1 u2 u3 u4 bs r e z
   rw[aU.o]
   exact TrO.after Z.o t⟩)
  clear bV a8 aI aU bD b8 bF am bl bM cP a6 bO w Z aO bN;rw[B]at b4;generalize s.vs.length=aZ at*;generalize s.ins.length=cf at*;generalize s.outs.length=cp at*;go_upto_region 20 with (go_at_call 124;refine yaj bj.o ?_;rintro e bx ⟨⟨R,aY,U,a9,K,bd,rfl,ax,aF,bv,bp⟩,bS⟩);have m:=(b7.o.keep bS).c1;have b9:V (∀F,Kept 0 0 bx F->_):=λF al=>br.o F R aY K bd U a9 (bS.trans al) (eN ax al) (eN aF al) (eN bv al) bp;have cO:V (∀F,Kept 0 0 bx F->_):=λF al=>(b7.o.keep (bS.trans al)).c1;clear ax aF bv bp br bj b4 bG bn p2 bT aX;have bk:=cO.o _ (eA 0 0 bx (fB R cf aY K g.length bd U cp a9));have an:V _:=b9.o _ (eA 0 0 bx (fB R cf aY K g.length bd U cp a9));go_wp2_with (go_at_call 125;refine yaj an.o ?_;rintro e ch ⟨⟨x,rfl⟩,bh⟩);go_ret;exact bh.o
 have H:V (r=.error (4,aS)):=aI.o.trans (iv B);have cU:=yax B;have bo:V _:=jp a8.c5 a8.c6 a8.fr 4 aS (Mst P bf bb bc C) (.inl rfl);clear a8 aI bD b8 bF am;generalize eW s a=l at b4 B cU;generalize s.vs.length=aZ at*;go_wp2_with (go_at_call 101;refine yaj bo.o ?_;rintro e bx ⟨rfl,ba⟩);go_ret;rw[H.o];exact⟨rfl,ba.c5,ba.c6,Z.o.bad ba.chg⟩):Zp:=h
theorem aX.qej(h:Zp:=by
 rcases ar with⟨c,p⟩|⟨s,a⟩
 ·exact xgn
 exact qgo):Zp:=h
open aX in
theorem Bf{W P I u1 u2 u3 u4 bs st af Q cL u}(h:WS W P I u1 u2 u3 u4 bs st)(aD:st.names.length<=5000)(bI:LcR (Mst P u1 u2 u3 u4) W af Q u)(hn:Q<=5000)(aS aa){bu S ce q o ay c0 ax cy c1}(aj)(cj:2<=S)(cg:bu<W.heap.size)(a5:W.cell? ⟨bu,0,none⟩=some (.slice (some ⟨q,o,none⟩) ay c0))(cQ:Sg1 W bu 1 ax cy c1 aj)(ar)(bR:(∃v,fw st u aj=.ok v)->RsG st ar)(aL:∀v,fw st u aj=.ok v->v<st.vs.length)
  (bi:(∃v,fw st u aj=.ok v)->∀F,Kept 0 0 W F->Calls prog 102 #[ge P,.slice af Q cL,.slice (some ⟨q,o,none⟩) ay c0] F (TrO F P I u1 u2 u3 u4 bs ar)):
  Calls prog 119 #[ge P,.slice af Q cL,iS ⟨[103,114,97,100],aS,aa⟩,ia bu S ce] W (TrO W P I u1 u2 u3 u4 bs (Hx ⟨[103,114,97,100],aS,aa⟩ (fw st u aj) ar)):=by
 have ao:V _:=gY W [103,114,97,100] aS aa;have HK:V _:=eA 0 0 W (.cells #[eL [103,114,97,100],ih aS,eL aa] 127);have aO:V _:=h.far;have az:V (∀F,Kept 0 0 W F->_):=λF al=>(al.cell (p:=⟨bu,0,none⟩) cg xaa).trans a5;have bY:V _:=cQ;have b2:V (∀F,Kept 0 0 W F->_):=λF al=>xy (h.keep al) aD af Q cL u (bI.keep al) hn aj;have Y:V _:=bi;have bD:V _:=bR;have b8:V _:=aL;have bF:V _:=h;obtain⟨r,au⟩:∃r,r=Hx ⟨[103,114,97,100],aS,aa⟩ (fw st u aj) ar:=⟨_,rfl⟩
 rw[<-au];have HR:V _:=au;clear au h bR bi a5 cQ aL bI aD;unfold iS at b2⊢;obtain⟨xs,dp,c9⟩:=aj;simp only at b2⊢;go_enter func119,ntmps119;go_upto_region 2 with fail;change Code.wp _ _ _ _ (W.alloc (.cells #[eL [103,114,97,100],ih aS,eL aa] 127));generalize W.alloc (.cells #[eL [103,114,97,100],ih aS,eL aa] 127)=aq at ao HK⊢;generalize W.heap.size=bP at ao aO⊢;have b:V _:=b2.o aq HK.o;obtain⟨av,aT,G,cB⟩:=(bY.o.keep HK.o).cells;simp only at aT G cB;have bE:=ao.o.c0;clear b2 bY;generalize fw st u ⟨xs,dp,c9⟩=dl at b HR b8 Y bD;rcases dl with⟨c,p⟩|v
 ·exact xdn
 exact qei
end
section
theorem Bg{f st u k x a r}(h:eM (f+1) st u (.grad k a x)=some r):∃ar,r=Hx k (fw st u x) ar/\(∀v,fw st u x=.ok v->eM f st u a=some ar):=by
 rw[eM]at h;cases aL:fw st u x with
 |error q=>rw[aL]at h;cases h;exact⟨.error q,rfl,λv e=>by cases e⟩
 |ok v=>
  rw[aL]at h;simp only at h;cases B:eM f st u a with
  |none=>rw[B]at h;cases h
  |some ar=>
   rw[B]at h;rcases ar with⟨c,p⟩|⟨av,y⟩
   ·cases h;exact⟨_,rfl,λ_ _=>rfl⟩
   cases h;exact⟨_,rfl,λ_ _=>rfl⟩
section
variable{f:Nat}{W:World}{P I:Nat}{u1 u2 u3 u4:Value}{bs:List Bc}{st:LSt}{af:Option Addr}{Q cL:Nat}{u:Loc}{g an m cap:Nat}{ts:List Tok}{a:Ex}{r:Rs (LSt×Nat)}
theorem cX.qed(h:Zp:=by
 have bi:(∃v,fw st u n=.ok v)->∀z,Kept 0 0 F z->_:=λaG z aC=>
  O z P I u1 u2 u3 u4 bs st af Q cL u g o ts.length c0 ts ⟨ab.ws.keep (al.trans aC),ab.gd,ab.nm,ab.lc.keep (al.trans aC),ab.ln,ab.lo,c2.keep aC,ab.tg,i4 ab.m5,c3,λt ht=>ab.ti t (by simp[ht]),λt ht=>ab.tn t (by simp[ht])⟩ 2 a aB yad ar (aG.elim ad)
 have bR:(∃v,fw st u n=.ok v)->_:=λaG=>gc f st u a ab.gd ab.nm ab.lo bU ar (aG.elim ad);obtain⟨U,aS,aa⟩:=k;simp only at J;subst J;exact Bf (ab.ws.keep al) ab.gd.m (ab.lc.keep al) ab.ln aS aa n yad cg c1 ⟨cg,Z,j⟩ ar bR (λv aL=>ow ab.nm ab.lo aL) bi):Zp:=h
theorem cX.qft(h:Zp:=by
 exact qhb):Zp:=h
theorem cX.qhc(h:Zp:=by
 have aW:∀x:List UInt8,x≠Bu->(k.sym==x)=false:=λx B=>by
  rw[beq_eq_false_iff_ne]
  rintro rfl
  exact B J
 refine kP ab (Pr.grad J ag aB ai hn am) (aW _ xab) (aW _ xab) (aW _ xab) (aW _ xab) (aW _ xab) xaa (ts++c::[n]) G (by rw[oP (X:=[ts]) (y:=[n]) xac K _ yag];simp) _ (λF a8 bj al a5=>?_);exact qec):Zp:=h
open cX in
theorem DY{k l c n q}(O:TrC f)(ab:TrIn W P I u1 u2 u3 u4 bs st af Q u g an m cap (k::l::(ts++[c,n,q])))(J:k.sym=Bu)(ag:l.sym=[40])(aB:Pr 2 [a] ts)(ai:c.sym=[44])(hn:n.sym=gz)(am:q.sym=[41])(h:eM (f+1) st u (.grad k a n)=some r):
  Calls prog 102 #[ge P,.slice af Q cL,.slice (some ⟨g,an,none⟩) m cap] W (TrO W P I u1 u2 u3 u4 bs r):=by
 obtain⟨ar,rfl,ad⟩:=Bg h;exact qfs
end
end
section
attribute[local go_sem] eE eC eB
variable{k:Tok}{st:LSt}{a x d:Nat}
def PJ(k:Tok)(a v:Nat)(r2:Rs (LSt×Nat)):Rs (LSt×Nat):=match r2 with
 |.error f=>.error f
 |.ok (s2,y)=>pC s2 k a v y
def Ow(k:Tok)(q:Rs Nat)(r1 r2:Rs (LSt×Nat)):Rs (LSt×Nat):=match q with
 |.error f=>.error f
 |.ok v=>match r1 with
  |.error f=>.error f
  |.ok (_,a)=>PJ k a v r2
def PK(k:Tok)(a v:Nat)(r3:Rs (LSt×Nat)):Rs (LSt×Nat):=match r3 with
 |.error f=>.error f
 |.ok (s3,d)=>iB s3 (jK s3.vs a v d) k.pos
theorem DZ(B:eW st d=1)(N:1<eW st x):pC st k a x d=PK k a x (fQ st (eK 10 (eW st x) (d:Int) 0 0) k.pos):=by
 unfold pC;rw[iv ⟨B,N⟩];rfl
theorem Hy(B:eW st d≠1)(N:eW st d≠eW st x):pC st k a x d=.error (4,k.pos):=by
 unfold pC;rw[ip (λc=>B c.1),iv N]
theorem vJ(B:¬(eW st d=1/\1<eW st x))(N:eW st d=eW st x):pC st k a x d=iB st (jK st.vs a x d) k.pos:=by
 unfold pC;rw[ip B,ip (λc=>c N)]
theorem aY.qbo(h:Zp:=by
 have b7:V _:=ct.o.keepC bC.chg aO.o;have cz:V (¬Mst P bf bb bc C bP):=λc=>(bC.new bP c).elim aO.o (λc=>i4 ct.o.lt);obtain⟨b5,cv,be,cr,b4⟩:=a8.lenc aB;have Z:V _:=(Mv.of bN.o).trans bC;have bT:=b7.o.c0;have bL:=w.g.n;have bn:=a8.c1;rw[be]at bn;have aT:=cu.o aM _ Z.o;have aI:V (r=PJ ⟨[106,118,112],aS,aa⟩ a v aQ):=HR.o;have cc:V _:=cD.o ⟨v,rfl⟩ s a rfl aM bf bb bc C a8 Z.o;have fl:V _:=cG.o ⟨v,rfl⟩ s a rfl;clear HR aw ct a0 bC a8 cD cG bD b8 aO bN be cr cu;generalize eW s a=l at b4;generalize c7:s.vs.length=aZ at*;go_upto_region 22 with fail;clear b4 bn;rcases aQ with⟨c,p⟩|⟨f,y⟩
 ·go_wp2_with (go_at_call 102;refine yaj cc.o ?_;rintro e bx ⟨rfl,bh⟩);go_ret;rw[aI.o];exact TrO.after Z.o ⟨rfl,bh⟩
 obtain⟨bU,bK⟩:=fl.o f y rfl;subst c7;have bZ:=yak aH bU.n;have cd:=yak aB bU.n;have dc:¬((y:Int)<0):=xaa;clear bL;generalize s.vs.length=aZ at*;go_upto_region 25 with (go_at_call 102;refine yaj cc.o ?_;rintro e bx ⟨rfl,aV,bg,bq,bB,aR,bX⟩);have aG:V _:=b7.o.keepC bX.chg cz.o;have cx:V (¬Mst P aV bg bq bB bP):=λc=>(bX.new bP c).elim cz.o (λc=>i4 b7.o.lt);have cA:V _:=Z.o.trans bX;have cn:V (r=pC f ⟨[106,118,112],aS,aa⟩ a v y):=aI.o;have m:=bU.g;have cX:=m.lenB bZ;obtain⟨d9,d0,e4,d7,c6⟩:=aR.lenc bZ;obtain⟨ea,d1,cl,_,c8⟩:=aR.lenc bK;rw[e4]at cl;cases cl;have bn:=aR.c1;rw[e4]at bn;have bL:=m.n;have R:=aG.o.c1;clear cc aI bX Z b7 cz fl bT aT bU d7;by_cases B:eW f y=1
 ·by_cases N:1<eW f v
  ·have b1:V _:=DZ (k:=⟨[106,118,112],aS,aa⟩) (a:=a) B N;have aU:V (r=PK ⟨[106,118,112],aS,aa⟩ a v (fQ f (eK 10 (eW f v) (y:Int) 0 0) aS)):=cn.o.trans b1.o;have cq:V _:=λG bk (aA:fQ f (eK 10 (eW f v) (y:Int) 0 0) aS=.ok (G,bk))=>ot m (m.v.p10 cX (by have cR:=jE bK;rw[B]at cR;exact cR)) aA;have ai:V (∀F,Kept 0 0 bx F->Calls prog 105 #[ge P,(eK 10 (eW f v) (y:Int) 0 0).agg,ih aS] F λe z=>V (TrO bx P I aV bg bq bB bs (fQ f (eK 10 (eW f v) (y:Int) 0 0) aS) e z)/\(∃x:Int,e=.returned (ih x))/\z.cell? ⟨bP,1,none⟩=some (ih aS)):=λF al=>yaj (lV (aR.keep al) m (eK 10 (eW f v) (y:Int) 0 0) cX yah aS) (λe z t=>⟨TrO.back al t,t.ret,(t.chg.cell (p:=⟨bP,1,none⟩) (aG.o.keep al).lt cx.o).trans (aG.o.keep al).c1⟩);have cF:V (∀G,Gw f G->_):=λG aK=>aK.l v bZ;rw[B]at c8;clear cn b1;generalize cW:fQ f (eK 10 (eW f v) (y:Int) 0 0) aS=aN at aU cq ai;clear cW;generalize et:eW f v=dg at*;clear et;clear aR;subst e4;rcases aN with⟨c,p⟩|⟨G,bk⟩
   ·generalize f.vs.length=ds at*;go_upto_region 27 with fail;clear c6 c8 bn
    go_region_held3 (λO=>O.cell? ⟨bP,1,none⟩=some (ih aS)) (go_keep)
     (first
      |(go_at_call 60;refine yaj (gq _ _ _ _ _ _) ?_;rintro e ch ⟨rfl,b6⟩;have aW:=(aG.o.keep ((eD bx).trans b6)).c1)
      |(go_at_call 105;refine yaj (ai.o _ ((eD bx).trans b6)) ?_;rintro e ci ⟨bh,⟨_,_⟩,ca⟩;obtain rfl:=bh.o.1))
    all_goals (
     go_wp2_with fail
     go_ret
     rw[aU.o]
     exact TrO.after cA.o ⟨rfl,bh.o.2⟩)
   obtain⟨aK,cS,cJ⟩:=cq.o G bk rfl;have hd0:¬((bk:Int)<0):=xaa;have cK:=yak cd aK.n;have cN:=yak bZ aK.n;have d6:=cF.o G aK;have am:=aK.g;have co:V (r=iB G (jK G.vs a v bk) aS):=aU.o
   have bQ:Ln G.vs (bk:Int) (je G.vs (v:Int)):=by
    have cw:=jE cS;rw[jb,show(G.vs.getD v i0).len=eW G v from rfl,d6,<-(show eW G bk=dg from cJ)];exact cw
   have cV:eW G bk=dg:=cJ;clear aU cq cF aK cJ d6 cX;generalize f.vs.length=ds at*;go_upto_region 27 with fail;clear c6 c8 bn
   go_region_held3 (λO=>O.cell? ⟨bP,1,none⟩=some (ih aS)) (go_keep)
    (first
     |(go_at_call 60;refine yaj (gq _ _ _ _ _ _) ?_;rintro e ch ⟨rfl,b6⟩;have aW:=(aG.o.keep ((eD bx).trans b6)).c1)
     |(go_at_call 105;refine yaj (ai.o _ ((eD bx).trans b6)) ?_;rintro e ci ⟨bh,⟨_,_⟩,ca⟩;obtain rfl:=bh.o.1))
   all_goals (
    obtain⟨_,aJ,aP,bw,b3,X,dd⟩:=bh.o
    have bS:V _:=cA.o.trans dd
    have bF:V _:=aG.o.keepC dd.chg cx.o
    clear bh dd cA aG ai
    obtain⟨a1,bH,a2,bJ,a3,cb,ad,bm,ah,_,cI⟩:=X.grad am cK cN
    have bV:=cI bk
    obtain⟨bl,bM,cP⟩:=mM am.v cK cN bQ
    obtain⟨j,hj⟩:∃j:Nat,(jK G.vs a v bk).2=(j:Int):=⟨_,(Int.toNat_of_nonneg bM.1).symm⟩
    have aU:V (r=if kq (jK G.vs a v bk).1=true then .error (5,aS)else .ok ({G with vs:=(jK G.vs a v bk).1},j)):=by
     show r=_
     rw[co.o]
     unfold iB
     rw[hj,Int.toNat_natCast]
    have a6:∀k,k<(jK G.vs a v bk).1.length->_:=λk J=>fV (bl.1 k J)
    obtain⟨d3,d2,bA,_,cH⟩:=X.lenc cS
    rw[bA]at bm
    cases bm
    rw[cV]at cH
    have bG:=X.c0
    have bn:=X.c1
    have p2:=X.c2
    subst ad bA ah
    have bj:V _:=bV
    have bO:=bl.2
    generalize jK G.vs a v bk=cT at*
    obtain⟨g,db⟩:=cT
    simp only at hj a6 bO aU
    subst hj
    have br:V (∀F R aX K cap U ab,Kept 0 0 ci F->F.ownsRow ci.heap.size 3 1 (.slice R G.ins.length aX) G.ins.length (G.ins.map (Value.int .i64))->F.ownsRow ci.heap.size 79 6 (.slice K g.length cap) g.length (fU g)->F.ownsRow ci.heap.size 3 1 (.slice U G.outs.length ab) G.outs.length (G.outs.map (Value.int .i64))->Apart (.slice R G.ins.length aX) (.slice U G.outs.length ab)->Calls prog 125 #[ge P,eX R G.ins.length aX K g.length cap U G.outs.length ab,ih j,ih aS] F λe z=>(∃x:Int,e=.returned (ih x))/\V (TrO W P I u1 u2 u3 u4 bs r e z)):=λF R aX K cap U ab al ax aF bv bp=>yaj (qw X al ax aF bv bp bO a6 j aS) (λe z t=>⟨t.ret,by
     show TrO W P I u1 u2 u3 u4 bs r e z
     rw[aU.o]
     exact TrO.after bS.o t⟩)
    clear bV cI X co aU bl bM cP a6 bO am bS bQ
    generalize G.vs.length=dv at*
    generalize G.ins.length=cf at*
    generalize G.outs.length=cp at*
    go_upto_region 33 with (go_at_call 126;refine yaj bj.o ?_;rintro e bW ⟨⟨R,aY,U,a9,K,bd,rfl,ax,aF,bv,bp⟩,ag⟩)
    have b9:V (∀F,Kept 0 0 bW F->_):=λF al=>br.o F R aY K bd U a9 (ag.trans al) (eN ax al) (eN aF al) (eN bv al) bp
    have cO:V (∀F,Kept 0 0 bW F->_):=λF al=>(bF.o.keep (ag.trans al)).c1
    clear ax aF bv bp br bj cH bG bn p2
    have bk:=cO.o _ (eA 0 0 bW (fB R cf aY K g.length bd U cp a9))
    have an:V _:=b9.o _ (eA 0 0 bW (fB R cf aY K g.length bd U cp a9))
    go_wp2_with (go_at_call 125;refine yaj an.o ?_;rintro e a7 ⟨⟨x,rfl⟩,bh⟩)
    go_ret
    exact bh.o)
  have di:eW f v=1:=xaa;have co:V (r=iB f (jK f.vs a v y) aS):=cn.o.trans (vJ (λc=>N c.2) (B.trans di.symm))
  have bQ:Ln f.vs (y:Int) (je f.vs (v:Int)):=by
   have cw:=jE bK;rw[jb,show(f.vs.getD v i0).len=eW f v from rfl,di,<-B];exact cw
  rw[B]at c8;rw[di]at c6;have cV:=B;have cS:=bK;have cK:=cd;have cN:=bZ;have am:=m;have X:=aR;have bS:V _:=cA.o;have bF:V _:=aG.o;clear cn aR cA aG cX m;obtain⟨a1,bH,a2,bJ,a3,cb,ad,bm,ah,_,cI⟩:=X.grad am cK cN;have bV:=cI y;obtain⟨bl,bM,cP⟩:=mM am.v cK cN bQ;obtain⟨j,hj⟩:∃j:Nat,(jK f.vs a v y).2=(j:Int):=⟨_,(Int.toNat_of_nonneg bM.1).symm⟩
  have aU:V (r=if kq (jK f.vs a v y).1=true then .error (5,aS)else .ok ({f with vs:=(jK f.vs a v y).1},j)):=by
   show r=_;rw[co.o];unfold iB;rw[hj,Int.toNat_natCast]
  have a6:∀k,k<(jK f.vs a v y).1.length->_:=λk J=>fV (bl.1 k J);obtain⟨d3,d2,bA,_,cH⟩:=X.lenc cS;rw[bA]at bm;cases bm;rw[cV]at cH;have bG:=X.c0;have bn:=X.c1;have p2:=X.c2;subst ad bA ah;(try cases‹ia _ _ _=ia _ _ _›);have bj:V _:=bV;have bO:=bl.2;generalize jK f.vs a v y=cT at*;obtain⟨g,db⟩:=cT;simp only at hj a6 bO aU;subst hj
  have br:V (∀F R aX K cap U ab,Kept 0 0 bx F->F.ownsRow bx.heap.size 3 1 (.slice R f.ins.length aX) f.ins.length (f.ins.map (Value.int .i64))->F.ownsRow bx.heap.size 79 6 (.slice K g.length cap) g.length (fU g)->F.ownsRow bx.heap.size 3 1 (.slice U f.outs.length ab) f.outs.length (f.outs.map (Value.int .i64))->Apart (.slice R f.ins.length aX) (.slice U f.outs.length ab)->Calls prog 125 #[ge P,eX R f.ins.length aX K g.length cap U f.outs.length ab,ih j,ih aS] F λe z=>(∃x:Int,e=.returned (ih x))/\V (TrO W P I u1 u2 u3 u4 bs r e z)):=λF R aX K cap U ab al ax aF bv bp=>yaj (qw X al ax aF bv bp bO a6 j aS) (λe z t=>⟨t.ret,by
   show TrO W P I u1 u2 u3 u4 bs r e z
   rw[aU.o]
   exact TrO.after bS.o t⟩)
  clear bV cI X co aU bl bM cP a6 bO am bS bQ;exact xbt
 by_cases N:eW f y=eW f v
 ·have co:V (r=iB f (jK f.vs a v y) aS):=cn.o.trans (vJ (λc=>B c.1) N)
  have bQ:Ln f.vs (y:Int) (je f.vs (v:Int)):=by
   have cw:=jE bK;rw[jb,show(f.vs.getD v i0).len=eW f v from rfl,<-N];exact cw
  rw[<-N]at c6;have cV:eW f y=eW f y:=rfl;have cS:=bK;have cK:=cd;have cN:=bZ;have am:=m;have X:=aR;have cU:=yax B;have bS:V _:=cA.o;have bF:V _:=aG.o;clear cn aR cA aG cX m;obtain⟨a1,bH,a2,bJ,a3,cb,ad,bm,ah,_,cI⟩:=X.grad am cK cN;have bV:=cI y;obtain⟨bl,bM,cP⟩:=mM am.v cK cN bQ;obtain⟨j,hj⟩:∃j:Nat,(jK f.vs a v y).2=(j:Int):=⟨_,(Int.toNat_of_nonneg bM.1).symm⟩
  have aU:V (r=if kq (jK f.vs a v y).1=true then .error (5,aS)else .ok ({f with vs:=(jK f.vs a v y).1},j)):=by
   show r=_;rw[co.o];unfold iB;rw[hj,Int.toNat_natCast]
  have a6:∀k,k<(jK f.vs a v y).1.length->_:=λk J=>fV (bl.1 k J);obtain⟨d3,d2,bA,_,cH⟩:=X.lenc cS;rw[bA]at bm;cases bm;rw[cV]at cH;have bG:=X.c0;have bn:=X.c1;have p2:=X.c2;subst ad bA ah;(try cases‹ia _ _ _=ia _ _ _›);have bj:V _:=bV;have bO:=bl.2;generalize jK f.vs a v y=cT at*;obtain⟨g,db⟩:=cT;simp only at hj a6 bO aU;subst hj
  have br:V (∀F R aX K cap U ab,Kept 0 0 bx F->F.ownsRow bx.heap.size 3 1 (.slice R f.ins.length aX) f.ins.length (f.ins.map (Value.int .i64))->F.ownsRow bx.heap.size 79 6 (.slice K g.length cap) g.length (fU g)->F.ownsRow bx.heap.size 3 1 (.slice U f.outs.length ab) f.outs.length (f.outs.map (Value.int .i64))->Apart (.slice R f.ins.length aX) (.slice U f.outs.length ab)->Calls prog 125 #[ge P,eX R f.ins.length aX K g.length cap U f.outs.length ab,ih j,ih aS] F λe z=>(∃x:Int,e=.returned (ih x))/\V (TrO W P I u1 u2 u3 u4 bs r e z)):=λF R aX K cap U ab al ax aF bv bp=>yaj (qw X al ax aF bv bp bO a6 j aS) (λe z t=>⟨t.ret,by
   show TrO W P I u1 u2 u3 u4 bs r e z
   rw[aU.o]
   exact TrO.after bS.o t⟩)
  clear bV cI X co aU bl bM cP a6 bO am bS bQ;generalize eW f y=d8 at*;exact xbt
 have H:V (r=.error (4,aS)):=cn.o.trans (Hy B N);have cU:=yax B;have da:=yax N;have bo:V _:=jp aR.c5 aR.c6 aR.fr 4 aS (Mst P aV bg bq bB) (.inl rfl);clear aR cn;subst e4;generalize eW f y=d8 at*;generalize eW f v=dg at*;generalize f.vs.length=ds at*;go_wp2_with (go_at_call 101;refine yaj bo.o ?_;rintro e bz ⟨rfl,ba⟩);go_ret;rw[H.o];exact⟨rfl,ba.c5,ba.c6,cA.o.bad ba.chg⟩):Zp:=h
theorem aY.qej(h:Zp:=by
 rcases ar with⟨c,p⟩|⟨s,a⟩
 ·exact xgn
 exact qgo):Zp:=h
open aY in
theorem D0{W P I u1 u2 u3 u4 bs af Q cL u}(h:WS W P I u1 u2 u3 u4 bs st)(aD:st.names.length<=5000)(bI:LcR (Mst P u1 u2 u3 u4) W af Q u)(hn:Q<=5000)(aS aa){bu S ce q o ay c0 ax cy c1 aF ck ae c2}(aj)(cj:3<=S)(cg:bu<W.heap.size)(d4:¬Mst P u1 u2 u3 u4 bu)(a5:W.cell? ⟨bu,0,none⟩=some (.slice (some ⟨q,o,none⟩) ay c0))(cQ:Sg1 W bu 1 ax cy c1 aj)(b0:W.cell? ⟨bu,2,none⟩=some (.slice (some ⟨aF,ck,none⟩) ae c2))(ar aQ)(bR:(∃v,fw st u aj=.ok v)->RsG st ar)(aL:∀v,fw st u aj=.ok v->v<st.vs.length)(ap:(∃v,fw st u aj=.ok v)->∀s a,ar=.ok (s,a)->RsG s aQ)
  (bi:(∃v,fw st u aj=.ok v)->∀F,Kept 0 0 W F->Calls prog 102 #[ge P,.slice af Q cL,.slice (some ⟨q,o,none⟩) ay c0] F (TrO F P I u1 u2 u3 u4 bs ar))
  (cC:(∃v,fw st u aj=.ok v)->∀s a,ar=.ok (s,a)->∀F aV bg bq bB,WS F P I aV bg bq bB bs s->Mv (Mst P u1 u2 u3 u4) W (Mst P aV bg bq bB) F->Calls prog 102 #[ge P,.slice af Q cL,.slice (some ⟨aF,ck,none⟩) ae c2] F (TrO F P I aV bg bq bB bs aQ)):
  Calls prog 119 #[ge P,.slice af Q cL,iS ⟨[106,118,112],aS,aa⟩,ia bu S ce] W (TrO W P I u1 u2 u3 u4 bs (Ow ⟨[106,118,112],aS,aa⟩ (fw st u aj) ar aQ)):=by
 have ao:V _:=gY W [106,118,112] aS aa;have HK:V _:=eA 0 0 W (.cells #[eL [106,118,112],ih aS,eL aa] 127);have aO:V _:=h.far;have az:V (∀F,Kept 0 0 W F->_):=λF al=>(al.cell (p:=⟨bu,0,none⟩) cg xaa).trans a5;have bY:V _:=cQ;have cu:V (∀F M',Mv (Mst P u1 u2 u3 u4) W M' F->_):=λF M' al=>(al.chg.cell (p:=⟨bu,2,none⟩) cg d4).trans b0;have b2:V (∀F,Kept 0 0 W F->_):=λF al=>xy (h.keep al) aD af Q cL u (bI.keep al) hn aj;have Y:V _:=bi;have cD:V _:=cC;have bD:V _:=bR;have cG:V _:=ap;have b8:V _:=aL;obtain⟨r,au⟩:∃r,r=Ow ⟨[106,118,112],aS,aa⟩ (fw st u aj) ar aQ:=⟨_,rfl⟩
 rw[<-au];have HR:V _:=au;clear au h bR bi a5 cQ b0 aL bI aD cC ap d4;unfold iS at b2⊢;obtain⟨xs,dp,c9⟩:=aj;simp only at b2⊢;go_enter func119,ntmps119;go_upto_region 2 with fail;change Code.wp _ _ _ _ (W.alloc (.cells #[eL [106,118,112],ih aS,eL aa] 127));generalize W.alloc (.cells #[eL [106,118,112],ih aS,eL aa] 127)=aq at ao HK⊢;generalize W.heap.size=bP at ao aO cg⊢;have b:V _:=b2.o aq HK.o;obtain⟨av,aT,G,cB⟩:=(bY.o.keep HK.o).cells;simp only at aT G cB;have bE:=ao.o.c0;clear b2 bY;generalize fw st u ⟨xs,dp,c9⟩=dl at b HR b8 Y bD cD cG;rcases dl with⟨c,p⟩|v
 ·exact xdn
 exact qei
