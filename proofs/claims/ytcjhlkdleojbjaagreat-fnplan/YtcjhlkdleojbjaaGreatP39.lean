import Derived.Test.YtcjhlkdleojbjaaGreatP26
import Derived.Test.YtcjhlkdleojbjaaGreatP38
import Derived.Test.YtcjhlkdleojbjaaGreatP33
namespace Go.Proofs.Z
variable{Zp:Prop}
open Tryz Go.RowKit Flt
set_option maxRecDepth 1000000
set_option maxHeartbeats 0
section
theorem L8(w Q ae aN Z c1 n2 c2 ab c3 s x ins vs outs)(f:GS w Q Z (some ⟨aN,0,none⟩) n2 ae ab ins vs outs)(cW:VA w aN n2 vs)(b8:Z<=1000000)(cg:n2<=2000)(cO:ab<=1000000)(bV:(List.range n2).all (okV ins vs)=true)(cT:eU vs<=50000)(au:s<n2)(an:x<n2):
  Calls prog 134 #[eZ Q Z c1 (some ⟨aN,0,none⟩) n2 c2 ae ab c3,hA s,hA x] w λe B=>vD w B Z ab ins outs (grM vs s x) e/\Kept 0 0 w B:=by
 cases ar:(jg vs x (s-x)).getD s false with
 |false=>exact xP w _ _ _ _ _ _ _ _ _ s x _ _ _ f cW b8 cg cO bV cT au an ar
 |true=>exact Al w _ _ _ _ _ _ _ _ _ s x _ _ _ f cW b8 cg cO bV cT au an ar
theorem WS.grad{W P J u1 u2 u3 u4 bs st}(h:WS W P J u1 u2 u3 u4 bs st)(g:Gd st){s x}(au:s<st.vs.length)(an:x<st.vs.length):
  ∃a1 bo aN bw a3 bR,u1=.slice a1 st.ins.length bo/\u2=hz aN st.vs.length bw/\u3=.slice a3 st.outs.length bR/\
   (Calls prog 134 #[eZ a1 st.ins.length bo (some ⟨aN,0,none⟩) st.vs.length bw a3 st.outs.length bR,hA s,hA x] W λe B=>vD W B st.ins.length st.outs.length st.ins st.outs (grM st.vs s x) e/\Kept 0 0 W B)/\
   ∀t:Nat,Calls prog 136 #[eZ a1 st.ins.length bo (some ⟨aN,0,none⟩) st.vs.length bw a3 st.outs.length bR,hA s,hA x,hA t] W λe B=>vD W B st.ins.length st.outs.length st.ins st.outs (jH st.vs s x t) e/\Kept 0 0 W B:=by
 obtain⟨aN,bw,a9,_,_,_,a6⟩:=mX h.r2 xaa rfl;obtain⟨a1,bo,U,y2,a3,bR,ae,bh,ai,Z⟩:=h.gs g.k;rw[a9]at bh;cases bh;have hi:=g.i;have ho:=g.o;exact⟨_,_,_,_,_,_,ae,a9,ai,L8 W _ _ _ _ _ _ _ _ _ s x _ _ _ Z a6 xaa g.n xaa g.ok g.c au an,λt=>OK W _ _ _ _ _ _ _ _ _ s x t _ _ _ Z a6 xaa g.n xaa g.ok g.c au an⟩
end
section
attribute[local go_sem] eF eE eD
def IX(k:Tok)(q:Rs Nat)(r1:Rs (LSt×Nat)):Rs (LSt×Nat):=match q with
 |.error f=>.error f
 |.ok v=>match r1 with
  |.error f=>.error f
  |.ok (s,a)=>py s k a v
theorem aJ.qbm(h:Zp:=by
 have cj:E _:=cy.o.keepC bv.chg HF.o;obtain⟨bJ,cv,a9,b3,b2⟩:=aK.lenc ar;have HM:E _:=(Mv.of bB.o).trans bv;have a0:E _:=aK;have bS:=cj.o.c0;have aH:=cj.o.c1;have bC:=w.g.n;have bu:=aK.c1;rw[a9]at bu;have bI:E (r=py s ⟨[103,114,97,100],S,C⟩ a v):=HR.o;clear HR bZ cy aZ bv;by_cases F:eX s a=1
 ·obtain⟨a1,bo,aN,bw,a3,bR,ae,bh,ai,b8,_⟩:=aK.grad w.g ar an;obtain⟨aR,cd,cO⟩:=zX w.g.v ar an F;obtain⟨j,hj⟩:∃j:Nat,(grM s.vs a v).2=(j:Int):=⟨_,(Int.toNat_of_nonneg cd.1).symm⟩
  have m:E (r=if jY (grM s.vs a v).1=true then .error (5,S)else .ok ({s with vs:=(grM s.vs a v).1},j)):=by
   show r=_;rw[bI.o];unfold py;rw[hC (by simpa using F)];unfold iJ;rw[hj,Int.toNat_natCast]
  have ca:∀k,k<(grM s.vs a v).1.length->_:=λk O=>fU (aR.1 k O);rw[a9]at bh;cases bh;subst ae a9 ai;have bK:=aK.c0;have p2:=aK.c2;have bV:E _:=b8;have bP:=aR.2;generalize grM s.vs a v=M at*;obtain⟨g,c9⟩:=M;simp only at hj ca bP m;subst hj
  have bG:E (∀I R aH U cap aa Y,Kept 0 0 aF I->I.ownsRow aF.heap.size 3 1 (.slice R s.ins.length aH) s.ins.length (s.ins.map (Value.int .i64))->I.ownsRow aF.heap.size 62 6 (.slice U g.length cap) g.length (fF g)->I.ownsRow aF.heap.size 3 1 (.slice aa s.outs.length Y) s.outs.length (s.outs.map (Value.int .i64))->Apart (.slice R s.ins.length aH) (.slice aa s.outs.length Y)->Calls prog 135 #[hy P,eZ R s.ins.length aH U g.length cap aa s.outs.length Y,hA j,hA S] I λe ab=>(∃x:Int,e=.returned (hA x))/\E (TrO W P J u1 u2 u3 u4 bs r e ab)):=λI R aH U cap aa Y aj aC aL b1 aY=>yaj (qG aK aj aC aL b1 aY bP ca j S) (λe ab t=>⟨t.ret,by
   show TrO W P J u1 u2 u3 u4 bs r e ab
   rw[m.o]
   exact TrO.after HM.o t⟩)
  clear b8 aK bI m be b0 bq a0 aR cd cO ca bP w HM HF bB;rw[F]at b2;generalize s.vs.length=aV at*;generalize s.ins.length=ck at*;generalize s.outs.length=cw at*;go_upto_region 20 with (go_at_call 134;refine yaj bV.o ?_;rintro e bc ⟨⟨R,ao,aa,aI,U,aw,rfl,aC,aL,b1,aY⟩,bM⟩);have f:=(cj.o.keep bM).c1;have bn:E (∀I,Kept 0 0 bc I->_):=λI aj=>bG.o I R ao U aw aa aI (bM.trans aj) (eO aC aj) (eO aL aj) (eO b1 aj) aY;have cN:E (∀I,Kept 0 0 bc I->_):=λI aj=>(cj.o.keep (bM.trans aj)).c1;clear aC aL b1 aY bG bV b2 bK bu p2 bS aH;have bf:=cN.o _ (ez 0 0 bc (e9 R ck ao U g.length aw aa cw aI));have bY:E _:=bn.o _ (ez 0 0 bc (e9 R ck ao U g.length aw aa cw aI));go_wp2_with (go_at_call 135;refine yaj bY.o ?_;rintro e cl ⟨⟨x,rfl⟩,bd⟩);go_ret;exact bd.o
 have H:E (r=.error (4,S)):=bI.o.trans (hD F);have bb:=yax F;have br:E _:=jq aK.c5 aK.c6 aK.fr 4 S (Mst P a5 a7 z G) (.inl rfl);clear aK bI be b0 bq a0;generalize eX s a=l at b2 F bb;generalize s.vs.length=aV at*;go_wp2_with (go_at_call 100;refine yaj br.o ?_;rintro e bc ⟨rfl,aB⟩);go_ret;rw[H.o];exact⟨rfl,aB.c5,aB.c6,HM.o.bad aB.chg⟩):Zp:=h
theorem aJ.qec(h:Zp:=by
 rcases ay with⟨c,p⟩|⟨s,a⟩
 ·exact xfr
 exact qgc):Zp:=h
open aJ in
theorem BI{W P J u1 u2 u3 u4 bs st aT Q cL u}(h:WS W P J u1 u2 u3 u4 bs st)(am:st.names.length<=5000)(bA:LcR (Mst P u1 u2 u3 u4) W aT Q u)(ad:Q<=5000)(S C){bQ al ce q o cf c0 aC cn c1}(n)(cq:2<=al)(bO:bQ<W.heap.size)(aW:W.cell? ⟨bQ,0,none⟩=some (.slice (some ⟨q,o,none⟩) cf c0))(cP:Sg1 W bQ 1 aC cn c1 n)(ay)(bg:(∃v,fx st u n=.ok v)->RsG st ay)(aO:∀v,fx st u n=.ok v->v<st.vs.length)
  (HC:(∃v,fx st u n=.ok v)->∀I,Kept 0 0 W I->Calls prog 101 #[hy P,.slice aT Q cL,.slice (some ⟨q,o,none⟩) cf c0] I (TrO I P J u1 u2 u3 u4 bs ay)):
  Calls prog 125 #[hy P,.slice aT Q cL,iR ⟨[103,114,97,100],S,C⟩,hz bQ al ce] W (TrO W P J u1 u2 u3 u4 bs (IX ⟨[103,114,97,100],S,C⟩ (fx st u n) ay)):=by
 have av:E _:=gW W [103,114,97,100] S C;have HK:E _:=ez 0 0 W (.cells #[eN [103,114,97,100],hA S,eN C] 119);have HF:E _:=h.far;have ap:E (∀I,Kept 0 0 W I->_):=λI aj=>(aj.cell (p:=⟨bQ,0,none⟩) bO xaa).trans aW;have au:E _:=cP;have bH:E (∀I,Kept 0 0 W I->_):=λI aj=>xV (h.keep aj) am aT Q cL u (bA.keep aj) ad n;have i:E _:=HC;have be:E _:=bg;have b0:E _:=aO;have bq:E _:=h;obtain⟨r,aD⟩:∃r,r=IX ⟨[103,114,97,100],S,C⟩ (fx st u n) ay:=⟨_,rfl⟩
 rw[<-aD];have HR:E _:=aD;clear aD h bg HC aW cP aO bA am;unfold iR at bH⊢;obtain⟨xs,dg,cX⟩:=n;simp only at bH⊢;go_enter func125,ntmps125;go_upto_region 2 with fail;change Code.wp _ _ _ _ (W.alloc (.cells #[eN [103,114,97,100],hA S,eN C] 119));generalize W.alloc (.cells #[eN [103,114,97,100],hA S,eN C] 119)=az at av HK⊢;generalize W.heap.size=aJ at av HF⊢;have Z:E _:=bH.o az HK.o;obtain⟨ax,aU,bx,cD⟩:=(au.o.keep HK.o).cells;simp only at aU bx cD;have bE:=av.o.c0;clear bH au;generalize fx st u ⟨xs,dg,cX⟩=df at Z HR b0 i be;rcases df with⟨c,p⟩|v
 ·exact xcx
 exact qeb
end
section
theorem BJ{f st u k x a r}(h:eM (f+1) st u (.grad k a x)=some r):∃ay,r=IX k (fx st u x) ay/\(∀v,fx st u x=.ok v->eM f st u a=some ay):=by
 rw[eM]at h;cases aO:fx st u x with
 |error q=>rw[aO]at h;cases h;exact⟨.error q,rfl,λv e=>by cases e⟩
 |ok v=>
  rw[aO]at h;simp only at h;cases F:eM f st u a with
  |none=>rw[F]at h;cases h
  |some ay=>
   rw[F]at h;rcases ay with⟨c,p⟩|⟨ax,y⟩
   ·cases h;exact⟨_,rfl,λ_ _=>rfl⟩
   cases h;exact⟨_,rfl,λ_ _=>rfl⟩
section
variable{f:Nat}{W:World}{P J:Nat}{u1 u2 u3 u4:Value}{bs:List Bc}{st:LSt}{aT:Option Addr}{Q cL:Nat}{u:Loc}{g off m cap:Nat}{ts:List Tok}{a:Ex}{r:Rs (LSt×Nat)}
theorem cK.qdx(h:Zp:=by
 have HC:(∃v,fx st u n=.ok v)->∀ab,Kept 0 0 I ab->_:=λao ab ak=>
  al ab P J u1 u2 u3 u4 bs st aT Q cL u g o ts.length c0 ts ⟨Y.ws.keep (aj.trans ak),Y.gd,Y.nm,Y.lc.keep (aj.trans ak),Y.ln,Y.lo,c2.keep ak,Y.tg,hJ Y.m5,c3,λt ht=>Y.ti t (by simp[ht]),λt ht=>Y.tn t (by simp[ht])⟩ 2 a ar yad ay (ao.elim ae)
 have bg:(∃v,fx st u n=.ok v)->_:=λao=>gn f st u a Y.gd Y.nm Y.lo b5 ay (ao.elim ae);obtain⟨aa,S,C⟩:=k;simp only at O;subst O;exact BI (Y.ws.keep aj) Y.gd.m (Y.lc.keep aj) Y.ln S C n yad bO c1 ⟨bO,ai,p⟩ ay bg (λv aO=>oG Y.nm Y.lo aO) HC):Zp:=h
theorem cK.qfp(h:Zp:=by
 exact qgn):Zp:=h
theorem cK.qgo(h:Zp:=by
 have aX:∀x:List UInt8,x≠B9->(k.sym==x)=false:=λx F=>by
  rw[beq_eq_false_iff_ne]
  rintro rfl
  exact F O
 refine kO Y (Pr.grad O af ar ah ad ap) (aX _ xab) (aX _ xab) (aX _ xab) (aX _ xab) (aX _ xab) xaa (ts++c::[n]) aB (by rw[oY (X:=[ts]) (y:=[n]) xac y _ yag];simp) _ (λI bf bB aj aW=>?_);exact qdw):Zp:=h
open cK in
theorem Fa{k l c n q}(al:TrC f)(Y:TrIn W P J u1 u2 u3 u4 bs st aT Q u g off m cap (k::l::(ts++[c,n,q])))(O:k.sym=B9)(af:l.sym=[40])(ar:Pr 2 [a] ts)(ah:c.sym=[44])(ad:n.sym=gK)(ap:q.sym=[41])(h:eM (f+1) st u (.grad k a n)=some r):
  Calls prog 101 #[hy P,.slice aT Q cL,.slice (some ⟨g,off,none⟩) m cap] W (TrO W P J u1 u2 u3 u4 bs r):=by
 obtain⟨ay,rfl,ae⟩:=BJ h;exact qfo
end
end
section
attribute[local go_sem] eF eE eD
variable{k:Tok}{st:LSt}{a x d:Nat}
def P5(k:Tok)(a v:Nat)(r2:Rs (LSt×Nat)):Rs (LSt×Nat):=match r2 with
 |.error f=>.error f
 |.ok (s2,y)=>pJ s2 k a v y
def OT(k:Tok)(q:Rs Nat)(r1 r2:Rs (LSt×Nat)):Rs (LSt×Nat):=match q with
 |.error f=>.error f
 |.ok v=>match r1 with
  |.error f=>.error f
  |.ok (_,a)=>P5 k a v r2
def P6(k:Tok)(a v:Nat)(r3:Rs (LSt×Nat)):Rs (LSt×Nat):=match r3 with
 |.error f=>.error f
 |.ok (s3,d)=>iJ s3 (jH s3.vs a v d) k.pos
theorem Fb(F:eX st d=1)(N:1<eX st x):pJ st k a x d=P6 k a x (fN st (eK 10 (eX st x) (d:Int) 0 0) k.pos):=by
 unfold pJ;rw[hD ⟨F,N⟩];rfl
theorem IY(F:eX st d≠1)(N:eX st d≠eX st x):pJ st k a x d=.error (4,k.pos):=by
 unfold pJ;rw[hC (λc=>F c.1),hD N]
theorem vW(F:¬(eX st d=1/\1<eX st x))(N:eX st d=eX st x):pJ st k a x d=iJ st (jH st.vs a x d) k.pos:=by
 unfold pJ;rw[hC F,hC (λc=>c N)]
theorem aK.qbm(h:Zp:=by
 have cj:E _:=cy.o.keepC bv.chg HF.o;have bX:E (¬Mst P a5 a7 z G aJ):=λc=>(bv.new aJ c).elim HF.o (λc=>hJ cy.o.lt);obtain⟨bJ,cv,a9,b3,b2⟩:=aK.lenc ar;have HM:E _:=(Mv.of bB.o).trans bv;have bS:=cj.o.c0;have bC:=w.g.n;have bu:=aK.c1;rw[a9]at bu;have aU:=cp.o aF _ HM.o;have bI:E (r=P5 ⟨[106,118,112],S,C⟩ a v a0):=HR.o;have cx:E _:=cz.o ⟨v,rfl⟩ s a rfl aF a5 a7 z G aK HM.o;have bq:E _:=bM.o ⟨v,rfl⟩ s a rfl;clear HR bZ cy aZ bv aK cz bM be b0 HF bB a9 b3 cp;generalize eX s a=l at b2;generalize cW:s.vs.length=aV at*;go_upto_region 22 with fail;clear b2 bu;rcases a0 with⟨c,p⟩|⟨f,y⟩
 ·go_wp2_with (go_at_call 101;refine yaj cx.o ?_;rintro e bc ⟨rfl,bd⟩);go_ret;rw[bI.o];exact TrO.after HM.o ⟨rfl,bd⟩
 obtain⟨bD,bN⟩:=bq.o f y rfl;subst cW;have b4:=yak an bD.n;have cc:=yak ar bD.n;have cC:¬((y:Int)<0):=xaa;clear bC;generalize s.vs.length=aV at*;go_upto_region 25 with (go_at_call 101;refine yaj cx.o ?_;rintro e bc ⟨rfl,aQ,a8,bi,bk,a6,bm⟩);have K:E _:=cj.o.keepC bm.chg bX.o;have b9:E (¬Mst P aQ a8 bi bk aJ):=λc=>(bm.new aJ c).elim bX.o (λc=>hJ cj.o.lt);have cr:E _:=HM.o.trans bm;have X:E (r=pJ f ⟨[106,118,112],S,C⟩ a v y):=bI.o;have cG:=bD.g;have c6:=cG.lenB b4;obtain⟨d6,d3,e4,cT,c7⟩:=a6.lenc b4;obtain⟨d7,d4,b7,_,c8⟩:=a6.lenc bN;rw[e4]at b7;cases b7;have bu:=a6.c1;rw[e4]at bu;have bC:=cG.n;have R:=K.o.c1;clear cx bI bm HM cj bX bq bS aU bD cT;by_cases F:eX f y=1
 ·by_cases N:1<eX f v
  ·have bL:E _:=Fb (k:=⟨[106,118,112],S,C⟩) (a:=a) F N;have m:E (r=P6 ⟨[106,118,112],S,C⟩ a v (fN f (eK 10 (eX f v) (y:Int) 0 0) S)):=X.o.trans bL.o;have b5:E _:=λbx bf (aM:fN f (eK 10 (eX f v) (y:Int) 0 0) S=.ok (bx,bf))=>oF cG (cG.v.p10 c6 (by have cV:=jB bN;rw[F]at cV;exact cV)) aM;have ah:E (∀I,Kept 0 0 bc I->Calls prog 104 #[hy P,(eK 10 (eX f v) (y:Int) 0 0).agg,hA S] I λe ab=>E (TrO bc P J aQ a8 bi bk bs (fN f (eK 10 (eX f v) (y:Int) 0 0) S) e ab)/\(∃x:Int,e=.returned (hA x))/\ab.cell? ⟨aJ,1,none⟩=some (hA S)):=λI aj=>yaj (lY (a6.keep aj) cG (eK 10 (eX f v) (y:Int) 0 0) c6 yah S) (λe ab t=>⟨TrO.back aj t,t.ret,(t.chg.cell (p:=⟨aJ,1,none⟩) (K.o.keep aj).lt b9.o).trans (K.o.keep aj).c1⟩);have cF:E (∀bx,Gw f bx->_):=λbx aA=>aA.l v b4;rw[F]at c8;clear X bL;generalize cQ:fN f (eK 10 (eX f v) (y:Int) 0 0) S=ch at m b5 ah;clear cQ;generalize ey:eX f v=co at*;clear ey;clear a6;subst e4;rcases ch with⟨c,p⟩|⟨bx,bf⟩
   ·generalize f.vs.length=di at*;go_upto_region 27 with fail;clear c7 c8 bu
    go_region_held3 (λB=>B.cell? ⟨aJ,1,none⟩=some (hA S)) (go_keep)
     (first
      |(go_at_call 46;refine yaj (ij _ _ _ _ _ _) ?_;rintro e cl ⟨rfl,bU⟩;have aX:=(K.o.keep ((eG bc).trans bU)).c1)
      |(go_at_call 104;refine yaj (ah.o _ ((eG bc).trans bU)) ?_;rintro e ci ⟨bd,⟨_,_⟩,aq⟩;obtain rfl:=bd.o.1))
    all_goals (
     go_wp2_with fail
     go_ret
     rw[m.o]
     exact TrO.after cr.o ⟨rfl,bd.o.2⟩)
   obtain⟨aA,cR,cB⟩:=b5.o bx bf rfl;have hd0:¬((bf:Int)<0):=xaa;have cJ:=yak cc aA.n;have cM:=yak b4 aA.n;have d1:=cF.o bx aA;have aG:=aA.g;have cu:E (r=iJ bx (jH bx.vs a v bf) S):=m.o
   have bl:Ln bx.vs (bf:Int) (jd bx.vs (v:Int)):=by
    have cg:=jB cR;rw[jb,show(bx.vs.getD v hF).len=eX bx v from rfl,d1,<-(show eX bx bf=co from cB)];exact cg
   have cU:eX bx bf=co:=cB;clear m b5 cF aA cB d1 c6;generalize f.vs.length=di at*;go_upto_region 27 with fail;clear c7 c8 bu
   go_region_held3 (λB=>B.cell? ⟨aJ,1,none⟩=some (hA S)) (go_keep)
    (first
     |(go_at_call 46;refine yaj (ij _ _ _ _ _ _) ?_;rintro e cl ⟨rfl,bU⟩;have aX:=(K.o.keep ((eG bc).trans bU)).c1)
     |(go_at_call 104;refine yaj (ah.o _ ((eG bc).trans bU)) ?_;rintro e ci ⟨bd,⟨_,_⟩,aq⟩;obtain rfl:=bd.o.1))
   all_goals (
    obtain⟨_,aP,y2,y3,y4,a2,dc⟩:=bd.o
    have ct:E _:=cr.o.trans dc
    have bz:E _:=K.o.keepC dc.chg b9.o
    clear bd dc cr K ah
    obtain⟨a1,bo,aN,bw,a3,bR,ae,bh,ai,_,cH⟩:=a2.grad aG cJ cM
    have b8:=cH bf
    obtain⟨aR,cd,cO⟩:=mQ aG.v cJ cM bl
    obtain⟨j,hj⟩:∃j:Nat,(jH bx.vs a v bf).2=(j:Int):=⟨_,(Int.toNat_of_nonneg cd.1).symm⟩
    have m:E (r=if jY (jH bx.vs a v bf).1=true then .error (5,S)else .ok ({bx with vs:=(jH bx.vs a v bf).1},j)):=by
     show r=_
     rw[cu.o]
     unfold iJ
     rw[hj,Int.toNat_natCast]
    have ca:∀k,k<(jH bx.vs a v bf).1.length->_:=λk O=>fU (aR.1 k O)
    obtain⟨dT,dv,b6,_,cI⟩:=a2.lenc cR
    rw[b6]at bh
    cases bh
    rw[cU]at cI
    have bK:=a2.c0
    have bu:=a2.c1
    have p2:=a2.c2
    subst ae b6 ai
    have bV:E _:=b8
    have bP:=aR.2
    generalize jH bx.vs a v bf=cS at*
    obtain⟨g,c9⟩:=cS
    simp only at hj ca bP m
    subst hj
    have bG:E (∀I R aH U cap aa Y,Kept 0 0 ci I->I.ownsRow ci.heap.size 3 1 (.slice R bx.ins.length aH) bx.ins.length (bx.ins.map (Value.int .i64))->I.ownsRow ci.heap.size 62 6 (.slice U g.length cap) g.length (fF g)->I.ownsRow ci.heap.size 3 1 (.slice aa bx.outs.length Y) bx.outs.length (bx.outs.map (Value.int .i64))->Apart (.slice R bx.ins.length aH) (.slice aa bx.outs.length Y)->Calls prog 135 #[hy P,eZ R bx.ins.length aH U g.length cap aa bx.outs.length Y,hA j,hA S] I λe ab=>(∃x:Int,e=.returned (hA x))/\E (TrO W P J u1 u2 u3 u4 bs r e ab)):=λI R aH U cap aa Y aj aC aL b1 aY=>yaj (qG a2 aj aC aL b1 aY bP ca j S) (λe ab t=>⟨t.ret,by
     show TrO W P J u1 u2 u3 u4 bs r e ab
     rw[m.o]
     exact TrO.after ct.o t⟩)
    clear b8 cH a2 cu m aR cd cO ca bP aG ct bl
    generalize bx.vs.length=ds at*
    generalize bx.ins.length=ck at*
    generalize bx.outs.length=cw at*
    go_upto_region 33 with (go_at_call 136;refine yaj bV.o ?_;rintro e af ⟨⟨R,ao,aa,aI,U,aw,rfl,aC,aL,b1,aY⟩,bF⟩)
    have bn:E (∀I,Kept 0 0 af I->_):=λI aj=>bG.o I R ao U aw aa aI (bF.trans aj) (eO aC aj) (eO aL aj) (eO b1 aj) aY
    have cN:E (∀I,Kept 0 0 af I->_):=λI aj=>(bz.o.keep (bF.trans aj)).c1
    clear aC aL b1 aY bG bV cI bK bu p2
    have bf:=cN.o _ (ez 0 0 af (e9 R ck ao U g.length aw aa cw aI))
    have bY:E _:=bn.o _ (ez 0 0 af (e9 R ck ao U g.length aw aa cw aI))
    go_wp2_with (go_at_call 135;refine yaj bY.o ?_;rintro e bj ⟨⟨x,rfl⟩,bd⟩)
    go_ret
    exact bd.o)
  have dd:eX f v=1:=xaa;have cu:E (r=iJ f (jH f.vs a v y) S):=X.o.trans (vW (λc=>N c.2) (F.trans dd.symm))
  have bl:Ln f.vs (y:Int) (jd f.vs (v:Int)):=by
   have cg:=jB bN;rw[jb,show(f.vs.getD v hF).len=eX f v from rfl,dd,<-F];exact cg
  rw[F]at c8;rw[dd]at c7;have cU:=F;have cR:=bN;have cJ:=cc;have cM:=b4;have aG:=cG;have a2:=a6;have ct:E _:=cr.o;have bz:E _:=K.o;clear X a6 cr K c6 cG;obtain⟨a1,bo,aN,bw,a3,bR,ae,bh,ai,_,cH⟩:=a2.grad aG cJ cM;have b8:=cH y;obtain⟨aR,cd,cO⟩:=mQ aG.v cJ cM bl;obtain⟨j,hj⟩:∃j:Nat,(jH f.vs a v y).2=(j:Int):=⟨_,(Int.toNat_of_nonneg cd.1).symm⟩
  have m:E (r=if jY (jH f.vs a v y).1=true then .error (5,S)else .ok ({f with vs:=(jH f.vs a v y).1},j)):=by
   show r=_;rw[cu.o];unfold iJ;rw[hj,Int.toNat_natCast]
  have ca:∀k,k<(jH f.vs a v y).1.length->_:=λk O=>fU (aR.1 k O);obtain⟨dT,dv,b6,_,cI⟩:=a2.lenc cR;rw[b6]at bh;cases bh;rw[cU]at cI;have bK:=a2.c0;have bu:=a2.c1;have p2:=a2.c2;subst ae b6 ai;(try cases‹hz _ _ _=hz _ _ _›);have bV:E _:=b8;have bP:=aR.2;generalize jH f.vs a v y=cS at*;obtain⟨g,c9⟩:=cS;simp only at hj ca bP m;subst hj
  have bG:E (∀I R aH U cap aa Y,Kept 0 0 bc I->I.ownsRow bc.heap.size 3 1 (.slice R f.ins.length aH) f.ins.length (f.ins.map (Value.int .i64))->I.ownsRow bc.heap.size 62 6 (.slice U g.length cap) g.length (fF g)->I.ownsRow bc.heap.size 3 1 (.slice aa f.outs.length Y) f.outs.length (f.outs.map (Value.int .i64))->Apart (.slice R f.ins.length aH) (.slice aa f.outs.length Y)->Calls prog 135 #[hy P,eZ R f.ins.length aH U g.length cap aa f.outs.length Y,hA j,hA S] I λe ab=>(∃x:Int,e=.returned (hA x))/\E (TrO W P J u1 u2 u3 u4 bs r e ab)):=λI R aH U cap aa Y aj aC aL b1 aY=>yaj (qG a2 aj aC aL b1 aY bP ca j S) (λe ab t=>⟨t.ret,by
   show TrO W P J u1 u2 u3 u4 bs r e ab
   rw[m.o]
   exact TrO.after ct.o t⟩)
  clear b8 cH a2 cu m aR cd cO ca bP aG ct bl;exact xbl
 by_cases N:eX f y=eX f v
 ·have cu:E (r=iJ f (jH f.vs a v y) S):=X.o.trans (vW (λc=>F c.1) N)
  have bl:Ln f.vs (y:Int) (jd f.vs (v:Int)):=by
   have cg:=jB bN;rw[jb,show(f.vs.getD v hF).len=eX f v from rfl,<-N];exact cg
  rw[<-N]at c7;have cU:eX f y=eX f y:=rfl;have cR:=bN;have cJ:=cc;have cM:=b4;have aG:=cG;have a2:=a6;have bb:=yax F;have ct:E _:=cr.o;have bz:E _:=K.o;clear X a6 cr K c6 cG;obtain⟨a1,bo,aN,bw,a3,bR,ae,bh,ai,_,cH⟩:=a2.grad aG cJ cM;have b8:=cH y;obtain⟨aR,cd,cO⟩:=mQ aG.v cJ cM bl;obtain⟨j,hj⟩:∃j:Nat,(jH f.vs a v y).2=(j:Int):=⟨_,(Int.toNat_of_nonneg cd.1).symm⟩
  have m:E (r=if jY (jH f.vs a v y).1=true then .error (5,S)else .ok ({f with vs:=(jH f.vs a v y).1},j)):=by
   show r=_;rw[cu.o];unfold iJ;rw[hj,Int.toNat_natCast]
  have ca:∀k,k<(jH f.vs a v y).1.length->_:=λk O=>fU (aR.1 k O);obtain⟨dT,dv,b6,_,cI⟩:=a2.lenc cR;rw[b6]at bh;cases bh;rw[cU]at cI;have bK:=a2.c0;have bu:=a2.c1;have p2:=a2.c2;subst ae b6 ai;(try cases‹hz _ _ _=hz _ _ _›);have bV:E _:=b8;have bP:=aR.2;generalize jH f.vs a v y=cS at*;obtain⟨g,c9⟩:=cS;simp only at hj ca bP m;subst hj
  have bG:E (∀I R aH U cap aa Y,Kept 0 0 bc I->I.ownsRow bc.heap.size 3 1 (.slice R f.ins.length aH) f.ins.length (f.ins.map (Value.int .i64))->I.ownsRow bc.heap.size 62 6 (.slice U g.length cap) g.length (fF g)->I.ownsRow bc.heap.size 3 1 (.slice aa f.outs.length Y) f.outs.length (f.outs.map (Value.int .i64))->Apart (.slice R f.ins.length aH) (.slice aa f.outs.length Y)->Calls prog 135 #[hy P,eZ R f.ins.length aH U g.length cap aa f.outs.length Y,hA j,hA S] I λe ab=>(∃x:Int,e=.returned (hA x))/\E (TrO W P J u1 u2 u3 u4 bs r e ab)):=λI R aH U cap aa Y aj aC aL b1 aY=>yaj (qG a2 aj aC aL b1 aY bP ca j S) (λe ab t=>⟨t.ret,by
   show TrO W P J u1 u2 u3 u4 bs r e ab
   rw[m.o]
   exact TrO.after ct.o t⟩)
  clear b8 cH a2 cu m aR cd cO ca bP aG ct bl;generalize eX f y=d2 at*;exact xbl
 have H:E (r=.error (4,S)):=X.o.trans (IY F N);have bb:=yax F;have cA:=yax N;have br:E _:=jq a6.c5 a6.c6 a6.fr 4 S (Mst P aQ a8 bi bk) (.inl rfl);clear a6 X;subst e4;generalize eX f y=d2 at*;generalize eX f v=co at*;generalize f.vs.length=di at*;go_wp2_with (go_at_call 100;refine yaj br.o ?_;rintro e bp ⟨rfl,aB⟩);go_ret;rw[H.o];exact⟨rfl,aB.c5,aB.c6,cr.o.bad aB.chg⟩):Zp:=h
theorem aK.qec(h:Zp:=by
 rcases ay with⟨c,p⟩|⟨s,a⟩
 ·exact xfr
 exact qgc):Zp:=h
open aK in
theorem Fc{W P J u1 u2 u3 u4 bs aT Q cL u}(h:WS W P J u1 u2 u3 u4 bs st)(am:st.names.length<=5000)(bA:LcR (Mst P u1 u2 u3 u4) W aT Q u)(ad:Q<=5000)(S C){bQ al ce q o cf c0 aC cn c1 aL bT n2 c2}(n)(cq:3<=al)(bO:bQ<W.heap.size)(d0:¬Mst P u1 u2 u3 u4 bQ)(aW:W.cell? ⟨bQ,0,none⟩=some (.slice (some ⟨q,o,none⟩) cf c0))(cP:Sg1 W bQ 1 aC cn c1 n)(aS:W.cell? ⟨bQ,2,none⟩=some (.slice (some ⟨aL,bT,none⟩) n2 c2))(ay a0)(bg:(∃v,fx st u n=.ok v)->RsG st ay)(aO:∀v,fx st u n=.ok v->v<st.vs.length)(ba:(∃v,fx st u n=.ok v)->∀s a,ay=.ok (s,a)->RsG s a0)
  (HC:(∃v,fx st u n=.ok v)->∀I,Kept 0 0 W I->Calls prog 101 #[hy P,.slice aT Q cL,.slice (some ⟨q,o,none⟩) cf c0] I (TrO I P J u1 u2 u3 u4 bs ay))
  (bW:(∃v,fx st u n=.ok v)->∀s a,ay=.ok (s,a)->∀I aQ a8 bi bk,WS I P J aQ a8 bi bk bs s->Mv (Mst P u1 u2 u3 u4) W (Mst P aQ a8 bi bk) I->Calls prog 101 #[hy P,.slice aT Q cL,.slice (some ⟨aL,bT,none⟩) n2 c2] I (TrO I P J aQ a8 bi bk bs a0)):
  Calls prog 125 #[hy P,.slice aT Q cL,iR ⟨[106,118,112],S,C⟩,hz bQ al ce] W (TrO W P J u1 u2 u3 u4 bs (OT ⟨[106,118,112],S,C⟩ (fx st u n) ay a0)):=by
 have av:E _:=gW W [106,118,112] S C;have HK:E _:=ez 0 0 W (.cells #[eN [106,118,112],hA S,eN C] 119);have HF:E _:=h.far;have ap:E (∀I,Kept 0 0 W I->_):=λI aj=>(aj.cell (p:=⟨bQ,0,none⟩) bO xaa).trans aW;have au:E _:=cP;have cp:E (∀I M',Mv (Mst P u1 u2 u3 u4) W M' I->_):=λI M' aj=>(aj.chg.cell (p:=⟨bQ,2,none⟩) bO d0).trans aS;have bH:E (∀I,Kept 0 0 W I->_):=λI aj=>xV (h.keep aj) am aT Q cL u (bA.keep aj) ad n;have i:E _:=HC;have cz:E _:=bW;have be:E _:=bg;have bM:E _:=ba;have b0:E _:=aO;obtain⟨r,aD⟩:∃r,r=OT ⟨[106,118,112],S,C⟩ (fx st u n) ay a0:=⟨_,rfl⟩
 rw[<-aD];have HR:E _:=aD;clear aD h bg HC aW cP aS aO bA am bW ba d0;unfold iR at bH⊢;obtain⟨xs,dg,cX⟩:=n;simp only at bH⊢;go_enter func125,ntmps125;go_upto_region 2 with fail;change Code.wp _ _ _ _ (W.alloc (.cells #[eN [106,118,112],hA S,eN C] 119));generalize W.alloc (.cells #[eN [106,118,112],hA S,eN C] 119)=az at av HK⊢;generalize W.heap.size=aJ at av HF bO⊢;have Z:E _:=bH.o az HK.o;obtain⟨ax,aU,bx,cD⟩:=(au.o.keep HK.o).cells;simp only at aU bx cD;have bE:=av.o.c0;clear bH au;generalize fx st u ⟨xs,dg,cX⟩=df at Z HR b0 i be cz bM;rcases df with⟨c,p⟩|v
 ·exact xcx
 exact qeb
