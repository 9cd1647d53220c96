import Derived.Test.YtcjhlkdleojbjaaGreatP23
import Derived.Test.YtcjhlkdleojbjaaGreatP24
namespace Go.Proofs.Z
variable{Zp:Prop}
open Tryz
set_option maxRecDepth 1000000
set_option maxHeartbeats 0
section
open Go.RowKit Flt
attribute[local go_sem] eF eE eD
variable{P J Q g cL off m cap:Nat}{u1 u2 u3 u4 a5 a7 z G:Value}{bs:List Bc}{st:LSt}{aT:Option Addr}{I:World}{u:Loc}{ts:List Tok}{e:Ex}
theorem aF.qbi(h:Zp:=by
 have j:E (lW _ ⟨[112,117,116],_,C⟩ a n n2=if eX st a≠1 then .error (4,S)
  else if ik _<1\/1000<ik _ then .error _
  else if ik _<=ik _ then .error _ else fN _ _ S):=rfl
 have cf:=an.len a ar;change 1<=eX _ a/\eX _ a<=1000 at cf;have bq:E _:=h;have ao:E _:=aW;have cp:E _:=aS;obtain⟨bJ,cap,a9,b3,-⟩:=h.lenc ar
 have HL:E (∀I,Kept 0 0 W I->I.cell? _=some (.slice _ _ _)/\I.cell? _=some _/\(I.cell? _=some _/\I.cell? _=some _/\I.cell? _=some _/\I.cell? _=some _)/\(I.cell? _=some _/\I.cell? _=some _/\I.cell? _=some _/\I.cell? _=some _)):=λI aj=>by
  obtain⟨aN,aw,ai,_,c3⟩:=(bq.o.keep aj).lenc ar
  rw[a9]at ai
  cases ai
  exact⟨(bq.o.keep aj).c1.trans (congrArg some a9),c3,(ao.o.keep aj).cells,(cp.o.keep aj).cells⟩
 generalize lW _ _ a n _=r at j⊢;generalize eX _ a=l at cf HL j;generalize w:st.vs.length=aV at*;clear w h aW aS an bl bA bq ao cp a9 b3;unfold iR at cc s⊢;obtain⟨bw,U,B⟩:=n;obtain⟨X,i,mt⟩:=n2;simp only at cc s hb Y HL j⊢;generalize ik _=m at*;generalize ik _=b7 at*;exact qeo):Zp:=h
theorem aF.qep(h:Zp:=by
 obtain⟨aP,y2,⟨y3,y4,ck,cU⟩,bi,bk,K,Z⟩:=HL.o _ HK.o;exact qfy):Zp:=h
theorem aF.qfz(h:Zp:=by
 clear aP y2 y3 y4 ck cU bi bk K Z bE av HK ak cc;obtain⟨aP,y2,⟨y3,y4,ck,cU⟩,bi,bk,K,Z⟩:=HL.o _ bB.o;have bE:=y.o.c0;have R:=y.o.c1;by_cases F:l=1
 ·subst F;have aD:E _:=j.o.trans (hC xac);clear j;go_upto_region 14 with (go_at_call 103;refine yaj (s.o _) ?_;rintro e aF ⟨rfl,aR⟩);have aK:E _:=bB.o.trans aR;have cj:E _:=y.o.keep aR;clear aP y2 y3 y4 ck cU bi bk K Z bE R y bB aR s;obtain⟨aP,y2,⟨y3,y4,ck,cU⟩,bi,bk,K,Z⟩:=HL.o _ aK.o;have bE:=cj.o.c0;have R:=cj.o.c1;clear HL;by_cases N:b7<1
  ·have H:E _:=aD.o.trans (hD (.inl N));exact xcr
  by_cases h3:1000<b7
  ·have H:E _:=aD.o.trans (hD (.inr h3));exact xcr
  have a2:E _:=aD.o.trans (hC xaa);clear aD;by_cases a6:b7<=m
  ·have H:E _:=a2.o.trans (hD a6);exact xcr
  have H:E _:=a2.o.trans (hC a6);have bY:E _:=λI aj=>ah.o I (eK 12 _ a 0 m) aj (by show 1<=b7/\b7<=1000;omega) yah;go_upto_region 18 with fail
  go_region_with (first
   |(go_at_call 46;refine yaj (ij _ _ _ _ _ _) ?_;rintro e bc ⟨rfl,bM⟩;have f:=(cj.o.keep ((eG _).trans bM)).c1)
   |(go_at_call 104;refine yaj (bY.o _ (aK.o.trans ((eG _).trans bM))) ?_;rintro e bp ⟨⟨x,rfl⟩,bd⟩))
  all_goals (go_wp2_with fail;go_ret;rw[H.o];exact bd.o)
 have H:E _:=j.o.trans (hD F);have bb:=yax F;clear HL;go_wp2_with (first|(go_at_call 100;refine yaj (br.o _ _ bB.o) ?_;rintro e bc ⟨rfl,aB⟩)|fail);exact xdi):Zp:=h
open aF in
theorem H9{W}(h:WS W P J u1 u2 u3 u4 bs st)(an:Gd st)(k)(O:k.sym=Dz)(a)(ar:a<st.vs.length)(n)(bl:Dgs n.text){bQ al ce q o c}(cq:3<=al)(aW:Sg1 W bQ 1 q o c n)(n2)(bA:Dgs n2.text){aL bT c2}(aS:Sg1 W bQ 2 aL bT c2 n2):
  Calls prog 133 #[hy P,iR k,hA a,hz bQ al ce] W (TrO W P J u1 u2 u3 u4 bs (lW st k a n n2)):=by
 obtain⟨aa,S,C⟩:=k;simp only at O;subst O;unfold Dz;have cc:E _:=λI=>zQ n bl I;have s:E _:=λI=>zQ _ bA I;have bC:=an.n;have hb:=pK bl yad;rw[List.take_length]at hb;have Y:=pK bA yad;rw[List.take_length]at Y;have av:E _:=gW W [112,117,116] S C;have HK:E _:=ez 0 0 W (.cells #[eN [112,117,116],hA S,eN C] 119);exact qbh
structure TrIn(W:World)(P B:Nat)(u1 u2 u3 u4:Value)(bs:List Bc)(st:LSt)(aL:Option Addr)(nL:Nat)(loc:Loc)(g off m cap:Nat)(ts:List Tok):Prop where
 ws:WS W P B u1 u2 u3 u4 bs st
 gd:Gd st
 nm:NmOK st
 lc:LcR (Mst P u1 u2 u3 u4) W aL nL loc
 ln:nL<=5000
 lo:LcOK loc st.vs.length
 tk:TkA W g off m ts
 tg:¬Mst P u1 u2 u3 u4 g
 m5:m<=5000
 mc:m<=cap
 ti:∀t∈ts,t.sym=iK->Dgs t.text
 tn:∀t∈ts,(t.sym=iK\/t.sym=lk)->ki t.text
def TrC(f:Nat):Prop:=∀(W:World) (P B:Nat) (u1 u2 u3 u4:Value) (bs:List Bc) (st:LSt) (aL:Option Addr) (nL cL:Nat) (loc:Loc) (g off m cap:Nat) (ts:List Tok),TrIn W P B u1 u2 u3 u4 bs st aL nL loc g off m cap ts->∀(n:Nat) (e:Ex),Pr n [e] ts->n<=2->∀r,eM f st loc e=some r->
 Calls prog 101 #[.pointer (some ⟨P,0,none⟩),.slice aL nL cL,.slice (some ⟨g,off,none⟩) m cap] W (TrO W P B u1 u2 u3 u4 bs r)
theorem TkA.in_{w n}(h:TkA w g off n ts)(i j us)(aB:us=(ts.drop i).take (j-i))(hj:j<=n):TkA w g (off+i*3) (j-i) us:=by subst aB;exact h.cut hj
theorem TrIn.sub{W}(h:TrIn W P J u1 u2 u3 u4 bs st aT Q u g off m cap ts){R}(X:WS I P J a5 a7 z G bs R)(w:Gw st R)(k:Mv (Mst P u1 u2 u3 u4) W (Mst P a5 a7 z G) I)(i j)(hj:j<=m)(us)(aB:us=(ts.drop i).take (j-i)){cap'}(ah:j-i<=cap'):TrIn I P J a5 a7 z G bs R aT Q u g (off+i*3) (j-i) cap' us where
 ws:=X
 gd:=w.g
 nm:=h.nm.gw w
 lc:=h.lc.mv k
 ln:=h.ln
 lo:=h.lo.le w.n
 tk:=(h.tk.keepC k.chg h.tg).in_ i j us aB hj
 tg:=λc=>(k.new g c).elim h.tg (λc=>hJ h.tk.lt)
 m5:=hJ h.m5
 mc:=ah
 ti:=λt ht=>h.ti t (by grind)
 tn:=λt ht=>h.tn t (by grind)
theorem Ey{W}(Y:TrIn W P J u1 u2 u3 u4 bs st aT Q u g off m cap ts)(aM:Pr 0 [e] ts)(al:(ts.getD 0 hG).sym=[40])(N:2<=m)(r)
  (HC:∀I,Kept 0 0 W I->Calls prog 101 #[hy P,.slice aT Q cL,.slice (some ⟨g,off+3,none⟩) (m-2) (cap-1)] I (TrO W P J u1 u2 u3 u4 bs r)):
  Calls prog 101 #[hy P,.slice aT Q cL,.slice (some ⟨g,off,none⟩) m cap] W (TrO W P J u1 u2 u3 u4 bs r):=by
 have K:E _:=fE W g _ m cap _ Y.tk Y.m5 [43] [45];have ae:E _:=fE W g _ m cap _ Y.tk Y.m5 [42] [47];rw[mi aM]at K ae;have c0:=Y.tk.c0 0 xaa;have c1:=Y.tk.c1 0 xaa;have c2:=Y.tk.c2 0 xaa;rw[al]at c0;have cp:=Y.m5;have S:=Y.mc;have i:E (∀I,Kept 0 0 W _->Calls _ _ _ _ λe ab=>(∃x:Int,e=.returned _)/\E (TrO W P J _ _ _ _ _ r e _)):=λI k=>yaj (HC I k) (λe ab t=>⟨t.ret,t⟩);generalize ts.getD 0 _=t at*;clear al Y aM HC;obtain⟨aO,ps,bv⟩:=t;simp only[Nat.zero_mul,Nat.add_zero]at c0 c1 c2;go_enter func101,ntmps101;go_upto_region 3 with (go_at_call 119;refine yaj K.o ?_;rintro e ag ⟨rfl,X⟩;obtain rfl:=X.symm);go_upto_region 15 with (go_at_call 119;refine yaj ae.o ?_;rintro e ag ⟨rfl,X⟩;obtain rfl:=X.symm);go_upto_region 16 with fail;change Code.wp _ _ _ _ (W.alloc (.cells #[eN _,.int _ ps,eN _] 119));have av:E _:=gW W [40] ps bv;have HK:E _:=ez 0 0 W (.cells #[eN [40],hA ps,eN bv] 119);generalize W.alloc _=az at av HK⊢;generalize W.heap.size=aJ at av⊢;have bE:=av.o.c0;have bZ:E _:=i.o _ HK.o;clear c0 c1 c2 K ae av i;go_wp2_with (go_at_call 101;refine yaj bZ.o ?_;rintro e ag ⟨⟨x,rfl⟩,bd⟩);go_ret;exact bd.o
def Ia(st:LSt)(q:Rs Nat):Rs (LSt×Nat):=match q with|.error f=>.error f|.ok v=>.ok (st,v)
theorem k.qai(h:Zp:=by
 change Code.wp _ _ _ _ (W.alloc (.cells #[eN [110,97,109,101],hA ps,eN bv] 119));have av:E _:=gW W [110,97,109,101] ps bv;have HK:E _:=ez 0 0 W (.cells #[eN [110,97,109,101],hA ps,eN bv] 119);generalize W.alloc (.cells #[eN [110,97,109,101],hA ps,eN bv] 119)=az at av HK⊢;generalize W.heap.size=aJ at av⊢;have Z:E _:=bH.o az HK.o;obtain⟨bE,R,aS⟩:az.cell? ⟨aJ,0,none⟩=some (eN [110,97,109,101])/\az.cell? ⟨aJ,1,none⟩=some (hA ps)/\az.cell? ⟨aJ,2,none⟩=some (eN bv):=⟨av.o.c0,av.o.c1,av.o.c2⟩
 clear c0 c1 c2 K ae av bH;generalize fx st u ⟨[110,97,109,101],ps,bv⟩=q at Z HR;rcases q with⟨c,p⟩|v
 ·exact xcx
 go_wp2_with (go_at_call 122;refine yaj Z.o ?_;rintro e ag ⟨rfl,ak⟩);go_ret;rw[HR.o];exact⟨rfl,u1,u2,u3,u4,bq.o.keep (HK.o.trans ak),Mv.of (HK.o.trans ak)⟩):Zp:=h
theorem k.qee(h:Zp:=by
 have bH:E (∀I,Kept 0 0 W I->_):=λI k=>xV (Y.ws.keep k) Y.gd.m aT Q cL u (Y.lc.keep k) Y.ln (ts.getD 0 hG);have bq:E _:=Y.ws;unfold gK at al;generalize ts.getD 0 hG=t at*;clear Y aM;obtain⟨aO,ps,bv⟩:=t;simp only at al;subst al;simp only[Nat.zero_mul,Nat.add_zero]at c0 c1 c2;obtain⟨r,aD⟩:∃r,r=Ia st (fx st u ⟨[110,97,109,101],ps,bv⟩):=⟨_,rfl⟩
 rw[<-aD];have HR:E _:=aD;clear aD;exact qah):Zp:=h
open k in
theorem Bv{W}(Y:TrIn W P J u1 u2 u3 u4 bs st aT Q u g off m cap ts)(aM:Pr 0 [e] ts)(al:(ts.getD 0 hG).sym=gK)(F:m=1):
  Calls prog 101 #[hy P,.slice aT Q cL,.slice (some ⟨g,off,none⟩) m cap] W (TrO W P J u1 u2 u3 u4 bs (Ia st (fx st u (ts.getD 0 hG)))):=by
 subst F;have K:E _:=fE W g off 1 cap ts Y.tk Y.m5 [43] [45];have ae:E _:=fE W g off 1 cap ts Y.tk Y.m5 [42] [47];exact qed
theorem WS.far{W}(h:WS W P J u1 u2 u3 u4 bs st):¬Mst P u1 u2 u3 u4 W.heap.size:=by
 exact xfe
theorem TrO.after{W0 az r e}(k:Mv (Mst P u1 u2 u3 u4) W0 (Mst P a5 a7 z G) az)(h:TrO az P J a5 a7 z G bs r e I):TrO W0 P J u1 u2 u3 u4 bs r e I:=by
 rcases r with⟨c,p⟩|⟨st,v⟩
 ·obtain⟨F,N,h3,a6⟩:=h;exact⟨F,N,h3,k.bad a6⟩
 obtain⟨F,aA,ag,aF,bc,N,h3⟩:=h;exact⟨F,_,_,_,_,N,k.trans h3⟩
theorem TB.keepC{W p s k x}(h:TB W p s k x){S}(c:Chg S W I)(aW:¬S p):TB I p s k x:=
 ⟨yak h.lt c.size,(c.cell (p:=⟨p,0,none⟩) h.lt aW).trans h.c0,(c.cell (p:=⟨p,1,none⟩) h.lt aW).trans h.c1,(c.cell (p:=⟨p,2,none⟩) h.lt aW).trans h.c2,λo=>(c.frozen (p:=⟨p,o,none⟩) h.lt aW).trans (h.fr o)⟩
def Ok(p:Nat)(r:Rs (LSt×Nat)):Rs (LSt×Nat):=match r with|.error f=>.error f|.ok (s,a)=>fN s (eK 6 (eX s a) (a:Int) 0 0) p
theorem l.qai(h:Zp:=by
 change Code.wp _ _ _ _ (W.alloc (.cells #[eN _,.int _ _,eN _] 119));have av:E _:=gW W [45] ps bv;have HK:E _:=ez 0 0 W (.cells #[eN [45],hA ps,eN bv] 119);generalize W.alloc _=az at av HK⊢;generalize W.heap.size=aJ at av HF⊢;have bZ:E _:=i.o _ HK.o;have bE:=av.o.c0;clear c0 c1 c2 K ae i;rcases ay with⟨c,p⟩|⟨s,a⟩
 ·exact xdl
 obtain⟨w,ar⟩:=be.o s a rfl;go_upto_region 18 with (go_at_call 101;refine yaj bZ.o ?_;rintro e ag ⟨rfl,a5,a7,z,G,v,aI⟩);have y:E _:=av.o.keepC aI.chg HF.o;obtain⟨bJ,cv,a9,b3,b2⟩:=v.lenc ar;have ce:=v.c1;subst a9
 have ah:E (∀I,Kept 0 0 _ I->Calls _ _ _ _ λe ab=>(∃x:Int,e=.returned _)/\E (TrO W P J _ _ _ _ _ r e _)):=λI aj=>yaj (lY (v.keep aj) w.g (eK 6 (eX s a) _ 0 0) (w.g.lenB ar) yah _) (λe ab t=>⟨t.ret,by
  show TrO W P J u1 u2 u3 u4 bs r e ab
  rw[HR.o]
  exact TrO.back HK.o (TrO.after (aI.keep aj) t)⟩)
 have R:=y.o.c1;have bC:=w.g.n;generalize eX s a=l at b2 ah;generalize s.vs.length=aV at*;clear v aI bZ av HR be w bE;go_upto_region 20 with fail;exact xcy):Zp:=h
theorem l.qee(h:Zp:=by
 have HF:E _:=Y.ws.far;have i:E _:=HC;have be:E _:=bg;generalize ts.getD 0 _=t at*;clear Y aM HC bg;obtain⟨aO,ps,bv⟩:=t;simp only at al;subst al;simp only[Nat.zero_mul,Nat.add_zero]at c0 c1 c2;obtain⟨r,aD⟩:∃r,r=Ok ps ay:=⟨_,rfl⟩
 simp only;rw[<-aD];have HR:E _:=aD;clear aD;exact qah):Zp:=h
open l in
theorem Ez{W}(Y:TrIn W P J u1 u2 u3 u4 bs st aT Q u g off m cap ts)(aM:Pr 0 [e] ts)(al:(ts.getD 0 hG).sym=[45])(N:2<=m)(ay)(bg:RsG st ay)
  (HC:∀I,Kept 0 0 W I->Calls prog 101 #[hy P,.slice aT Q cL,.slice (some ⟨g,off+3,none⟩) (m-1) (cap-1)] I (TrO I P J u1 u2 u3 u4 bs ay)):
  Calls prog 101 #[hy P,.slice aT Q cL,.slice (some ⟨g,off,none⟩) m cap] W (TrO W P J u1 u2 u3 u4 bs (Ok (ts.getD 0 hG).pos ay)):=by
 have K:E _:=fE W g _ m cap _ Y.tk Y.m5 [43] [45];have ae:E _:=fE W g _ m cap _ Y.tk Y.m5 [42] [47];exact qed
end
section
open Go.RowKit
variable{P:Program}{bz:Array Oper}{m:Region.Mode}{C:World->Prop}{n:Nat}
def hdQ(P:Program)(md:Region.Mode)(ops:Array Oper)(C:World->Prop)(n:Nat)(L:Array Bool->Act->Prop):Nat->Array Bool->Act->Prop
 |0,l,a=>L l a
 |f+1,l,a=>Region.ready md ops l≠[]/\∀i∈Region.ready md ops l,i<n/\qOp P ops C i (hdQ P md ops C n L f (l.setIfInBounds i true)) a
theorem CE{g L Q}(bA:∀l a w,C w->L l a->wpAny P m bz Q g l a w):∀f l a w,C w->hdQ P m bz C n L f l a->wpAny P m bz Q (f+g) l a w
 |0,l,a,w,X,h=>by rw[Nat.zero_add];exact bA l a w X h
 |f+1,l,a,w,X,h=>by
  rw[Nat.add_right_comm]
  exact⟨λal=>absurd al h.1,λi hi=>wpOp_of_qOp X (λag B e h'=>CE bA f _ _ _ e h') (h.2 i hi).2⟩
theorem Ib{i N v L}(hi:bz[i]? =some N)(p:Region.noSelect bz=true)(au:Region.sinkB m bz n=true)(ah:Region.chainB m bz n=true)(ad:n<bz.size)(aV:i<n)(bl:∀l a,L l a->∀j∈Region.ready m bz l,n<=j):
  ∀f l a,HeadInv m bz n l->(∀j g,bz[j]? =some g->j≠i->l.getD j true=false->(∀e∈g.after,Region.binds m e=true->e.on≠i)->N.apart bz g=true)->i∈Region.ready m bz l->YieldsIn P bz C N v a->hdQ P m bz C n L f (l.setIfInBounds i true) (a.put N.dst v)->hdQ P m bz C n L (f+1) l a:=by
 intro f;induction f with
 |zero=>
  intro l a r _ aD bN Y;have o:∀j∈Region.ready _ _ l,j<n:=λj hj=>(Nat.lt_or_ge j n).resolve_right λh=>tail_waits au ah ad r _ i rfl aV (mem_ready.1 aD).1 j h hj;refine⟨λh=>(by grind),λj hj=>⟨o j hj,?_⟩⟩;by_cases e:j=i
  ·subst e;exact bN.qOp hi Y
  exact absurd (bl _ _ Y j (ready_mono hj e)) (Nat.not_le_of_lt (o j hj))
 |succ f G=>
  intro l a r a5 aD bN Y;have aB:=(mem_ready.1 aD).1;have o:∀j∈Region.ready _ _ l,j<n:=λj hj=>(Nat.lt_or_ge j n).resolve_right λh=>tail_waits au ah ad r _ i rfl aV aB j h hj;refine⟨λh=>(by grind),λj hj=>⟨o j hj,?_⟩⟩;by_cases e:j=i
  ·subst e;exact bN.qOp hi Y
  obtain⟨aI,g,s,ar⟩:=mem_ready.1 hj
  have an:∀e∈g.after,Region.binds _ e=true->e.on≠i:=λe aZ hb ap=>by
   have:=ar e aZ hb
   rw[ap,getD_both aB]at this
   cases this
  refine qOp_mono (λag h3=>G _ _ (r.set hj (o j hj)) (λk ok O u w Q=>a5 k _ O u ?_ Q) (ready_mono aD (Ne.symm e)) h3.1 ?_) (qOp_put s (a5 j _ s e aI an) (λcs b=>Region.noSelect_spec p i _ _ b hi) (λcs b=>Region.noSelect_spec p j _ _ b s) bN (Y.2 j (ready_mono hj e)).2)
  ·by_cases q:j=k<;>simp_all<;>grind
  rw[Array.setIfInBounds_comm _ _ e];exact h3.2
theorem CF{g H}(p:Region.noSelect bz=true)(au:Region.sinkB m bz n=true)(ah:Region.chainB m bz n=true)(ad:n<bz.size):
  ∀(l:List Oper) (k:Nat) (t:Array Bool) (a:Act),(∀j,j<l.length->l[j]? =bz[k+j]?)->k+l.length=n->HeadInv m bz n t->Region.lexHead m bz g l.length k t=true->wpQuiet P bz C H l a->hdQ P m bz C n (λF ag=>Region.seqB m bz g n F=true/\H ag) l.length t a
 |[],k,t,a,_,O,_,aT,h=>by
  obtain rfl:k=n:=O
  exact⟨aT,h⟩
 |o::l,k,t,a,af,O,r,aT,h=>by
  have al:bz[k]? =some o:=(af 0 (Nat.zero_lt_succ _)).symm
  simp only[yaq,Region.lexHead,Bool.and_eq_true]at aT O af
  obtain⟨⟨aD,a5⟩,f⟩:=aT
  have e:k∈Region.ready m bz t:=by grind
  have ap:qOp P bz C k (wpQuiet P bz C H l) a:=by unfold qOp;simp only[al];exact h
  obtain⟨v,bN,aI⟩:=yieldsIn_of_qOp al ap
  exact Ib al p au ah ad xaa (λ_ _ q=>seqB_ready q.1) _ t a r (Region.free_spec al a5) e bN (CF p au ah ad l _ _ _ (λj hj=>by grind) xaa (r.set e xaa) f aI)
theorem vO{id Q a w}{l:List Oper}(n)(am:P.follows .mixedOrders=true)(aT:Region.lexTailB .any l.toArray n=true)(bu:C {w with drawn:=w.drawn+1})
  (h:wpQuiet P l.toArray C (λag=>∀B,C B->wpList P l.toArray Q (l.drop n) ag B) (l.take n) a):(Code.region id l.toArray true).wp P Q a w:=by
 simp only[Region.lexTailB,Bool.and_eq_true,decide_eq_true_eq]at aT;obtain⟨⟨⟨⟨p,ad⟩,au⟩,ah⟩,an⟩:=aT;have a7:n<l.length:=xaa;have ht:(l.take n).length=n:=by grind
 have Y:=CF p au ah ad _ 0 (Array.replicate l.toArray.size _) a (λj hj=>by
  rw[ht]at hj
  simp[hj]) xaa ⟨by simp,λj g _ q=>(by rw[getD_replicate_false]at q;cases q),λt _ q=>getD_in (by simpa using q) (getD_replicate_false _ _)⟩ (hL ht an) h
 refine wp_region_any am ?_;have:=CE (Q:=Q) (g:=l.toArray.size-n) (λt ag B e q=>?_) _ _ _ _ bu Y
 ·rw[ht,Nat.add_sub_cancel' (Nat.le_of_lt ad)]at this;exact this
 have aK:(l.drop n).length=l.toArray.size-n:=by simp
 rw[<-aK];exact wpAny_of_seq _ n t _ _ (λj=>by simp) (by grind) (q.2 _ e)
structure KW(w:World) where
 v:World
 k:Kept 0 0 w v
instance (w:World):Nonempty (KW w):=⟨⟨w,.refl _ _ _⟩⟩
end
section
open Go.RowKit Flt
attribute[local go_sem] eF eE eD
variable{P J a b Q cL g off m cap:Nat}{u1 u2 u3 u4:Value}{st:LSt}{bs:List Bc}{aT:Option Addr}{ts:List Tok}
def Ic(o:Tok)(r1 r2:Rs (LSt×Nat)):Rs (LSt×Nat):=match r1 with
 |.error f=>.error f
 |.ok (_,x)=>match r2 with
  |.error f=>.error f
  |.ok (s2,y)=>qD s2 o x y
theorem Af{o f}(h:jJ st [a,b] o.pos=.error f):qD st o a b=.error f:=by unfold qD;rw[h]
theorem CG{aU o f}(h:jJ st [a,b] o.pos=.ok (aU,f)):qD st o a b=fN aU (eK (qC o.sym) (eX aU (f.getD 0 0)) (f.getD 0 0:Nat) (f.getD 1 0:Nat) 0) o.pos:=by unfold qD;rw[h]
theorem TrO.chg{W r e I}(h:TrO W P J u1 u2 u3 u4 bs r e I):Chg (Mst P u1 u2 u3 u4) W I:=by
 rcases r with⟨c,p⟩|⟨st,v⟩
 ·exact h.2.2.2
 obtain⟨_,_,_,_,_,_,k⟩:=h;exact k.chg
theorem Id{W:World}{M}(a5:¬M W.heap.size)(x y:Nat):XsR M (W.alloc (.cells #[hA x,hA y] 3)) (some ⟨W.heap.size,0,none⟩) 2 [x,y]:=by
 refine⟨rfl,λ_=>⟨_,0,rfl,a5,by simp,λk O=>?_⟩⟩;grind[yav]
theorem bE.qcd(h:Zp:=by
 have ca:(0:Int)<=k:=xaa;go_upto_region 5 with (go_at_call 119;refine yaj K.o ?_;rintro e ag ⟨rfl,X⟩;obtain rfl:=X.symm);rcases ay with⟨c,p⟩|⟨ax,x⟩
 ·exact xgk
 obtain⟨ap,an⟩:=be.o _ x rfl;have bB:¬((x:Int)<0):=xaa;go_upto_region 8 with (go_at_call 101;refine yaj N.o ?_;rintro e ag ⟨rfl,a5,a7,z,G,v,aI⟩);have cx:E _:=cz.o _ x rfl _ _ _ _ _ v aI;have bQ:E _:=aI;clear N cz v aI;rcases a0 with⟨c,p⟩|⟨aU,y⟩
 ·exact xfq
 obtain⟨bD,bN⟩:=bM.o _ x rfl _ y rfl;exact qga):Zp:=h
theorem bE.qer(h:Zp:=by
 simp only at c1 aH ad bI;cases aA:jJ aU [x,y] s with
 |error f=>
  obtain⟨c,p⟩:=f;rw[aA]at ad;have H:E _:=bI.o.trans (Af aA);clear aA bI;go_wp2_with (go_at_call 120;refine yaj ad.o ?_;rintro e bc ⟨rfl,bd⟩);go_ret;rw[H.o];exact⟨rfl,bd.1,bd.2.1,bL.o.bad bd.2.2⟩
 |ok q=>
  obtain⟨bx,aa⟩:=q;rw[aA]at ad;have H:E _:=bI.o.trans (CG aA);obtain⟨ao,aB,nn,aO⟩:=lj aW.o.g _ _ am.o aA;clear aA bI
  obtain⟨j,n,rfl⟩:∃a b,aa=[a,b]:=by
   match aa,aB with
   |[a,b],_=>exact⟨a,b,rfl⟩
  have al:=(aO j xac).1;have F:=(aO n xac).1;go_upto_region 14 with (go_at_call 120;refine yaj ad.o ?_;rintro e bc ⟨c9,d3,rfl,aP,y2,y3,y4,a6,bm,cw⟩);have w:=R.o _ _ (bL.o.trans bm);obtain⟨bJ,cv,a9,b3,b2⟩:=a6.lenc al;obtain⟨au,of,ai,bX,ak,bH⟩:=cw.at_ xac;subst a9 ai;have bA:E (∀I,Kept 0 0 _ I->I.cell? _=some (eN aR)/\I.cell? _=some (.int _ s)/\I.cell? _=some _/\I.cell? _=some _/\I.cell? ⟨_,of,_⟩=some (.int _ j)/\I.cell? _=some (.int _ n)):=λI aj=>⟨(aj.cell w.lt xaa).trans (by have:=w.c0 k O;rw[br.o]at this;exact this),(aj.cell w.lt xaa).trans (by have:=w.c1 k O;rw[br.o]at this;exact this),(a6.keep aj).c1,(aj.cell b3 xaa).trans b2,(aj.cell ak xaa).trans (bH 0 xac),(aj.cell ak xaa).trans (bH 1 xac)⟩
  have ah:E (∀I,Kept 0 0 _ _->Calls _ _ _ I λe ab=>(∃x:Int,e=.returned _)/\E (TrO W P J _ _ _ _ _ r e _)):=λI aj=>yaj (lY (a6.keep aj) ao.g (eK _ (eX bx _) j n 0) (ao.g.lenB al) yah _) (λe ab t=>⟨t.ret,by
   show TrO W P J u1 u2 u3 u4 bs r e ab
   rw[H.o]
   exact TrO.after ((bL.o.trans bm).keep aj) t⟩)
  have bC:=ao.g.n;have U:E _:=λI=>Hg aR I;generalize eX bx _=l at bA ah;generalize qC _=dg at U ah;generalize bx.vs.length=aV at*;clear b2 bH w a6 bm cw ao aO ad H bL R aW am c1 aH K aB bX ak b3 br;have q:=λx:KW _=>bA.o _ x.k;refine vO (C:=λB=>∃x:KW bc,B=x.v) 30 (by kernel_rfl) (by kernel_rfl) ⟨⟨bc.drew,eG _⟩,rfl⟩ ?_;simp only[List.take_succ_cons,List.take_zero,List.drop_succ_cons,List.drop_zero]
  repeat (go_big_quiet_step (first
   |(go_at_call 121;exact yaj (U.o _) λe B h=>⟨h.1,⟨_,h.2⟩⟩)
   |(go_at_call 46;exact yaj (ij _ _ _ _ _ _) λe B h=>⟨h.1,⟨⟨_,(KW.k _).trans h.2⟩,rfl⟩⟩)))
  refine wpQuiet_nil ?_;rintro bp ⟨x,rfl⟩;go_wp2_with (go_at_call 104;refine yaj (ah.o _ x.k) ?_;rintro e ci ⟨⟨cX,rfl⟩,bd⟩);go_ret;exact bd.o):Zp:=h
theorem bE.qgb(h:Zp:=by
 have af:=R.o _ _ Z;have b4:=yak an bD.n;have bh:=ez 0 0 aF (.cells #[hA x,hA y] 3);have ad:E _:=zS (aK.keep bh) bD.g _ 2 2 _ (Id aK.far x y) xaa (by intro i hi;simp at hi;rcases hi with rfl|rfl<;>assumption) (ts.getD k hG).pos;have bI:E (r=qD _ _ x y):=HR.o;have bL:E _:=Z.keep bh;have aW:E _:=bD;have am:E (∀i∈[x,y],i<aU.vs.length):=by intro i hi;simp at hi;rcases hi with rfl|rfl<;>assumption
 have c1:=af.c1 k O;have aH:(aF.alloc _).cell? _=_:=(bh.cell af.lt xaa).trans c1;exact qeq):Zp:=h
open bE in
theorem EA{W u}(Y:TrIn W P J u1 u2 u3 u4 bs st aT Q u g off m cap ts)(k)(O:k<m)(bP:k+1<m)(b9:opM [43] [45] ts=(k:Int))(ay a0)(bg:RsG st ay)(ba:∀ax x,ay=.ok (ax,x)->RsG ax a0)
  (bZ:Calls prog 101 #[hy P,.slice aT Q cL,.slice (some ⟨g,off,none⟩) k cap] W (TrO W P J u1 u2 u3 u4 bs ay))
  (bW:∀ax x,ay=.ok (ax,x)->∀I a5 a7 z G,WS I P J a5 a7 z G bs ax->Mv (Mst P u1 u2 u3 u4) W (Mst P a5 a7 z G) I->Calls prog 101 #[hy P,.slice aT Q cL,.slice (some ⟨g,off+(k+1)*3,none⟩) (m-(k+1)) (cap-(k+1))] I (TrO I P J a5 a7 z G bs a0)):
  Calls prog 101 #[hy P,.slice aT Q cL,.slice (some ⟨g,off,none⟩) m cap] W (TrO W P J u1 u2 u3 u4 bs (Ic (ts.getD k hG) ay a0)):=by
 have K:E _:=fE W g _ m cap _ Y.tk Y.m5 [43] [45];have ae:E _:=fE W g _ m cap _ Y.tk Y.m5 [42] [47];rw[b9]at K;clear ae b9;have cp:=Y.m5;have S:=Y.mc;have R:E (∀I M',Mv _ W M' I->_):=λI M' aj=>Y.tk.keepC aj.chg Y.tg;exact qcc
theorem bF.qcd(h:Zp:=by
 have ca:0<=(k:Int):=xaa;go_upto_region 3 with (go_at_call 119;refine yaj K.o ?_;rintro e ag ⟨rfl,X⟩;obtain rfl:=X.symm);go_upto_region 5 with (go_at_call 119;refine yaj ae.o ?_;rintro e ag ⟨rfl,X⟩;obtain rfl:=X.symm);clear ae;rcases ay with⟨c,p⟩|⟨ax,x⟩
 ·exact xgk
 obtain⟨ap,an⟩:=be.o ax x rfl;have bB:¬((x:Int)<0):=xaa;go_upto_region 8 with (go_at_call 101;refine yaj N.o ?_;rintro e ag ⟨rfl,a5,a7,z,G,v,aI⟩);have cx:E _:=cz.o ax x rfl ag a5 a7 z G v aI;have bQ:E _:=aI;clear N cz v aI;rcases a0 with⟨c,p⟩|⟨aU,y⟩
 ·exact xfq
 obtain⟨bD,bN⟩:=bM.o ax x rfl aU y rfl;exact qga):Zp:=h
theorem bF.qer(h:Zp:=by
 simp only at c1 aH ad bI;cases aA:jJ aU [x,y] s with
 |error f=>
  obtain⟨c,p⟩:=f;rw[aA]at ad;have H:E _:=bI.o.trans (Af aA);clear aA bI;go_wp2_with (go_at_call 120;refine yaj ad.o ?_;rintro e bc ⟨rfl,bd⟩);go_ret;rw[H.o];exact⟨rfl,bd.1,bd.2.1,bL.o.bad bd.2.2⟩
 |ok q=>
  obtain⟨bx,aa⟩:=q;rw[aA]at ad;have H:E (r=_):=bI.o.trans (CG aA);obtain⟨ao,aB,nn,aO⟩:=lj aW.o.g [x,y] s am.o aA;clear aA bI
  obtain⟨j,n,rfl⟩:∃a b,aa=[a,b]:=by
   match aa,aB with
   |[a,b],_=>exact⟨a,b,rfl⟩
  have al:=(aO j xac).1;have F:=(aO n xac).1;go_upto_region 14 with (go_at_call 120;refine yaj ad.o ?_;rintro e bc ⟨c9,d3,rfl,aP,y2,y3,y4,a6,bm,cw⟩);have w:=R.o bc _ (bL.o.trans bm);obtain⟨bJ,cv,a9,b3,b2⟩:=a6.lenc al;obtain⟨au,of,ai,bX,ak,bH⟩:=cw.at_ xac;subst a9 ai;have bA:E (∀I,Kept 0 0 bc I->I.cell? ⟨g,off+k*3,none⟩=some (eN aR)/\I.cell? ⟨g,off+k*3+1,none⟩=some (hA s)/\I.cell? ⟨P,1,none⟩=some (hz bJ bx.vs.length cv)/\I.cell? ⟨bJ,j*6+1,none⟩=some (hA (eX bx j))/\I.cell? ⟨au,of,none⟩=some (hA (j:Nat))/\I.cell? ⟨au,of+1,none⟩=some (hA (n:Nat))):=λI aj=>⟨(aj.cell (p:=⟨g,off+k*3,none⟩) w.lt xaa).trans (by have:=w.c0 k O;rw[br.o]at this;exact this),(aj.cell (p:=⟨g,off+k*3+1,none⟩) w.lt xaa).trans (by have:=w.c1 k O;rw[br.o]at this;exact this),(a6.keep aj).c1,(aj.cell (p:=⟨bJ,j*6+1,none⟩) b3 xaa).trans b2,(aj.cell (p:=⟨au,of,none⟩) ak xaa).trans (bH 0 xac),(aj.cell (p:=⟨au,of+1,none⟩) ak xaa).trans (bH 1 xac)⟩
  have ah:E (∀I,Kept 0 0 bc I->Calls prog 104 #[hy P,(eK (qC aR) (eX bx j) (j:Nat) (n:Nat) 0).agg,hA s] I λe ab=>(∃x:Int,e=.returned (hA x))/\E (TrO W P J u1 u2 u3 u4 bs r e ab)):=λI aj=>yaj (lY (a6.keep aj) ao.g (eK (qC aR) (eX bx j) (j:Nat) (n:Nat) 0) (ao.g.lenB al) yah s) (λe ab t=>⟨t.ret,by
   show TrO W P J u1 u2 u3 u4 bs r e ab
   rw[H.o]
   exact TrO.after ((bL.o.trans bm).keep aj) t⟩)
  have bC:=ao.g.n;have U:E _:=λI=>Hg aR I;generalize eX bx j=l at bA ah;generalize qC aR=dg at U ah;generalize bx.vs.length=aV at*;clear b2 bH w a6 bm cw ao aO ad H bL R aW am c1 aH K aB bX ak b3 br;have q:=λx:KW bc=>bA.o _ x.k;refine vO (C:=λB=>∃x:KW bc,B=x.v) 30 (by kernel_rfl) (by kernel_rfl) ⟨⟨bc.drew,eG _⟩,rfl⟩ ?_;simp only[List.take_succ_cons,List.take_zero,List.drop_succ_cons,List.drop_zero]
  repeat (go_big_quiet_step (first
   |(go_at_call 121;exact yaj (U.o _) λe B h=>⟨h.1,⟨_,h.2⟩⟩)
   |(go_at_call 46;exact yaj (ij _ _ _ _ _ _) λe B h=>⟨h.1,⟨⟨B,(KW.k _).trans h.2⟩,rfl⟩⟩)))
  refine wpQuiet_nil ?_;rintro bp ⟨x,rfl⟩;go_wp2_with (go_at_call 104;refine yaj (ah.o _ x.k) ?_;rintro e ci ⟨⟨cX,rfl⟩,bd⟩);go_ret;exact bd.o):Zp:=h
theorem bF.qgb(h:Zp:=by
 have af:=R.o aF _ Z;have b4:=yak an bD.n;have bh:=ez 0 0 aF (.cells #[hA x,hA y] 3);have ad:E _:=zS (aK.keep bh) bD.g _ 2 2 [x,y] (Id aK.far x y) xaa (by intro i hi;simp at hi;rcases hi with rfl|rfl<;>assumption) (ts.getD k hG).pos;have bI:E (r=qD aU (ts.getD k hG) x y):=HR.o;have bL:E _:=Z.keep bh;have aW:E _:=bD;have am:E (∀i∈[x,y],i<aU.vs.length):=by intro i hi;simp at hi;rcases hi with rfl|rfl<;>assumption
 have c1:=af.c1 k O;have aH:(aF.alloc (.cells #[hA x,hA y] 3)).cell? ⟨g,off+k*3+1,none⟩=_:=(bh.cell (p:=⟨g,off+k*3+1,none⟩) af.lt xaa).trans c1;exact qeq):Zp:=h
open bF in
theorem EB{W u}(Y:TrIn W P J u1 u2 u3 u4 bs st aT Q u g off m cap ts)(k)(O:k<m)(bP:k+1<m)(aq:opM [43] [45] ts=-1)(b9:opM [42] [47] ts=(k:Int))(ay a0)(bg:RsG st ay)(ba:∀ax x,ay=.ok (ax,x)->RsG ax a0)
  (bZ:Calls prog 101 #[hy P,.slice aT Q cL,.slice (some ⟨g,off,none⟩) k cap] W (TrO W P J u1 u2 u3 u4 bs ay))
  (bW:∀ax x,ay=.ok (ax,x)->∀I a5 a7 z G,WS I P J a5 a7 z G bs ax->Mv (Mst P u1 u2 u3 u4) W (Mst P a5 a7 z G) I->Calls prog 101 #[hy P,.slice aT Q cL,.slice (some ⟨g,off+(k+1)*3,none⟩) (m-(k+1)) (cap-(k+1))] I (TrO I P J a5 a7 z G bs a0)):
  Calls prog 101 #[hy P,.slice aT Q cL,.slice (some ⟨g,off,none⟩) m cap] W (TrO W P J u1 u2 u3 u4 bs (Ic (ts.getD k hG) ay a0)):=by
 have K:E _:=fE W g off m cap ts Y.tk Y.m5 [43] [45];have ae:E _:=fE W g off m cap ts Y.tk Y.m5 [42] [47];rw[aq]at K;rw[b9]at ae;clear b9 aq;have cp:=Y.m5;have S:=Y.mc;have R:E (∀I M',Mv (Mst P u1 u2 u3 u4) W M' I->_):=λI M' aj=>Y.tk.keepC aj.chg Y.tg;exact qcc
end
section
open Go.RowKit Flt
variable{r:Rs (LSt×Nat)}
theorem vP{f st u o a b}(h:eM (f+1) st u (.bin o a b)=some r):∃ay a0,eM f st u a=some ay/\(∀ax x,ay=.ok (ax,x)->eM f ax u b=some a0)/\r=Ic o ay a0:=by
 rw[eM]at h;cases F:eM f st u a with
 |none=>rw[F]at h;cases h
 |some ay=>
  rw[F]at h;rcases ay with⟨c,p⟩|⟨ax,x⟩
  ·cases h;exact⟨_,.error (c,p),rfl,λ_ _ e=>(by cases e),rfl⟩
  simp only[jp]at h;cases N:eM f ax u b with
  |none=>grind
  |some a0=>
   rw[N]at h;refine⟨.ok (ax,x),a0,rfl,λ_ _ e=>(by cases e;exact N),?_⟩;rcases a0 with⟨c,p⟩|⟨aU,y⟩
   ·cases h;rfl
   cases h;rfl
theorem Ie(ts us o):(ts++o::us).getD ts.length hG=o:=by
 simp_all
theorem iS{n es ts}(h:Pr n es ts):0<ts.length:=by
 induction h<;>grind
section
variable{f:Nat}{W:World}{P J:Nat}{u1 u2 u3 u4:Value}{bs:List Bc}{st:LSt}{aT:Option Addr}{Q cL:Nat}{u:Loc}{g off m cap:Nat}{ts us:List Tok}{o:Tok}{a b:Ex}{r:Rs (LSt×Nat)}
theorem vQ(al:TrC f)(Y:TrIn W P J u1 u2 u3 u4 bs st aT Q u g off m cap (ts++o::us)){Z n2}(ar:Pr Z [a] ts)(hb:Pr n2 [b] us)(F:Z<=2)(N:n2<=2){ay a0}(ae:eM f st u a=some ay)(a9:∀ax x,ay=.ok (ax,x)->eM f ax u b=some a0):
  RsG st ay/\(∀ax x,ay=.ok (ax,x)->RsG ax a0)/\
  Calls prog 101 #[hy P,.slice aT Q cL,.slice (some ⟨g,off,none⟩) ts.length cap] W (TrO W P J u1 u2 u3 u4 bs ay)/\
  (∀ax x,ay=.ok (ax,x)->∀I a5 a7 z G,WS I P J a5 a7 z G bs ax->Mv (Mst P u1 u2 u3 u4) W (Mst P a5 a7 z G) I->Calls prog 101 #[hy P,.slice aT Q cL,.slice (some ⟨g,off+(ts.length+1)*3,none⟩) (m-(ts.length+1)) (cap-(ts.length+1))] I (TrO I P J a5 a7 z G bs a0)):=by
 have am:=Y.tk.len;rw[yal,yaq]at am;have bu:=Y.mc;have b5:=je ar (λt ht=>Y.ti t (by simp[ht])) a xac;have bY:=je hb (λt ht=>Y.ti t (by simp[ht])) b xac;have aq:=gn f st u a Y.gd Y.nm Y.lo b5 ay ae;refine⟨aq,λax x e=>?_,?_,λax x e I a5 a7 z G X bx=>?_⟩
 ·have w:=(aq ax x e).1;exact gn f ax u b w.g (Y.nm.gw w) (Y.lo.le w.n) bY a0 (a9 ax x e)
 ·have h:=Y.sub Y.ws (Gw.refl Y.gd) (Mv.refl _ W) 0 ts.length xaa ts xac (cap':=cap) xaa;rw[Nat.zero_mul,Nat.add_zero,Nat.sub_zero]at h;exact al W P J u1 u2 u3 u4 bs st aT Q cL u g off ts.length cap ts h Z a ar F ay ae
 have h:=Y.sub X (aq ax x e).1 bx (ts.length+1) m yad us (by
  rw[List.drop_append,List.drop_of_length_le xaa,show ts.length+1-ts.length=1 by omega,List.nil_append,List.drop_succ_cons,List.drop_zero,yap xaa]) (cap':=cap-(ts.length+1)) xaa
 exact al I P J a5 a7 z G bs ax aT Q cL u g _ _ _ us h n2 b hb N a0 (a9 ax x e)
theorem If(al:TrC f)(Y:TrIn W P J u1 u2 u3 u4 bs st aT Q u g off m cap (ts++o::us))(ar:Pr 2 [a] ts)(ho:o.sym=[43]\/o.sym=[45])(hb:Pr 1 [b] us)(h:eM (f+1) st u (.bin o a b)=some r):
  Calls prog 101 #[hy P,.slice aT Q cL,.slice (some ⟨g,off,none⟩) m cap] W (TrO W P J u1 u2 u3 u4 bs r):=by
 obtain⟨ay,a0,ae,a9,rfl⟩:=vP h;obtain⟨bu,p2,z,q⟩:=vQ (cL:=cL) al Y ar hb xaa xaa ae a9;have am:=Y.tk.len;rw[yal,yaq]at am;have af:=iS hb;have t:=EA Y _ xaa xaa (Ns ar ho hb) _ _ bu p2 z q;rw[Ie]at t;exact t
theorem Ig(al:TrC f)(Y:TrIn W P J u1 u2 u3 u4 bs st aT Q u g off m cap (ts++o::us))(ar:Pr 1 [a] ts)(ho:o.sym=[42]\/o.sym=[47])(hb:Pr 0 [b] us)(h:eM (f+1) st u (.bin o a b)=some r):
  Calls prog 101 #[hy P,.slice aT Q cL,.slice (some ⟨g,off,none⟩) m cap] W (TrO W P J u1 u2 u3 u4 bs r):=by
 obtain⟨ay,a0,ae,a9,rfl⟩:=vP h;obtain⟨bu,p2,z,q⟩:=vQ (cL:=cL) al Y ar hb xaa xaa ae a9;have am:=Y.tk.len;rw[yal,yaq]at am;have af:=iS hb;have t:=EB Y _ xaa xaa (Gm (Pr.mul ar ho hb)) (Nt ar ho hb) _ _ bu p2 z q;rw[Ie]at t;exact t
end
theorem ED{f st u o a}(h:eM (f+1) st u (.neg o a)=some r):∃ay,eM f st u a=some ay/\r=Ok o.pos ay:=by
 exact xcq
section
variable{f:Nat}{W:World}{P J:Nat}{u1 u2 u3 u4:Value}{bs:List Bc}{st:LSt}{aT:Option Addr}{Q cL:Nat}{u:Loc}{g off m cap:Nat}{ts:List Tok}{o t:Tok}{a:Ex}{r:Rs (LSt×Nat)}
theorem EE(Y:TrIn W P J u1 u2 u3 u4 bs st aT Q u g off m cap [t])(ht:t.sym=gK)(h:eM (f+1) st u (.name t)=some r):
  Calls prog 101 #[hy P,.slice aT Q cL,.slice (some ⟨g,off,none⟩) m cap] W (TrO W P J u1 u2 u3 u4 bs r):=by
 rw[eM]at h;have e:r=Ia st _:=(hE h).symm;have k:=Bv (cL:=cL) Y (Pr.name ht) ht Y.tk.len.symm;rw[e];exact k
theorem Ih(al:TrC f)(Y:TrIn W P J u1 u2 u3 u4 bs st aT Q u g off m cap (o::ts))(ho:o.sym=[45])(ar:Pr 0 [a] ts)(h:eM (f+1) st u (.neg o a)=some r):
  Calls prog 101 #[hy P,.slice aT Q cL,.slice (some ⟨g,off,none⟩) m cap] W (TrO W P J u1 u2 u3 u4 bs r):=by
 obtain⟨ay,ae,rfl⟩:=ED h;have am:=Y.tk.len;rw[yaq]at am;have af:=iS ar;have bu:=Y.mc;have b5:=je ar (λt ht=>Y.ti t (by simp[ht])) a xac;refine Ez Y (Pr.neg ho ar) ho xaa _ (gn f _ _ a Y.gd Y.nm Y.lo b5 _ ae) (λI k=>?_)
 have au:=Y.sub (Y.ws.keep k) (Gw.refl Y.gd) (Mv.of k) 1 m yad _ (by
  rw[List.drop_succ_cons,List.drop_zero,yap xaa]) (cap':=cap-1) xaa
 exact al _ P J _ _ _ _ _ _ _ _ _ _ g _ _ _ _ au 0 a ar xaa _ ae
theorem Ii{l q}(Y:TrIn W P J u1 u2 u3 u4 bs st aT Q u g off m cap (l::(ts++[q])))(af:l.sym=[40])(ar:Pr 2 [a] ts)(ap:q.sym=[41])
  (al:∀I,TrIn I P J u1 u2 u3 u4 bs st aT Q u g (off+3) (m-2) (cap-1) ts->Calls prog 101 #[hy P,.slice aT Q cL,.slice (some ⟨g,off+3,none⟩) (m-2) (cap-1)] I (TrO I P J u1 u2 u3 u4 bs r)):
  Calls prog 101 #[hy P,.slice aT Q cL,.slice (some ⟨g,off,none⟩) m cap] W (TrO W P J u1 u2 u3 u4 bs r):=by
 have am:=Y.tk.len;rw[yaq,yal,List.length_singleton]at am;have bu:=Y.mc;refine Ey Y (Pr.par af ar ap) af xaa r (λI k=>?_)
 have au:=Y.sub (Y.ws.keep k) (Gw.refl Y.gd) (Mv.of k) 1 (m-1) xaa _ (by
  rw[List.drop_succ_cons,List.drop_zero,List.take_append_of_le_length xaa,yap xaa]) (cap':=cap-1) xaa
 rw[show m-1-1=m-2 by omega]at au;exact yaj (al _ au) (λe ab t=>TrO.back k t)
