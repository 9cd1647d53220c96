import Derived.Test.YtbhmhdllnfkjhaaGreatP25
import Derived.Test.YtbhmhdllnfkjhaaGreatP26
namespace Go.Proofs.Z
variable{Zp:Prop}
open Tryz
set_option maxRecDepth 1000000
set_option maxHeartbeats 0
section
open Go.RowKit Flt
attribute[local go_sem] eG eE eD
variable{P R aS g cL off m cap:Nat}{u1 u2 u3 u4 a9 ba be bi:Value}{bs:List Bc}{st:LSt}{a6:Option Addr}{W':World}{u:Loc}{ts:List Tok}{e:Ex}
theorem aU.qbi(h:Zp:=by
 have j:V (mz _ ⟨[112,117,116],_,z⟩ a n T=if fe st a≠1 then .error (4,K)
  else if iD _<1\/1000<iD _ then .error _
  else if iD _<=iD _ then .error _ else fV _ _ K):=rfl
 have ck:=ak.len a F;change 1<=fe _ a/\fe _ a<=1000 at ck;have bo:V _:=h;have au:V _:=aZ;have cJ:V _:=bP;obtain⟨bp,cap,e2,bQ,-⟩:=h.lenc F
 have HL:V (∀W',Kept 0 0 W W'->W'.cell? _=some (.slice _ _ _)/\W'.cell? _=some _/\(W'.cell? _=some _/\W'.cell? _=some _/\W'.cell? _=some _/\W'.cell? _=some _)/\(W'.cell? _=some _/\W'.cell? _=some _/\W'.cell? _=some _/\W'.cell? _=some _)):=λW' ai=>by
  obtain⟨ap,ae,af,_,c3⟩:=(bo.o.keep ai).lenc F
  rw[e2]at af
  cases af
  exact⟨(bo.o.keep ai).c1.trans (congrArg some e2),c3,(au.o.keep ai).cells,(cJ.o.keep ai).cells⟩
 generalize mz _ _ a n _=r at j⊢;generalize fe _ a=l at ck HL j;generalize w:st.vs.length=aH at*;clear w h aZ bP ak a5 aV bo au cJ e2 bQ;unfold jc at bW bJ⊢;obtain⟨bv,Y,I⟩:=n;obtain⟨i,f,Q⟩:=T;simp only at bW bJ hb H HL j⊢;generalize iD _=m at*;generalize iD _=b2 at*;exact qey):Zp:=h
theorem aU.qez(h:Zp:=by
 obtain⟨aM,aQ,⟨bY,cg,cn,cX⟩,bk,bq,co,s⟩:=HL.o _ HK.o;exact qgt):Zp:=h
theorem aU.qgu(h:Zp:=by
 clear aM aQ bY cg cn cX bk bq co s bH aA HK ah bW;obtain⟨aM,aQ,⟨bY,cg,cn,cX⟩,bk,bq,co,s⟩:=HL.o _ bD.o;have bH:=y.o.c0;have O:=y.o.c1;by_cases B:l=1
 ·subst B;have G:V _:=j.o.trans (hF xac);clear j;go_upto_region 14 with (go_at_call 120;refine yaj (bJ.o _) ?_;rintro e a7 ⟨rfl,aF⟩);have bR:V _:=bD.o.trans aF;have b7:V _:=y.o.keep aF;clear aM aQ bY cg cn cX bk bq co s bH O y bD aF bJ;obtain⟨aM,aQ,⟨bY,cg,cn,cX⟩,bk,bq,co,s⟩:=HL.o _ bR.o;have bH:=b7.o.c0;have O:=b7.o.c1;clear HL;by_cases J:b2<1
  ·have U:V _:=G.o.trans (hG (.inl J));exact xdb
  by_cases h3:1000<b2
  ·have U:V _:=G.o.trans (hG (.inr h3));exact xdb
  have cf:V _:=G.o.trans (hF xaa);clear G;by_cases a0:b2<=m
  ·have U:V _:=cf.o.trans (hG a0);exact xdb
  have U:V _:=cf.o.trans (hF a0);have bZ:V _:=λW' ai=>bC.o W' (eL 12 _ a 0 m) ai (by show 1<=b2/\b2<=1000;omega) yah;go_upto_region 18 with fail
  go_region_with (first
   |(go_at_call 40;refine yaj (gO _ _ _ _ _ _) ?_;rintro e bj ⟨rfl,ca⟩;have C:=(b7.o.keep ((eF _).trans ca)).c1)
   |(go_at_call 121;refine yaj (bZ.o _ (bR.o.trans ((eF _).trans ca))) ?_;rintro e br ⟨⟨x,rfl⟩,bh⟩))
  all_goals (go_wp2_with fail;go_ret;rw[U.o];exact bh.o)
 have U:V _:=j.o.trans (hG B);have bM:=yax B;clear HL;go_wp2_with (first|(go_at_call 117;refine yaj (bm.o _ _ bD.o) ?_;rintro e bj ⟨rfl,S⟩)|fail);exact xdw):Zp:=h
open aU in
theorem Hp{W}(h:WS W P R u1 u2 u3 u4 bs st)(ak:Gd st)(k)(N:k.sym=Du)(a)(F:a<st.vs.length)(n)(a5:Dgs n.text){bl ab cp q o c}(b4:3<=ab)(aZ:Sg1 W bl 1 q o c n)(T)(aV:Dgs T.text){aJ bO c2}(bP:Sg1 W bl 2 aJ bO c2 T):
  Calls prog 158 #[hB P,jc k,hD a,hC bl ab cp] W (TrO W P R u1 u2 u3 u4 bs (mz st k a n T)):=by
 obtain⟨ar,K,z⟩:=k;simp only at N;subst N;unfold Du;have bW:V _:=λW'=>zL n a5 W';have bJ:V _:=λW'=>zL _ aV W';have bw:=ak.n;have hb:=qj a5 yad;rw[List.take_length]at hb;have H:=qj aV yad;rw[List.take_length]at H;have aA:V _:=iq W [112,117,116] K z;have HK:V _:=ez 0 0 W (.cells #[eN [112,117,116],hD K,eN z] 92);exact qbh
structure TrIn(W:World)(P B:Nat)(u1 u2 u3 u4:Value)(bs:List Bc)(st:LSt)(aL:Option Addr)(nL:Nat)(loc:Loc)(g off m cap:Nat)(ts:List Tok):Prop where
 ws:WS W P B u1 u2 u3 u4 bs st
 gd:Gd st
 nm:NmOK st
 lc:LcR (Mst P u1 u2 u3 u4) W aL nL loc
 ln:nL<=5000
 lo:LcOK loc st.vs.length
 tk:TkA W g off m ts
 tg:¬Mst P u1 u2 u3 u4 g
 m5:m<=5000
 mc:m<=cap
 ti:∀t∈ts,t.sym=iG->Dgs t.text
 tn:∀t∈ts,(t.sym=iG\/t.sym=li)->kP t.text
def TrC(f:Nat):Prop:=∀(W:World) (P B:Nat) (u1 u2 u3 u4:Value) (bs:List Bc) (st:LSt) (aL:Option Addr) (nL cL:Nat) (loc:Loc) (g off m cap:Nat) (ts:List Tok),TrIn W P B u1 u2 u3 u4 bs st aL nL loc g off m cap ts->∀(n:Nat) (e:Ex),Pr n [e] ts->n<=2->∀r,eO f st loc e=some r->
 Calls prog 118 #[.pointer (some ⟨P,0,none⟩),.slice aL nL cL,.slice (some ⟨g,off,none⟩) m cap] W (TrO W P B u1 u2 u3 u4 bs r)
theorem TkA.in_{w n}(h:TkA w g off n ts)(i j us)(aH:us=(ts.drop i).take (j-i))(hj:j<=n):TkA w g (off+i*3) (j-i) us:=by subst aH;exact h.cut hj
theorem TrIn.sub{W}(h:TrIn W P R u1 u2 u3 u4 bs st a6 aS u g off m cap ts){O}(an:WS W' P R a9 ba be bi bs O)(w:Gw st O)(k:Mv (Mst P u1 u2 u3 u4) W (Mst P a9 ba be bi) W')(i j)(hj:j<=m)(us)(aH:us=(ts.drop i).take (j-i)){cap'}(ad:j-i<=cap'):TrIn W' P R a9 ba be bi bs O a6 aS u g (off+i*3) (j-i) cap' us where
 ws:=an
 gd:=w.g
 nm:=h.nm.gw w
 lc:=h.lc.mv k
 ln:=h.ln
 lo:=h.lo.le w.n
 tk:=(h.tk.keepC k.chg h.tg).in_ i j us aH hj
 tg:=λc=>(k.new g c).elim h.tg (λc=>hM h.tk.lt)
 m5:=hM h.m5
 mc:=ad
 ti:=λt ht=>h.ti t (by grind)
 tn:=λt ht=>h.tn t (by grind)
theorem Ei{W}(H:TrIn W P R u1 u2 u3 u4 bs st a6 aS u g off m cap ts)(aK:Pr 0 [e] ts)(ae:(ts.getD 0 hJ).sym=[40])(J:2<=m)(r)
  (bc:∀W',Kept 0 0 W W'->Calls prog 118 #[hB P,.slice a6 aS cL,.slice (some ⟨g,off+3,none⟩) (m-2) (cap-1)] W' (TrO W P R u1 u2 u3 u4 bs r)):
  Calls prog 118 #[hB P,.slice a6 aS cL,.slice (some ⟨g,off,none⟩) m cap] W (TrO W P R u1 u2 u3 u4 bs r):=by
 have z:V _:=fN W g _ m cap _ H.tk H.m5 [43] [45];have ad:V _:=fN W g _ m cap _ H.tk H.m5 [42] [47];rw[mK aK]at z ad;have c0:=H.tk.c0 0 xaa;have c1:=H.tk.c1 0 xaa;have c2:=H.tk.c2 0 xaa;rw[ae]at c0;have cJ:=H.m5;have aa:=H.mc;have i:V (∀W',Kept 0 0 W _->Calls _ _ _ _ λe aB=>(∃x:Int,e=.returned _)/\V (TrO W P R _ _ _ _ _ r e _)):=λW' k=>yaj (bc W' k) (λe aB t=>⟨t.ret,t⟩);generalize ts.getD 0 _=t at*;clear ae H aK bc;obtain⟨aW,X,bF⟩:=t;simp only[Nat.zero_mul,Nat.add_zero]at c0 c1 c2;go_enter func118,ntmps118;go_upto_region 3 with (go_at_call 142;refine yaj z.o ?_;rintro e ag ⟨rfl,an⟩;obtain rfl:=an.symm);go_upto_region 15 with (go_at_call 142;refine yaj ad.o ?_;rintro e ag ⟨rfl,an⟩;obtain rfl:=an.symm);go_upto_region 16 with fail;change Code.wp _ _ _ _ (W.alloc (.cells #[eN _,.int _ X,eN _] 92));have aA:V _:=iq W [40] X bF;have HK:V _:=ez 0 0 W (.cells #[eN [40],hD X,eN bF] 92);generalize W.alloc _=az at aA HK⊢;generalize W.heap.size=aR at aA⊢;have bH:=aA.o.c0;have aj:V _:=i.o _ HK.o;clear c0 c1 c2 z ad aA i;go_wp2_with (go_at_call 118;refine yaj aj.o ?_;rintro e ag ⟨⟨x,rfl⟩,bh⟩);go_ret;exact bh.o
def Hq(st:LSt)(q:Rs Nat):Rs (LSt×Nat):=match q with|.error f=>.error f|.ok v=>.ok (st,v)
theorem D.qal(h:Zp:=by
 change Code.wp _ _ _ _ (W.alloc (.cells #[eN [110,97,109,101],hD X,eN bF] 92));have aA:V _:=iq W [110,97,109,101] X bF;have HK:V _:=ez 0 0 W (.cells #[eN [110,97,109,101],hD X,eN bF] 92);generalize W.alloc (.cells #[eN [110,97,109,101],hD X,eN bF] 92)=az at aA HK⊢;generalize W.heap.size=aR at aA⊢;have f:V _:=bL.o az HK.o;obtain⟨bH,O,ax⟩:az.cell? ⟨aR,0,none⟩=some (eN [110,97,109,101])/\az.cell? ⟨aR,1,none⟩=some (hD X)/\az.cell? ⟨aR,2,none⟩=some (eN bF):=⟨aA.o.c0,aA.o.c1,aA.o.c2⟩
 clear c0 c1 c2 z ad aA bL;generalize fC st u ⟨[110,97,109,101],X,bF⟩=q at f HR;rcases q with⟨c,p⟩|v
 ·exact xdl
 go_wp2_with (go_at_call 145;refine yaj f.o ?_;rintro e ag ⟨rfl,ah⟩);go_ret;rw[HR.o];exact⟨rfl,u1,u2,u3,u4,bo.o.keep (HK.o.trans ah),Mv.of (HK.o.trans ah)⟩):Zp:=h
theorem D.qek(h:Zp:=by
 have bL:V (∀W',Kept 0 0 W W'->_):=λW' k=>xS (H.ws.keep k) H.gd.m a6 aS cL u (H.lc.keep k) H.ln (ts.getD 0 hJ);have bo:V _:=H.ws;unfold gQ at ae;generalize ts.getD 0 hJ=t at*;clear H aK;obtain⟨aW,X,bF⟩:=t;simp only at ae;subst ae;simp only[Nat.zero_mul,Nat.add_zero]at c0 c1 c2;obtain⟨r,av⟩:∃r,r=Hq st (fC st u ⟨[110,97,109,101],X,bF⟩):=⟨_,rfl⟩
 rw[<-av];have HR:V _:=av;clear av;exact qak):Zp:=h
open D in
theorem Bn{W}(H:TrIn W P R u1 u2 u3 u4 bs st a6 aS u g off m cap ts)(aK:Pr 0 [e] ts)(ae:(ts.getD 0 hJ).sym=gQ)(B:m=1):
  Calls prog 118 #[hB P,.slice a6 aS cL,.slice (some ⟨g,off,none⟩) m cap] W (TrO W P R u1 u2 u3 u4 bs (Hq st (fC st u (ts.getD 0 hJ)))):=by
 subst B;have z:V _:=fN W g off 1 cap ts H.tk H.m5 [43] [45];have ad:V _:=fN W g off 1 cap ts H.tk H.m5 [42] [47];exact qej
theorem WS.far{W}(h:WS W P R u1 u2 u3 u4 bs st):¬Mst P u1 u2 u3 u4 W.heap.size:=by
 exact xfm
theorem TrO.after{W0 az r e}(k:Mv (Mst P u1 u2 u3 u4) W0 (Mst P a9 ba be bi) az)(h:TrO az P R a9 ba be bi bs r e W'):TrO W0 P R u1 u2 u3 u4 bs r e W':=by
 rcases r with⟨c,p⟩|⟨st,v⟩
 ·obtain⟨B,J,h3,a0⟩:=h;exact⟨B,J,h3,k.bad a0⟩
 obtain⟨B,aO,ag,a7,bj,J,h3⟩:=h;exact⟨B,_,_,_,_,J,k.trans h3⟩
theorem TB.keepC{W p s k x}(h:TB W p s k x){S}(c:Chg S W W')(aZ:¬S p):TB W' p s k x:=
 ⟨yak h.lt c.size,(c.cell (p:=⟨p,0,none⟩) h.lt aZ).trans h.c0,(c.cell (p:=⟨p,1,none⟩) h.lt aZ).trans h.c1,(c.cell (p:=⟨p,2,none⟩) h.lt aZ).trans h.c2,λo=>(c.frozen (p:=⟨p,o,none⟩) h.lt aZ).trans (h.fr o)⟩
def NJ(p:Nat)(r:Rs (LSt×Nat)):Rs (LSt×Nat):=match r with|.error f=>.error f|.ok (s,a)=>fV s (eL 6 (fe s a) (a:Int) 0 0) p
theorem E.qal(h:Zp:=by
 change Code.wp _ _ _ _ (W.alloc (.cells #[eN _,.int _ _,eN _] 92));have aA:V _:=iq W [45] X bF;have HK:V _:=ez 0 0 W (.cells #[eN [45],hD X,eN bF] 92);generalize W.alloc _=az at aA HK⊢;generalize W.heap.size=aR at aA aI⊢;have aj:V _:=i.o _ HK.o;have bH:=aA.o.c0;clear c0 c1 c2 z ad i;rcases ay with⟨c,p⟩|⟨s,a⟩
 ·exact xdu
 obtain⟨w,F⟩:=aX.o s a rfl;go_upto_region 18 with (go_at_call 118;refine yaj aj.o ?_;rintro e ag ⟨rfl,a9,ba,be,bi,v,a0⟩);have y:V _:=aA.o.keepC a0.chg aI.o;obtain⟨bp,cv,e2,bQ,bb⟩:=v.lenc F;have cp:=v.c1;subst e2
 have bC:V (∀W',Kept 0 0 _ W'->Calls _ _ _ _ λe aB=>(∃x:Int,e=.returned _)/\V (TrO W P R _ _ _ _ _ r e _)):=λW' ai=>yaj (mB (v.keep ai) w.g (eL 6 (fe s a) _ 0 0) (w.g.lenB F) yah _) (λe aB t=>⟨t.ret,by
  show TrO W P R u1 u2 u3 u4 bs r e aB
  rw[HR.o]
  exact TrO.back HK.o (TrO.after (a0.keep ai) t)⟩)
 have O:=y.o.c1;have bw:=w.g.n;generalize fe s a=l at bb bC;generalize s.vs.length=aH at*;clear v a0 aj aA HR aX w bH;go_upto_region 20 with fail;exact xdj):Zp:=h
theorem E.qek(h:Zp:=by
 have aI:V _:=H.ws.far;have i:V _:=bc;have aX:V _:=bv;generalize ts.getD 0 _=t at*;clear H aK bc bv;obtain⟨aW,X,bF⟩:=t;simp only at ae;subst ae;simp only[Nat.zero_mul,Nat.add_zero]at c0 c1 c2;obtain⟨r,av⟩:∃r,r=NJ X ay:=⟨_,rfl⟩
 simp only;rw[<-av];have HR:V _:=av;clear av;exact qak):Zp:=h
open E in
theorem Ej{W}(H:TrIn W P R u1 u2 u3 u4 bs st a6 aS u g off m cap ts)(aK:Pr 0 [e] ts)(ae:(ts.getD 0 hJ).sym=[45])(J:2<=m)(ay)(bv:RsG st ay)
  (bc:∀W',Kept 0 0 W W'->Calls prog 118 #[hB P,.slice a6 aS cL,.slice (some ⟨g,off+3,none⟩) (m-1) (cap-1)] W' (TrO W' P R u1 u2 u3 u4 bs ay)):
  Calls prog 118 #[hB P,.slice a6 aS cL,.slice (some ⟨g,off,none⟩) m cap] W (TrO W P R u1 u2 u3 u4 bs (NJ (ts.getD 0 hJ).pos ay)):=by
 have z:V _:=fN W g _ m cap _ H.tk H.m5 [43] [45];have ad:V _:=fN W g _ m cap _ H.tk H.m5 [42] [47];exact qej
end
section
open Go.RowKit
variable{P:Program}{br:Array Oper}{c:Region.Mode}{C:World->Prop}{n:Nat}
def hdQ(P:Program)(md:Region.Mode)(ops:Array Oper)(C:World->Prop)(n:Nat)(L:Array Bool->Act->Prop):Nat->Array Bool->Act->Prop
 |0,l,a=>L l a
 |f+1,l,a=>Region.ready md ops l≠[]/\∀i∈Region.ready md ops l,i<n/\qOp P ops C i (hdQ P md ops C n L f (l.setIfInBounds i true)) a
theorem Cu{g L Q}(bJ:∀l a w,C w->L l a->wpAny P c br Q g l a w):∀f l a w,C w->hdQ P c br C n L f l a->wpAny P c br Q (f+g) l a w
 |0,l,a,w,an,h=>by rw[Nat.zero_add];exact bJ l a w an h
 |f+1,l,a,w,an,h=>by
  rw[Nat.add_right_comm]
  exact⟨λae=>absurd ae h.1,λi hi=>wpOp_of_qOp an (λag I e h'=>Cu bJ f _ _ _ e h') (h.2 i hi).2⟩
theorem Hr{i s v L}(hi:br[i]? =some s)(m:Region.noSelect br=true)(ar:Region.sinkB c br n=true)(ad:Region.chainB c br n=true)(hn:n<br.size)(bi:i<n)(a5:∀l a,L l a->∀j∈Region.ready c br l,n<=j):
  ∀f l a,HeadInv c br n l->(∀j g,br[j]? =some g->j≠i->l.getD j true=false->(∀e∈g.after,Region.binds c e=true->e.on≠i)->s.apart br g=true)->i∈Region.ready c br l->YieldsIn P br C s v a->hdQ P c br C n L f (l.setIfInBounds i true) (a.put s.dst v)->hdQ P c br C n L (f+1) l a:=by
 intro f;induction f with
 |zero=>
  intro l a p _ av bX H;have r:∀j∈Region.ready _ _ l,j<n:=λj hj=>(Nat.lt_or_ge j n).resolve_right λh=>tail_waits ar ad hn p _ i rfl bi (mem_ready.1 av).1 j h hj;refine⟨λh=>(by grind),λj hj=>⟨r j hj,?_⟩⟩;by_cases e:j=i
  ·subst e;exact bX.qOp hi H
  exact absurd (a5 _ _ H j (ready_mono hj e)) (Nat.not_le_of_lt (r j hj))
 |succ f aa=>
  intro l a p a9 av bX H;have aH:=(mem_ready.1 av).1;have r:∀j∈Region.ready _ _ l,j<n:=λj hj=>(Nat.lt_or_ge j n).resolve_right λh=>tail_waits ar ad hn p _ i rfl bi aH j h hj;refine⟨λh=>(by grind),λj hj=>⟨r j hj,?_⟩⟩;by_cases e:j=i
  ·subst e;exact bX.qOp hi H
  obtain⟨bw,g,t,F⟩:=mem_ready.1 hj
  have ak:∀e∈g.after,Region.binds _ e=true->e.on≠i:=λe Z hb am=>by
   have:=F e Z hb
   rw[am,getD_both aH]at this
   cases this
  refine qOp_mono (λag h3=>aa _ _ (p.set hj (r j hj)) (λk ok N w u aB=>a9 k _ N w ?_ aB) (ready_mono av (Ne.symm e)) h3.1 ?_) (qOp_put t (a9 j _ t e bw ak) (λcs b=>Region.noSelect_spec m i _ _ b hi) (λcs b=>Region.noSelect_spec m j _ _ b t) bX (H.2 j (ready_mono hj e)).2)
  ·by_cases q:j=k<;>simp_all<;>grind
  rw[Array.setIfInBounds_comm _ _ e];exact h3.2
theorem Cv{g U}(m:Region.noSelect br=true)(ar:Region.sinkB c br n=true)(ad:Region.chainB c br n=true)(hn:n<br.size):
  ∀(l:List Oper) (k:Nat) (t:Array Bool) (a:Act),(∀j,j<l.length->l[j]? =br[k+j]?)->k+l.length=n->HeadInv c br n t->Region.lexHead c br g l.length k t=true->wpQuiet P br C U l a->hdQ P c br C n (λi ag=>Region.seqB c br g n i=true/\U ag) l.length t a
 |[],k,t,a,_,N,_,aS,h=>by
  obtain rfl:k=n:=N
  exact⟨aS,h⟩
 |o::l,k,t,a,ab,N,p,aS,h=>by
  have ae:br[k]? =some o:=(ab 0 (Nat.zero_lt_succ _)).symm
  simp only[yaq,Region.lexHead,Bool.and_eq_true]at aS N ab
  obtain⟨⟨av,a9⟩,f⟩:=aS
  have e:k∈Region.ready c br t:=by grind
  have am:qOp P br C k (wpQuiet P br C U l) a:=by unfold qOp;simp only[ae];exact h
  obtain⟨v,bX,aw⟩:=yieldsIn_of_qOp ae am
  exact Hr ae m ar ad hn xaa (λ_ _ q=>seqB_ready q.1) _ t a p (Region.free_spec ae a9) e bX (Cv m ar ad hn l _ _ _ (λj hj=>by grind) xaa (p.set e xaa) f aw)
theorem vZ{id Q a w}{l:List Oper}(n)(aq:P.follows .mixedOrders=true)(aS:Region.lexTailB .any l.toArray n=true)(bT:C {w with drawn:=w.drawn+1})
  (h:wpQuiet P l.toArray C (λag=>∀I,C I->wpList P l.toArray Q (l.drop n) ag I) (l.take n) a):(Code.region id l.toArray true).wp P Q a w:=by
 simp only[Region.lexTailB,Bool.and_eq_true,decide_eq_true_eq]at aS;obtain⟨⟨⟨⟨m,hn⟩,ar⟩,ad⟩,ak⟩:=aS;have bI:n<l.length:=xaa;have ht:(l.take n).length=n:=by grind
 have H:=Cv m ar ad hn _ 0 (Array.replicate l.toArray.size _) a (λj hj=>by
  rw[ht]at hj
  simp[hj]) xaa ⟨by simp,λj g _ q=>(by rw[getD_replicate_false]at q;cases q),λt _ q=>getD_in (by simpa using q) (getD_replicate_false _ _)⟩ (hO ht ak) h
 refine wp_region_any aq ?_;have:=Cu (Q:=Q) (g:=l.toArray.size-n) (λt ag I e q=>?_) _ _ _ _ bT H
 ·rw[ht,Nat.add_sub_cancel' (Nat.le_of_lt hn)]at this;exact this
 have G:(l.drop n).length=l.toArray.size-n:=by simp
 rw[<-G];exact wpAny_of_seq _ n t _ _ (λj=>by simp) (by grind) (q.2 _ e)
structure KW(w:World) where
 v:World
 k:Kept 0 0 w v
instance (w:World):Nonempty (KW w):=⟨⟨w,.refl _ _ _⟩⟩
end
section
open Go.RowKit Flt
attribute[local go_sem] eG eE eD
variable{P R a b aS cL g off m cap:Nat}{u1 u2 u3 u4:Value}{st:LSt}{bs:List Bc}{a6:Option Addr}{ts:List Tok}
def Hs(o:Tok)(r1 r2:Rs (LSt×Nat)):Rs (LSt×Nat):=match r1 with
 |.error f=>.error f
 |.ok (_,x)=>match r2 with
  |.error f=>.error f
  |.ok (s2,y)=>qX s2 o x y
theorem Aa{o f}(h:jZ st [a,b] o.pos=.error f):qX st o a b=.error f:=by unfold qX;rw[h]
theorem Cw{aG o f}(h:jZ st [a,b] o.pos=.ok (aG,f)):qX st o a b=fV aG (eL (qW o.sym) (fe aG (f.getD 0 0)) (f.getD 0 0:Nat) (f.getD 1 0:Nat) 0) o.pos:=by unfold qX;rw[h]
theorem TrO.chg{W r e W'}(h:TrO W P R u1 u2 u3 u4 bs r e W'):Chg (Mst P u1 u2 u3 u4) W W':=by
 rcases r with⟨c,p⟩|⟨st,v⟩
 ·exact h.2.2.2
 obtain⟨_,_,_,_,_,_,k⟩:=h;exact k.chg
theorem Ht{W:World}{M}(a9:¬M W.heap.size)(x y:Nat):XsR M (W.alloc (.cells #[hD x,hD y] 3)) (some ⟨W.heap.size,0,none⟩) 2 [x,y]:=by
 refine⟨rfl,λ_=>⟨_,0,rfl,a9,by simp,λk N=>?_⟩⟩;grind[yav]
theorem bV.qcc(h:Zp:=by
 have ch:(0:Int)<=k:=xaa;go_upto_region 5 with (go_at_call 142;refine yaj z.o ?_;rintro e ag ⟨rfl,an⟩;obtain rfl:=an.symm);rcases ay with⟨c,p⟩|⟨ao,x⟩
 ·exact xgv
 obtain⟨ap,ak⟩:=aX.o _ x rfl;have bo:¬((x:Int)<0):=xaa;go_upto_region 8 with (go_at_call 118;refine yaj F.o ?_;rintro e ag ⟨rfl,a9,ba,be,bi,v,a0⟩);have cQ:V _:=b1.o _ x rfl _ _ _ _ _ v a0;have bJ:V _:=a0;clear F b1 v a0;rcases aW with⟨c,p⟩|⟨aG,y⟩
 ·exact xgb
 obtain⟨aw,bX⟩:=cD.o _ x rfl _ y rfl;exact qgz):Zp:=h
theorem bV.qfb(h:Zp:=by
 simp only at c1 d1 Z bz;cases aD:jZ aG [x,y] s with
 |error f=>
  obtain⟨c,p⟩:=f;rw[aD]at Z;have U:V _:=bz.o.trans (Aa aD);clear aD bz;go_wp2_with (go_at_call 143;refine yaj Z.o ?_;rintro e bj ⟨rfl,bh⟩);go_ret;rw[U.o];exact⟨rfl,bh.1,bh.2.1,C.o.bad bh.2.2⟩
 |ok q=>
  obtain⟨Q,S⟩:=q;rw[aD]at Z;have U:V _:=bz.o.trans (Cw aD);obtain⟨ab,aZ,nn,aU⟩:=lM b8.o.g _ _ am.o aD;clear aD bz
  obtain⟨j,n,rfl⟩:∃a b,S=[a,b]:=by
   match S,aZ with
   |[a,b],_=>exact⟨a,b,rfl⟩
  have ae:=(aU j xac).1;have B:=(aU n xac).1;go_upto_region 14 with (go_at_call 143;refine yaj Z.o ?_;rintro e bj ⟨cW,dp,rfl,aM,aQ,bY,cg,al,bn,cz⟩);have w:=Y.o _ _ (C.o.trans bn);obtain⟨bp,cv,e2,bQ,bb⟩:=al.lenc ae;obtain⟨ar,of,af,ce,ah,cx⟩:=cz.at_ xac;subst e2 af;have aO:V (∀W',Kept 0 0 _ W'->W'.cell? _=some (eN aP)/\W'.cell? _=some (.int _ s)/\W'.cell? _=some _/\W'.cell? _=some _/\W'.cell? ⟨_,of,_⟩=some (.int _ j)/\W'.cell? _=some (.int _ n)):=λW' ai=>⟨(ai.cell w.lt xaa).trans (by have:=w.c0 k N;rw[aI.o]at this;exact this),(ai.cell w.lt xaa).trans (by have:=w.c1 k N;rw[aI.o]at this;exact this),(al.keep ai).c1,(ai.cell bQ xaa).trans bb,(ai.cell ah xaa).trans (cx 0 xac),(ai.cell ah xaa).trans (cx 1 xac)⟩
  have bC:V (∀W',Kept 0 0 _ _->Calls _ _ _ W' λe aB=>(∃x:Int,e=.returned _)/\V (TrO W P R _ _ _ _ _ r e _)):=λW' ai=>yaj (mB (al.keep ai) ab.g (eL _ (fe Q _) j n 0) (ab.g.lenB ae) yah _) (λe aB t=>⟨t.ret,by
   show TrO W P R u1 u2 u3 u4 bs r e aB
   rw[U.o]
   exact TrO.after ((C.o.trans bn).keep ai) t⟩)
  have bw:=ab.g.n;have aA:V _:=λW'=>GY aP W';generalize fe Q _=l at aO bC;generalize qW _=e0 at aA bC;generalize Q.vs.length=aH at*;clear bb cx w al bn cz ab aU Z U C Y b8 am c1 d1 z aZ ce ah bQ aI;have q:=λx:KW _=>aO.o _ x.k;refine vZ (C:=λI=>∃x:KW bj,I=x.v) 30 (by kernel_rfl) (by kernel_rfl) ⟨⟨bj.drew,eF _⟩,rfl⟩ ?_;simp only[List.take_succ_cons,List.take_zero,List.drop_succ_cons,List.drop_zero]
  repeat (go_big_quiet_step (first
   |(go_at_call 144;exact yaj (aA.o _) λe I h=>⟨h.1,⟨_,h.2⟩⟩)
   |(go_at_call 40;exact yaj (gO _ _ _ _ _ _) λe I h=>⟨h.1,⟨⟨_,(KW.k _).trans h.2⟩,rfl⟩⟩)))
  refine wpQuiet_nil ?_;rintro br ⟨x,rfl⟩;go_wp2_with (go_at_call 121;refine yaj (bC.o _ x.k) ?_;rintro e ci ⟨⟨cX,rfl⟩,bh⟩);go_ret;exact bh.o):Zp:=h
theorem bV.qha(h:Zp:=by
 have X:=Y.o _ _ O;have cb:=yak ak aw.n;have bx:=ez 0 0 a7 (.cells #[hD x,hD y] 3);have Z:V _:=zN (aF.keep bx) aw.g _ 2 2 _ (Ht aF.far x y) xaa (by intro i hi;simp at hi;rcases hi with rfl|rfl<;>assumption) (ts.getD k hJ).pos;have bz:V (r=qX _ _ x y):=HR.o;have C:V _:=O.keep bx;have b8:V _:=aw;have am:V (∀i∈[x,y],i<aG.vs.length):=by intro i hi;simp at hi;rcases hi with rfl|rfl<;>assumption
 have c1:=X.c1 k N;have d1:(a7.alloc _).cell? _=_:=(bx.cell X.lt xaa).trans c1;exact qfa):Zp:=h
open bV in
theorem Ek{W u}(H:TrIn W P R u1 u2 u3 u4 bs st a6 aS u g off m cap ts)(k)(N:k<m)(b2:k+1<m)(bD:opM [43] [45] ts=(k:Int))(ay aW)(bv:RsG st ay)(au:∀ao x,ay=.ok (ao,x)->RsG ao aW)
  (aj:Calls prog 118 #[hB P,.slice a6 aS cL,.slice (some ⟨g,off,none⟩) k cap] W (TrO W P R u1 u2 u3 u4 bs ay))
  (bF:∀ao x,ay=.ok (ao,x)->∀W' a9 ba be bi,WS W' P R a9 ba be bi bs ao->Mv (Mst P u1 u2 u3 u4) W (Mst P a9 ba be bi) W'->Calls prog 118 #[hB P,.slice a6 aS cL,.slice (some ⟨g,off+(k+1)*3,none⟩) (m-(k+1)) (cap-(k+1))] W' (TrO W' P R a9 ba be bi bs aW)):
  Calls prog 118 #[hB P,.slice a6 aS cL,.slice (some ⟨g,off,none⟩) m cap] W (TrO W P R u1 u2 u3 u4 bs (Hs (ts.getD k hJ) ay aW)):=by
 have z:V _:=fN W g _ m cap _ H.tk H.m5 [43] [45];have ad:V _:=fN W g _ m cap _ H.tk H.m5 [42] [47];rw[bD]at z;clear ad bD;have cJ:=H.m5;have aa:=H.mc;have Y:V (∀W' M',Mv _ W M' W'->_):=λW' M' ai=>H.tk.keepC ai.chg H.tg;exact qcb
theorem bW.qcc(h:Zp:=by
 have ch:0<=(k:Int):=xaa;go_upto_region 3 with (go_at_call 142;refine yaj z.o ?_;rintro e ag ⟨rfl,an⟩;obtain rfl:=an.symm);go_upto_region 5 with (go_at_call 142;refine yaj ad.o ?_;rintro e ag ⟨rfl,an⟩;obtain rfl:=an.symm);clear ad;rcases ay with⟨c,p⟩|⟨ao,x⟩
 ·exact xgv
 obtain⟨ap,ak⟩:=aX.o ao x rfl;have bo:¬((x:Int)<0):=xaa;go_upto_region 8 with (go_at_call 118;refine yaj F.o ?_;rintro e ag ⟨rfl,a9,ba,be,bi,v,a0⟩);have cQ:V _:=b1.o ao x rfl ag a9 ba be bi v a0;have bJ:V _:=a0;clear F b1 v a0;rcases aW with⟨c,p⟩|⟨aG,y⟩
 ·exact xgb
 obtain⟨aw,bX⟩:=cD.o ao x rfl aG y rfl;exact qgz):Zp:=h
theorem bW.qfb(h:Zp:=by
 simp only at c1 d1 Z bz;cases aD:jZ aG [x,y] s with
 |error f=>
  obtain⟨c,p⟩:=f;rw[aD]at Z;have U:V _:=bz.o.trans (Aa aD);clear aD bz;go_wp2_with (go_at_call 143;refine yaj Z.o ?_;rintro e bj ⟨rfl,bh⟩);go_ret;rw[U.o];exact⟨rfl,bh.1,bh.2.1,C.o.bad bh.2.2⟩
 |ok q=>
  obtain⟨Q,S⟩:=q;rw[aD]at Z;have U:V (r=_):=bz.o.trans (Cw aD);obtain⟨ab,aZ,nn,aU⟩:=lM b8.o.g [x,y] s am.o aD;clear aD bz
  obtain⟨j,n,rfl⟩:∃a b,S=[a,b]:=by
   match S,aZ with
   |[a,b],_=>exact⟨a,b,rfl⟩
  have ae:=(aU j xac).1;have B:=(aU n xac).1;go_upto_region 14 with (go_at_call 143;refine yaj Z.o ?_;rintro e bj ⟨cW,dp,rfl,aM,aQ,bY,cg,al,bn,cz⟩);have w:=Y.o bj _ (C.o.trans bn);obtain⟨bp,cv,e2,bQ,bb⟩:=al.lenc ae;obtain⟨ar,of,af,ce,ah,cx⟩:=cz.at_ xac;subst e2 af;have aO:V (∀W',Kept 0 0 bj W'->W'.cell? ⟨g,off+k*3,none⟩=some (eN aP)/\W'.cell? ⟨g,off+k*3+1,none⟩=some (hD s)/\W'.cell? ⟨P,1,none⟩=some (hC bp Q.vs.length cv)/\W'.cell? ⟨bp,j*6+1,none⟩=some (hD (fe Q j))/\W'.cell? ⟨ar,of,none⟩=some (hD (j:Nat))/\W'.cell? ⟨ar,of+1,none⟩=some (hD (n:Nat))):=λW' ai=>⟨(ai.cell (p:=⟨g,off+k*3,none⟩) w.lt xaa).trans (by have:=w.c0 k N;rw[aI.o]at this;exact this),(ai.cell (p:=⟨g,off+k*3+1,none⟩) w.lt xaa).trans (by have:=w.c1 k N;rw[aI.o]at this;exact this),(al.keep ai).c1,(ai.cell (p:=⟨bp,j*6+1,none⟩) bQ xaa).trans bb,(ai.cell (p:=⟨ar,of,none⟩) ah xaa).trans (cx 0 xac),(ai.cell (p:=⟨ar,of+1,none⟩) ah xaa).trans (cx 1 xac)⟩
  have bC:V (∀W',Kept 0 0 bj W'->Calls prog 121 #[hB P,(eL (qW aP) (fe Q j) (j:Nat) (n:Nat) 0).agg,hD s] W' λe aB=>(∃x:Int,e=.returned (hD x))/\V (TrO W P R u1 u2 u3 u4 bs r e aB)):=λW' ai=>yaj (mB (al.keep ai) ab.g (eL (qW aP) (fe Q j) (j:Nat) (n:Nat) 0) (ab.g.lenB ae) yah s) (λe aB t=>⟨t.ret,by
   show TrO W P R u1 u2 u3 u4 bs r e aB
   rw[U.o]
   exact TrO.after ((C.o.trans bn).keep ai) t⟩)
  have bw:=ab.g.n;have aA:V _:=λW'=>GY aP W';generalize fe Q j=l at aO bC;generalize qW aP=e0 at aA bC;generalize Q.vs.length=aH at*;clear bb cx w al bn cz ab aU Z U C Y b8 am c1 d1 z aZ ce ah bQ aI;have q:=λx:KW bj=>aO.o _ x.k;refine vZ (C:=λI=>∃x:KW bj,I=x.v) 30 (by kernel_rfl) (by kernel_rfl) ⟨⟨bj.drew,eF _⟩,rfl⟩ ?_;simp only[List.take_succ_cons,List.take_zero,List.drop_succ_cons,List.drop_zero]
  repeat (go_big_quiet_step (first
   |(go_at_call 144;exact yaj (aA.o _) λe I h=>⟨h.1,⟨_,h.2⟩⟩)
   |(go_at_call 40;exact yaj (gO _ _ _ _ _ _) λe I h=>⟨h.1,⟨⟨I,(KW.k _).trans h.2⟩,rfl⟩⟩)))
  refine wpQuiet_nil ?_;rintro br ⟨x,rfl⟩;go_wp2_with (go_at_call 121;refine yaj (bC.o _ x.k) ?_;rintro e ci ⟨⟨cX,rfl⟩,bh⟩);go_ret;exact bh.o):Zp:=h
theorem bW.qha(h:Zp:=by
 have X:=Y.o a7 _ O;have cb:=yak ak aw.n;have bx:=ez 0 0 a7 (.cells #[hD x,hD y] 3);have Z:V _:=zN (aF.keep bx) aw.g _ 2 2 [x,y] (Ht aF.far x y) xaa (by intro i hi;simp at hi;rcases hi with rfl|rfl<;>assumption) (ts.getD k hJ).pos;have bz:V (r=qX aG (ts.getD k hJ) x y):=HR.o;have C:V _:=O.keep bx;have b8:V _:=aw;have am:V (∀i∈[x,y],i<aG.vs.length):=by intro i hi;simp at hi;rcases hi with rfl|rfl<;>assumption
 have c1:=X.c1 k N;have d1:(a7.alloc (.cells #[hD x,hD y] 3)).cell? ⟨g,off+k*3+1,none⟩=_:=(bx.cell (p:=⟨g,off+k*3+1,none⟩) X.lt xaa).trans c1;exact qfa):Zp:=h
open bW in
theorem El{W u}(H:TrIn W P R u1 u2 u3 u4 bs st a6 aS u g off m cap ts)(k)(N:k<m)(b2:k+1<m)(aq:opM [43] [45] ts=-1)(bD:opM [42] [47] ts=(k:Int))(ay aW)(bv:RsG st ay)(au:∀ao x,ay=.ok (ao,x)->RsG ao aW)
  (aj:Calls prog 118 #[hB P,.slice a6 aS cL,.slice (some ⟨g,off,none⟩) k cap] W (TrO W P R u1 u2 u3 u4 bs ay))
  (bF:∀ao x,ay=.ok (ao,x)->∀W' a9 ba be bi,WS W' P R a9 ba be bi bs ao->Mv (Mst P u1 u2 u3 u4) W (Mst P a9 ba be bi) W'->Calls prog 118 #[hB P,.slice a6 aS cL,.slice (some ⟨g,off+(k+1)*3,none⟩) (m-(k+1)) (cap-(k+1))] W' (TrO W' P R a9 ba be bi bs aW)):
  Calls prog 118 #[hB P,.slice a6 aS cL,.slice (some ⟨g,off,none⟩) m cap] W (TrO W P R u1 u2 u3 u4 bs (Hs (ts.getD k hJ) ay aW)):=by
 have z:V _:=fN W g off m cap ts H.tk H.m5 [43] [45];have ad:V _:=fN W g off m cap ts H.tk H.m5 [42] [47];rw[aq]at z;rw[bD]at ad;clear bD aq;have cJ:=H.m5;have aa:=H.mc;have Y:V (∀W' M',Mv (Mst P u1 u2 u3 u4) W M' W'->_):=λW' M' ai=>H.tk.keepC ai.chg H.tg;exact qcb
end
section
open Go.RowKit Flt
variable{r:Rs (LSt×Nat)}
theorem v6{f st u o a b}(h:eO (f+1) st u (.bin o a b)=some r):∃ay aW,eO f st u a=some ay/\(∀ao x,ay=.ok (ao,x)->eO f ao u b=some aW)/\r=Hs o ay aW:=by
 rw[eO]at h;cases B:eO f st u a with
 |none=>rw[B]at h;cases h
 |some ay=>
  rw[B]at h;rcases ay with⟨c,p⟩|⟨ao,x⟩
  ·cases h;exact⟨_,.error (c,p),rfl,λ_ _ e=>(by cases e),rfl⟩
  simp only[jF]at h;cases J:eO f ao u b with
  |none=>grind
  |some aW=>
   rw[J]at h;refine⟨.ok (ao,x),aW,rfl,λ_ _ e=>(by cases e;exact J),?_⟩;rcases aW with⟨c,p⟩|⟨aG,y⟩
   ·cases h;rfl
   cases h;rfl
theorem Hu(ts us o):(ts++o::us).getD ts.length hJ=o:=by
 simp_all
theorem jk{n es ts}(h:Pr n es ts):0<ts.length:=by
 induction h<;>grind
section
variable{f:Nat}{W:World}{P R:Nat}{u1 u2 u3 u4:Value}{bs:List Bc}{st:LSt}{a6:Option Addr}{aS cL:Nat}{u:Loc}{g off m cap:Nat}{ts us:List Tok}{o:Tok}{a b:Ex}{r:Rs (LSt×Nat)}
theorem v7(Q:TrC f)(H:TrIn W P R u1 u2 u3 u4 bs st a6 aS u g off m cap (ts++o::us)){n1 T}(F:Pr n1 [a] ts)(hb:Pr T [b] us)(B:n1<=2)(J:T<=2){ay aW}(e1:eO f st u a=some ay)(e2:∀ao x,ay=.ok (ao,x)->eO f ao u b=some aW):
  RsG st ay/\(∀ao x,ay=.ok (ao,x)->RsG ao aW)/\
  Calls prog 118 #[hB P,.slice a6 aS cL,.slice (some ⟨g,off,none⟩) ts.length cap] W (TrO W P R u1 u2 u3 u4 bs ay)/\
  (∀ao x,ay=.ok (ao,x)->∀W' a9 ba be bi,WS W' P R a9 ba be bi bs ao->Mv (Mst P u1 u2 u3 u4) W (Mst P a9 ba be bi) W'->Calls prog 118 #[hB P,.slice a6 aS cL,.slice (some ⟨g,off+(ts.length+1)*3,none⟩) (m-(ts.length+1)) (cap-(ts.length+1))] W' (TrO W' P R a9 ba be bi bs aW)):=by
 have aq:=H.tk.len;rw[yal,yaq]at aq;have aG:=H.mc;have b4:=jz F (λt ht=>H.ti t (by simp[ht])) a xac;have ch:=jz hb (λt ht=>H.ti t (by simp[ht])) b xac;have bA:=gz f st u a H.gd H.nm H.lo b4 ay e1;refine⟨bA,λao x e=>?_,?_,λao x e W' a9 ba be bi an C=>?_⟩
 ·have w:=(bA ao x e).1;exact gz f ao u b w.g (H.nm.gw w) (H.lo.le w.n) ch aW (e2 ao x e)
 ·have h:=H.sub H.ws (Gw.refl H.gd) (Mv.refl _ W) 0 ts.length xaa ts xac (cap':=cap) xaa;rw[Nat.zero_mul,Nat.add_zero,Nat.sub_zero]at h;exact Q W P R u1 u2 u3 u4 bs st a6 aS cL u g off ts.length cap ts h n1 a F B ay e1
 have h:=H.sub an (bA ao x e).1 C (ts.length+1) m yad us (by
  rw[List.drop_append,List.drop_of_length_le xaa,show ts.length+1-ts.length=1 by omega,List.nil_append,List.drop_succ_cons,List.drop_zero,yap xaa]) (cap':=cap-(ts.length+1)) xaa
 exact Q W' P R a9 ba be bi bs ao a6 aS cL u g _ _ _ us h T b hb J aW (e2 ao x e)
theorem Hv(Q:TrC f)(H:TrIn W P R u1 u2 u3 u4 bs st a6 aS u g off m cap (ts++o::us))(F:Pr 2 [a] ts)(al:o.sym=[43]\/o.sym=[45])(hb:Pr 1 [b] us)(h:eO (f+1) st u (.bin o a b)=some r):
  Calls prog 118 #[hB P,.slice a6 aS cL,.slice (some ⟨g,off,none⟩) m cap] W (TrO W P R u1 u2 u3 u4 bs r):=by
 obtain⟨ay,aW,e1,e2,rfl⟩:=v6 h;obtain⟨aV,p2,z,l⟩:=v7 (cL:=cL) Q H F hb xaa xaa e1 e2;have aq:=H.tk.len;rw[yal,yaq]at aq;have ab:=jk hb;have t:=Ek H _ xaa xaa (MV F al hb) _ _ aV p2 z l;rw[Hu]at t;exact t
theorem Hw(Q:TrC f)(H:TrIn W P R u1 u2 u3 u4 bs st a6 aS u g off m cap (ts++o::us))(F:Pr 1 [a] ts)(al:o.sym=[42]\/o.sym=[47])(hb:Pr 0 [b] us)(h:eO (f+1) st u (.bin o a b)=some r):
  Calls prog 118 #[hB P,.slice a6 aS cL,.slice (some ⟨g,off,none⟩) m cap] W (TrO W P R u1 u2 u3 u4 bs r):=by
 obtain⟨ay,aW,e1,e2,rfl⟩:=v6 h;obtain⟨aV,p2,z,l⟩:=v7 (cL:=cL) Q H F hb xaa xaa e1 e2;have aq:=H.tk.len;rw[yal,yaq]at aq;have ab:=jk hb;have t:=El H _ xaa xaa (FY (Pr.mul F al hb)) (MW F al hb) _ _ aV p2 z l;rw[Hu]at t;exact t
end
theorem Em{f st u o a}(h:eO (f+1) st u (.neg o a)=some r):∃ay,eO f st u a=some ay/\r=NJ o.pos ay:=by
 exact xcy
section
variable{f:Nat}{W:World}{P R:Nat}{u1 u2 u3 u4:Value}{bs:List Bc}{st:LSt}{a6:Option Addr}{aS cL:Nat}{u:Loc}{g off m cap:Nat}{ts:List Tok}{o t:Tok}{a:Ex}{r:Rs (LSt×Nat)}
theorem Eo(H:TrIn W P R u1 u2 u3 u4 bs st a6 aS u g off m cap [t])(ht:t.sym=gQ)(h:eO (f+1) st u (.name t)=some r):
  Calls prog 118 #[hB P,.slice a6 aS cL,.slice (some ⟨g,off,none⟩) m cap] W (TrO W P R u1 u2 u3 u4 bs r):=by
 rw[eO]at h;have e:r=Hq st _:=(hH h).symm;have k:=Bn (cL:=cL) H (Pr.name ht) ht H.tk.len.symm;rw[e];exact k
theorem Hx(Q:TrC f)(H:TrIn W P R u1 u2 u3 u4 bs st a6 aS u g off m cap (o::ts))(al:o.sym=[45])(F:Pr 0 [a] ts)(h:eO (f+1) st u (.neg o a)=some r):
  Calls prog 118 #[hB P,.slice a6 aS cL,.slice (some ⟨g,off,none⟩) m cap] W (TrO W P R u1 u2 u3 u4 bs r):=by
 obtain⟨ay,e1,rfl⟩:=Em h;have aq:=H.tk.len;rw[yaq]at aq;have ab:=jk F;have aG:=H.mc;have b4:=jz F (λt ht=>H.ti t (by simp[ht])) a xac;refine Ej H (Pr.neg al F) al xaa _ (gz f _ _ a H.gd H.nm H.lo b4 _ e1) (λW' k=>?_)
 have ar:=H.sub (H.ws.keep k) (Gw.refl H.gd) (Mv.of k) 1 m yad _ (by
  rw[List.drop_succ_cons,List.drop_zero,yap xaa]) (cap':=cap-1) xaa
 exact Q _ P R _ _ _ _ _ _ _ _ _ _ g _ _ _ _ ar 0 a F xaa _ e1
theorem Hy{l q}(H:TrIn W P R u1 u2 u3 u4 bs st a6 aS u g off m cap (l::(ts++[q])))(ab:l.sym=[40])(F:Pr 2 [a] ts)(am:q.sym=[41])
  (Q:∀W',TrIn W' P R u1 u2 u3 u4 bs st a6 aS u g (off+3) (m-2) (cap-1) ts->Calls prog 118 #[hB P,.slice a6 aS cL,.slice (some ⟨g,off+3,none⟩) (m-2) (cap-1)] W' (TrO W' P R u1 u2 u3 u4 bs r)):
  Calls prog 118 #[hB P,.slice a6 aS cL,.slice (some ⟨g,off,none⟩) m cap] W (TrO W P R u1 u2 u3 u4 bs r):=by
 have aq:=H.tk.len;rw[yaq,yal,List.length_singleton]at aq;have aG:=H.mc;refine Ei H (Pr.par ab F am) ab xaa r (λW' k=>?_)
 have ar:=H.sub (H.ws.keep k) (Gw.refl H.gd) (Mv.of k) 1 (m-1) xaa _ (by
  rw[List.drop_succ_cons,List.drop_zero,List.take_append_of_le_length xaa,yap xaa]) (cap':=cap-1) xaa
 rw[show m-1-1=m-2 by omega]at ar;exact yaj (Q _ ar) (λe aB t=>TrO.back k t)
