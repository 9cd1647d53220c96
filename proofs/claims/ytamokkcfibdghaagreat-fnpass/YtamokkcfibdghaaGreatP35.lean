import Derived.Test.YtamokkcfibdghaaGreatP34
import Derived.Test.YtamokkcfibdghaaGreatP33
namespace Go.Proofs.Z
variable {Zp:Prop}
open Tryz
set_option maxRecDepth 1000000
set_option maxHeartbeats 0
section
open Go.RowKit Flt
attribute [local go_sem] eG eE eD
variable {P I Q g cL off m cap:Nat}{am al ar X bc bd bg Z:Value}{bs:List Bc}{st:LSt}{bh:Option Addr}{W':World}{u:Loc}{ts:List Tok}{e:Ex}
theorem aZ.qbm(h:Zp:=by
 have j:V (ml _ ⟨[112,117,116],_,z⟩ a n U=if fg st a≠1 then .error (4,K)
  else if iH _<1\/1000<iH _ then .error _
  else if iH _<=iH _ then .error _ else fZ _ _ K):=rfl
 have cf:=H.len a G;change 1<=fg _ a/\fg _ a<=1000 at cf;have bx:V _:=h;have aw:V _:=aT;have cz:V _:=aA;obtain⟨bu,cap,a9,b7,-⟩:=h.lenc G
 have HL:V (∀W',Kept 0 0 W W'->W'.cell? _=some (.slice _ _ _)/\W'.cell? _=some _/\(W'.cell? _=some _/\W'.cell? _=some _/\W'.cell? _=some _/\W'.cell? _=some _)/\(W'.cell? _=some _/\W'.cell? _=some _/\W'.cell? _=some _/\W'.cell? _=some _)):=λW' ap=>by
  obtain⟨ag,aF,ak,_,c3⟩:=(bx.o.keep ap).lenc G
  rw[a9]at ak
  cases ak
  exact⟨(bx.o.keep ap).c1.trans (congrArg some a9),c3,(aw.o.keep ap).cells,(cz.o.keep ap).cells⟩
 generalize ml _ _ a n _=r at j⊢;generalize fg _ a=l at cf HL j;generalize w:st.vs.length=bQ at*;clear w h aT aA H bf aW bx aw cz a9 b7;unfold jb at bX bY⊢;obtain⟨bJ,ab,S⟩:=n;obtain⟨i,f,Y⟩:=U;simp only at bX bY hb av HL j⊢;generalize iH _=m at*;generalize iH _=aJ at*;exact qfb):Zp:=h
theorem aZ.qfc(h:Zp:=by
 obtain⟨aU,aY,⟨bW,b9,cj,cU⟩,bz,bE,bl,C⟩:=HL.o _ HK.o;exact qgz):Zp:=h
theorem aZ.qha(h:Zp:=by
 clear aU aY bW b9 cj cU bz bE bl C bb aI HK ao bX;obtain⟨aU,aY,⟨bW,b9,cj,cU⟩,bz,bE,bl,C⟩:=HL.o _ bN.o;have bb:=y.o.c0;have N:=y.o.c1;by_cases B:l=1
 ·subst B;have s:V _:=j.o.trans (hJ xac);clear j;go_upto_region 14 with (go_at_call 95;refine yai (bY.o _) ?_;rintro e aX ⟨rfl,aM⟩);have aV:V _:=bN.o.trans aM;have cd:V _:=y.o.keep aM;clear aU aY bW b9 cj cU bz bE bl C bb N y bN aM bY;obtain⟨aU,aY,⟨bW,b9,cj,cU⟩,bz,bE,bl,C⟩:=HL.o _ aV.o;have bb:=cd.o.c0;have N:=cd.o.c1;clear HL;by_cases R:aJ<1
  ·have aa:V _:=s.o.trans (hK (.inl R));exact xdz
  by_cases h3:1000<aJ
  ·have aa:V _:=s.o.trans (hK (.inr h3));exact xdz
  have a7:V _:=s.o.trans (hJ xaa);clear s;by_cases a8:aJ<=m
  ·have aa:V _:=a7.o.trans (hK a8);exact xdz
  have aa:V _:=a7.o.trans (hJ a8);have ce:V _:=λW' ap=>bM.o W' (eL 12 _ a 0 m) ap (by show 1<=aJ/\aJ<=1000;omega) yag;go_upto_region 18 with fail
  go_region_with (first
   |(go_at_call 34;refine yai (gQ _ _ _ _ _ _) ?_;rintro e bm ⟨rfl,bZ⟩;have J:=(cd.o.keep ((eF _).trans bZ)).c1)
   |(go_at_call 96;refine yai (ce.o _ (aV.o.trans ((eF _).trans bZ))) ?_;rintro e bA ⟨⟨x,rfl⟩,bi⟩))
  all_goals (go_wp2_with fail;go_ret;rw[aa.o];exact bi.o)
 have aa:V _:=j.o.trans (hK B);have bj:=yaw B;clear HL;go_wp2_with (first|(go_at_call 92;refine yai (b3.o _ _ bN.o) ?_;rintro e bm ⟨rfl,F⟩)|fail);exact xfa):Zp:=h
open aZ in
theorem Hi{W}(h:WS W P I am al ar X bs st)(H:Gd st)(k)(O:k.sym=Dj)(a)(G:a<st.vs.length)(n)(bf:Dgs n.text){b0 ah bR q o c}(cr:3<=ah)(aT:Sg1 W b0 1 q o c n)(U)(aW:Dgs U.text){aR bS c2}(aA:Sg1 W b0 2 aR bS c2 U):
  Calls prog 138 #[hG P,jb k,hI a,hH b0 ah bR] W (TrO W P I am al ar X bs (ml st k a n U)):=by
 obtain⟨ay,K,z⟩:=k;simp only at O;subst O;unfold Dj;have bX:V _:=λW'=>zN n bf W';have bY:V _:=λW'=>zN _ aW W';have bF:=H.n;have hb:=pQ bf yad;rw[List.take_length]at hb;have av:=pQ aW yad;rw[List.take_length]at av;have aI:V _:=it W [112,117,116] K z;have HK:V _:=ez 0 0 W (.cells #[eN [112,117,116],hI K,eN z] 84);exact qbl
structure TrIn (W:World)(P B:Nat)(u1 u2 u3 u4:Value)(bs:List Bc)(st:LSt)(aL:Option Addr)(nL:Nat)(loc:Loc)(g off m cap:Nat)(ts:List Tok):Prop where
 ws:WS W P B u1 u2 u3 u4 bs st
 gd:Gd st
 nm:NmOK st
 lc:LcR (Mst P u1 u2 u3 u4) W aL nL loc
 ln:nL<=5000
 lo:LcOK loc st.vs.length
 tk:TkA W g off m ts
 tg:¬Mst P u1 u2 u3 u4 g
 m5:m<=5000
 mc:m<=cap
 ti:∀t∈ts,t.sym=iK->Dgs t.text
 tn:∀t∈ts,(t.sym=iK\/t.sym=lg)->kP t.text
def TrC (f:Nat):Prop:=∀(W:World) (P B:Nat) (u1 u2 u3 u4:Value) (bs:List Bc) (st:LSt) (aL:Option Addr) (nL cL:Nat) (loc:Loc) (g off m cap:Nat) (ts:List Tok),TrIn W P B u1 u2 u3 u4 bs st aL nL loc g off m cap ts->∀(n:Nat) (e:Ex),Pr n [e] ts->n<=2->∀r,eP f st loc e=some r->
 Calls prog 93 #[.pointer (some ⟨P,0,none⟩),.slice aL nL cL,.slice (some ⟨g,off,none⟩) m cap] W (TrO W P B u1 u2 u3 u4 bs r)
theorem TkA.in_{w n}(h:TkA w g off n ts)(i j us)(aJ:us=(ts.drop i).take (j-i))(hj:j<=n):TkA w g (off+i*3) (j-i) us:=by subst aJ;exact h.cut hj
theorem TrIn.sub{W}(h:TrIn W P I am al ar X bs st bh Q u g off m cap ts){N}(S:WS W' P I bc bd bg Z bs N)(w:Gw st N)(k:Mv (Mst P am al ar X) W (Mst P bc bd bg Z) W')(i j)(hj:j<=m)(us)(aJ:us=(ts.drop i).take (j-i)){cap'}(ai:j-i<=cap'):TrIn W' P I bc bd bg Z bs N bh Q u g (off+i*3) (j-i) cap' us where
 ws:=S
 gd:=w.g
 nm:=h.nm.gw w
 lc:=h.lc.mv k
 ln:=h.ln
 lo:=h.lo.le w.n
 tk:=(h.tk.keepC k.chg h.tg).in_ i j us aJ hj
 tg:=λc=>(k.new g c).elim h.tg (λc=>hR h.tk.lt)
 m5:=hR h.m5
 mc:=ai
 ti:=λt ht=>h.ti t (by grind)
 tn:=λt ht=>h.tn t (by grind)
theorem DZ{W}(H:TrIn W P I am al ar X bs st bh Q u g off m cap ts)(aK:Pr 0 [e] ts)(aj:(ts.getD 0 hN).sym=[40])(R:2<=m)(r)
  (bl:∀W',Kept 0 0 W W'->Calls prog 93 #[hG P,.slice bh Q cL,.slice (some ⟨g,off+3,none⟩) (m-2) (cap-1)] W' (TrO W P I am al ar X bs r)):
  Calls prog 93 #[hG P,.slice bh Q cL,.slice (some ⟨g,off,none⟩) m cap] W (TrO W P I am al ar X bs r):=by
 have z:V _:=fS W g _ m cap _ H.tk H.m5 [43] [45];have ai:V _:=fS W g _ m cap _ H.tk H.m5 [42] [47];rw[mB aK]at z ai;have c0:=H.tk.c0 0 xaa;have c1:=H.tk.c1 0 xaa;have c2:=H.tk.c2 0 xaa;rw[aj]at c0;have bn:=H.m5;have C:=H.mc;have i:V (∀W',Kept 0 0 W _->Calls _ _ _ _ λe aG=>(∃x:Int,e=.returned _)/\V (TrO W P I _ _ _ _ _ r e _)):=λW' k=>yai (bl W' k) (λe aG t=>⟨t.ret,t⟩);generalize ts.getD 0 _=t at*;clear aj H aK bl;obtain⟨a0,aS,bp⟩:=t;simp only[Nat.zero_mul,Nat.add_zero]at c0 c1 c2;go_enter func93,ntmps93;go_upto_region 3 with (go_at_call 122;refine yai z.o ?_;rintro e af ⟨rfl,S⟩;obtain rfl:=S.symm);go_upto_region 15 with (go_at_call 122;refine yai ai.o ?_;rintro e af ⟨rfl,S⟩;obtain rfl:=S.symm);go_upto_region 16 with fail;change Code.wp _ _ _ _ (W.alloc (.cells #[eN _,.int _ aS,eN _] 84));have aI:V _:=it W [40] aS bp;have HK:V _:=ez 0 0 W (.cells #[eN [40],hI aS,eN bp] 84);generalize W.alloc _=aD at aI HK⊢;generalize W.heap.size=bL at aI⊢;have bb:=aI.o.c0;have av:V _:=i.o _ HK.o;clear c0 c1 c2 z ai aI i;go_wp2_with (go_at_call 93;refine yai av.o ?_;rintro e af ⟨⟨x,rfl⟩,bi⟩);go_ret;exact bi.o
def Hj (st:LSt)(q:Rs Nat):Rs (LSt×Nat):=match q with|.error f=>.error f|.ok v=>.ok (st,v)
theorem O.qaq(h:Zp:=by
 change Code.wp _ _ _ _ (W.alloc (.cells #[eN [110,97,109,101],hI aS,eN bp] 84));have aI:V _:=it W [110,97,109,101] aS bp;have HK:V _:=ez 0 0 W (.cells #[eN [110,97,109,101],hI aS,eN bp] 84);generalize W.alloc (.cells #[eN [110,97,109,101],hI aS,eN bp] 84)=aD at aI HK⊢;generalize W.heap.size=bL at aI⊢;have f:V _:=bT.o aD HK.o;obtain⟨bb,N,aA⟩:aD.cell? ⟨bL,0,none⟩=some (eN [110,97,109,101])/\aD.cell? ⟨bL,1,none⟩=some (hI aS)/\aD.cell? ⟨bL,2,none⟩=some (eN bp):=⟨aI.o.c0,aI.o.c1,aI.o.c2⟩
 clear c0 c1 c2 z ai aI bT;generalize fD st u ⟨[110,97,109,101],aS,bp⟩=q at f HR;rcases q with⟨c,p⟩|v
 ·exact xes
 go_wp2_with (go_at_call 125;refine yai f.o ?_;rintro e af ⟨rfl,ao⟩);go_ret;rw[HR.o];exact⟨rfl,am,al,ar,X,bx.o.keep (HK.o.trans ao),Mv.of (HK.o.trans ao)⟩):Zp:=h
theorem O.qeu(h:Zp:=by
 have bT:V (∀W',Kept 0 0 W W'->_):=λW' k=>xZ (H.ws.keep k) H.gd.m bh Q cL u (H.lc.keep k) H.ln (ts.getD 0 hN);have bx:V _:=H.ws;unfold gS at aj;generalize ts.getD 0 hN=t at*;clear H aK;obtain⟨a0,aS,bp⟩:=t;simp only at aj;subst aj;simp only[Nat.zero_mul,Nat.add_zero]at c0 c1 c2;obtain⟨r,ay⟩:∃r,r=Hj st (fD st u ⟨[110,97,109,101],aS,bp⟩):=⟨_,rfl⟩
 rw[<-ay];have HR:V _:=ay;clear ay;exact qap):Zp:=h
open O in
theorem Bk{W}(H:TrIn W P I am al ar X bs st bh Q u g off m cap ts)(aK:Pr 0 [e] ts)(aj:(ts.getD 0 hN).sym=gS)(B:m=1):
  Calls prog 93 #[hG P,.slice bh Q cL,.slice (some ⟨g,off,none⟩) m cap] W (TrO W P I am al ar X bs (Hj st (fD st u (ts.getD 0 hN)))):=by
 subst B;have z:V _:=fS W g off 1 cap ts H.tk H.m5 [43] [45];have ai:V _:=fS W g off 1 cap ts H.tk H.m5 [42] [47];exact qet
theorem WS.far{W}(h:WS W P I am al ar X bs st):¬Mst P am al ar X W.heap.size:=by
 exact xhb
theorem TrO.after{W0 aD r e}(k:Mv (Mst P am al ar X) W0 (Mst P bc bd bg Z) aD)(h:TrO aD P I bc bd bg Z bs r e W'):TrO W0 P I am al ar X bs r e W':=by
 rcases r with⟨c,p⟩|⟨st,v⟩
 ·obtain⟨B,R,h3,a8⟩:=h;exact⟨B,R,h3,k.bad a8⟩
 obtain⟨B,aB,af,aX,bm,R,h3⟩:=h;exact⟨B,_,_,_,_,R,k.trans h3⟩
theorem TB.keepC{W p s k x}(h:TB W p s k x){S}(c:Chg S W W')(aT:¬S p):TB W' p s k x:=
 ⟨yaj h.lt c.size,(c.cell (p:=⟨p,0,none⟩) h.lt aT).trans h.c0,(c.cell (p:=⟨p,1,none⟩) h.lt aT).trans h.c1,(c.cell (p:=⟨p,2,none⟩) h.lt aT).trans h.c2,λo=>(c.frozen (p:=⟨p,o,none⟩) h.lt aT).trans (h.fr o)⟩
def NZ (p:Nat)(r:Rs (LSt×Nat)):Rs (LSt×Nat):=match r with|.error f=>.error f|.ok (s,a)=>fZ s (eL 6 (fg s a) (a:Int) 0 0) p
theorem P.qaq(h:Zp:=by
 change Code.wp _ _ _ _ (W.alloc (.cells #[eN _,.int _ _,eN _] 84));have aI:V _:=it W [45] aS bp;have HK:V _:=ez 0 0 W (.cells #[eN [45],hI aS,eN bp] 84);generalize W.alloc _=aD at aI HK⊢;generalize W.heap.size=bL at aI aP⊢;have av:V _:=i.o _ HK.o;have bb:=aI.o.c0;clear c0 c1 c2 z ai i;rcases aC with⟨c,p⟩|⟨s,a⟩
 ·exact xfc
 obtain⟨w,G⟩:=a5.o s a rfl;go_upto_region 18 with (go_at_call 93;refine yai av.o ?_;rintro e af ⟨rfl,bc,bd,bg,Z,v,aH⟩);have y:V _:=aI.o.keepC aH.chg aP.o;obtain⟨bu,cv,a9,b7,aV⟩:=v.lenc G;have bR:=v.c1;subst a9
 have bM:V (∀W',Kept 0 0 _ W'->Calls _ _ _ _ λe aG=>(∃x:Int,e=.returned _)/\V (TrO W P I _ _ _ _ _ r e _)):=λW' ap=>yai (mo (v.keep ap) w.g (eL 6 (fg s a) _ 0 0) (w.g.lenB G) yag _) (λe aG t=>⟨t.ret,by
  show TrO W P I am al ar X bs r e aG
  rw[HR.o]
  exact TrO.back HK.o (TrO.after (aH.keep ap) t)⟩)
 have N:=y.o.c1;have bF:=w.g.n;generalize fg s a=l at aV bM;generalize s.vs.length=bQ at*;clear v aH av aI HR a5 w bb;go_upto_region 20 with fail;exact xeo):Zp:=h
theorem P.qeu(h:Zp:=by
 have aP:V _:=H.ws.far;have i:V _:=bl;have a5:V _:=bq;generalize ts.getD 0 _=t at*;clear H aK bl bq;obtain⟨a0,aS,bp⟩:=t;simp only at aj;subst aj;simp only[Nat.zero_mul,Nat.add_zero]at c0 c1 c2;obtain⟨r,ay⟩:∃r,r=NZ aS aC:=⟨_,rfl⟩
 simp only;rw[<-ay];have HR:V _:=ay;clear ay;exact qap):Zp:=h
open P in
theorem D0{W}(H:TrIn W P I am al ar X bs st bh Q u g off m cap ts)(aK:Pr 0 [e] ts)(aj:(ts.getD 0 hN).sym=[45])(R:2<=m)(aC)(bq:RsG st aC)
  (bl:∀W',Kept 0 0 W W'->Calls prog 93 #[hG P,.slice bh Q cL,.slice (some ⟨g,off+3,none⟩) (m-1) (cap-1)] W' (TrO W' P I am al ar X bs aC)):
  Calls prog 93 #[hG P,.slice bh Q cL,.slice (some ⟨g,off,none⟩) m cap] W (TrO W P I am al ar X bs (NZ (ts.getD 0 hN).pos aC)):=by
 have z:V _:=fS W g _ m cap _ H.tk H.m5 [43] [45];have ai:V _:=fS W g _ m cap _ H.tk H.m5 [42] [47];exact qet
end
section
open Go.RowKit
variable {P:Program}{bA:Array Oper}{m:Region.Mode}{C:World->Prop}{n:Nat}
def hdQ (P:Program)(md:Region.Mode)(ops:Array Oper)(C:World->Prop)(n:Nat)(L:Array Bool->Act->Prop):Nat->Array Bool->Act->Prop
 |0,l,a=>L l a
 |f+1,l,a=>Region.ready md ops l≠[]/\∀i∈Region.ready md ops l,i<n/\qOp P ops C i (hdQ P md ops C n L f (l.setIfInBounds i true)) a
theorem Cm{g L Q}(bO:∀l a w,C w->L l a->wpAny P m bA Q g l a w):∀f l a w,C w->hdQ P m bA C n L f l a->wpAny P m bA Q (f+g) l a w
 |0,l,a,w,S,h=>by rw[Nat.zero_add];exact bO l a w S h
 |f+1,l,a,w,S,h=>by
  rw[Nat.add_right_comm]
  exact⟨λaj=>absurd aj h.1,λi hi=>wpOp_of_qOp S (λaf J e h'=>Cm bO f _ _ _ e h') (h.2 i hi).2⟩
theorem Hk{i t v L}(hi:bA[i]? =some t)(p:Region.noSelect bA=true)(ad:Region.sinkB m bA n=true)(ai:Region.chainB m bA n=true)(hn:n<bA.size)(cr:i<n)(bf:∀l a,L l a->∀j∈Region.ready m bA l,n<=j):
  ∀f l a,HeadInv m bA n l->(∀j g,bA[j]? =some g->j≠i->l.getD j true=false->(∀e∈g.after,Region.binds m e=true->e.on≠i)->t.apart bA g=true)->i∈Region.ready m bA l->YieldsIn P bA C t v a->hdQ P m bA C n L f (l.setIfInBounds i true) (a.put t.dst v)->hdQ P m bA C n L (f+1) l a:=by
 intro f;induction f with
 |zero=>
  intro l a r _ ay bV H;have o:∀j∈Region.ready _ _ l,j<n:=λj hj=>(Nat.lt_or_ge j n).resolve_right λh=>tail_waits ad ai hn r _ i rfl cr (mem_ready.1 ay).1 j h hj;refine⟨λh=>(by grind),λj hj=>⟨o j hj,?_⟩⟩;by_cases e:j=i
  ·subst e;exact bV.qOp hi H
  exact absurd (bf _ _ H j (ready_mono hj e)) (Nat.not_le_of_lt (o j hj))
 |succ f ag=>
  intro l a r bb ay bV H;have aJ:=(mem_ready.1 ay).1;have o:∀j∈Region.ready _ _ l,j<n:=λj hj=>(Nat.lt_or_ge j n).resolve_right λh=>tail_waits ad ai hn r _ i rfl cr aJ j h hj;refine⟨λh=>(by grind),λj hj=>⟨o j hj,?_⟩⟩;by_cases e:j=i
  ·subst e;exact bV.qOp hi H
  obtain⟨K,g,u,G⟩:=mem_ready.1 hj
  have au:∀e∈g.after,Region.binds _ e=true->e.on≠i:=λe ab hb aq=>by
   have:=G e ab hb
   rw[aq,getD_both aJ]at this
   cases this
  refine qOp_mono (λaf h3=>ag _ _ (r.set hj (o j hj)) (λk ok O w s an=>bb k _ O w ?_ an) (ready_mono ay (Ne.symm e)) h3.1 ?_) (qOp_put u (bb j _ u e K au) (λcs b=>Region.noSelect_spec p i _ _ b hi) (λcs b=>Region.noSelect_spec p j _ _ b u) bV (H.2 j (ready_mono hj e)).2)
  ·by_cases q:j=k<;>simp_all<;>grind
  rw[Array.setIfInBounds_comm _ _ e];exact h3.2
theorem Co{g aa}(p:Region.noSelect bA=true)(ad:Region.sinkB m bA n=true)(ai:Region.chainB m bA n=true)(hn:n<bA.size):
  ∀(l:List Oper) (k:Nat) (t:Array Bool) (a:Act),(∀j,j<l.length->l[j]? =bA[k+j]?)->k+l.length=n->HeadInv m bA n t->Region.lexHead m bA g l.length k t=true->wpQuiet P bA C aa l a->hdQ P m bA C n (λi af=>Region.seqB m bA g n i=true/\aa af) l.length t a
 |[],k,t,a,_,O,_,aS,h=>by
  obtain rfl:k=n:=O
  exact⟨aS,h⟩
 |o::l,k,t,a,ah,O,r,aS,h=>by
  have aj:bA[k]? =some o:=(ah 0 (Nat.zero_lt_succ _)).symm
  simp only[yap,Region.lexHead,Bool.and_eq_true]at aS O ah
  obtain⟨⟨ay,bb⟩,f⟩:=aS
  have e:k∈Region.ready m bA t:=by grind
  have aq:qOp P bA C k (wpQuiet P bA C aa l) a:=by unfold qOp;simp only[aj];exact h
  obtain⟨v,bV,aH⟩:=yieldsIn_of_qOp aj aq
  exact Hk aj p ad ai hn xaa (λ_ _ q=>seqB_ready q.1) _ t a r (Region.free_spec aj bb) e bV (Co p ad ai hn l _ _ _ (λj hj=>by grind) xaa (r.set e xaa) f aH)
theorem vM{id Q a w}{l:List Oper}(n)(az:P.follows .mixedOrders=true)(aS:Region.lexTailB .any l.toArray n=true)(ap:C {w with drawn:=w.drawn+1})
  (h:wpQuiet P l.toArray C (λaf=>∀J,C J->wpList P l.toArray Q (l.drop n) af J) (l.take n) a):(Code.region id l.toArray true).wp P Q a w:=by
 simp only[Region.lexTailB,Bool.and_eq_true,decide_eq_true_eq]at aS;obtain⟨⟨⟨⟨p,hn⟩,ad⟩,ai⟩,au⟩:=aS;have bg:n<l.length:=xaa;have ht:(l.take n).length=n:=by grind
 have H:=Co p ad ai hn _ 0 (Array.replicate l.toArray.size _) a (λj hj=>by
  rw[ht]at hj
  simp[hj]) xaa ⟨by simp,λj g _ q=>(by rw[getD_replicate_false]at q;cases q),λt _ q=>getD_in (by simpa using q) (getD_replicate_false _ _)⟩ (hU ht au) h
 refine wp_region_any az ?_;have:=Cm (Q:=Q) (g:=l.toArray.size-n) (λt af J e q=>?_) _ _ _ _ ap H
 ·rw[ht,Nat.add_sub_cancel' (Nat.le_of_lt hn)]at this;exact this
 have aV:(l.drop n).length=l.toArray.size-n:=by simp
 rw[<-aV];exact wpAny_of_seq _ n t _ _ (λj=>by simp) (by grind) (q.2 _ e)
structure KW (w:World) where
 v:World
 k:Kept 0 0 w v
instance (w:World):Nonempty (KW w):=⟨⟨w,.refl _ _ _⟩⟩
end
section
open Go.RowKit Flt
attribute [local go_sem] eG eE eD
variable {P I a b Q cL g off m cap:Nat}{am al ar X:Value}{st:LSt}{bs:List Bc}{bh:Option Addr}{ts:List Tok}
def Hl (o:Tok)(r1 r2:Rs (LSt×Nat)):Rs (LSt×Nat):=match r1 with
 |.error f=>.error f
 |.ok (_,x)=>match r2 with
  |.error f=>.error f
  |.ok (s2,y)=>qL s2 o x y
theorem Ac{o f}(h:ko st [a,b] o.pos=.error f):qL st o a b=.error f:=by unfold qL;rw[h]
theorem Cp{aN o f}(h:ko st [a,b] o.pos=.ok (aN,f)):qL st o a b=fZ aN (eL (qK o.sym) (fg aN (f.getD 0 0)) (f.getD 0 0:Nat) (f.getD 1 0:Nat) 0) o.pos:=by unfold qL;rw[h]
theorem TrO.chg{W r e W'}(h:TrO W P I am al ar X bs r e W'):Chg (Mst P am al ar X) W W':=by
 rcases r with⟨c,p⟩|⟨st,v⟩
 ·exact h.2.2.2
 obtain⟨_,_,_,_,_,_,k⟩:=h;exact k.chg
theorem Hm{W:World}{M}(bb:¬M W.heap.size)(x y:Nat):XsR M (W.alloc (.cells #[hI x,hI y] 3)) (some ⟨W.heap.size,0,none⟩) 2 [x,y]:=by
 refine⟨rfl,λ_=>⟨_,0,rfl,bb,by simp,λk O=>?_⟩⟩;grind [yau]
theorem bZ.qci(h:Zp:=by
 have er:(0:Int)<=k:=xaa;go_upto_region 5 with (go_at_call 122;refine yai z.o ?_;rintro e af ⟨rfl,S⟩;obtain rfl:=S.symm);rcases aC with⟨c,p⟩|⟨ax,x⟩
 ·exact xih
 obtain⟨aq,au⟩:=a5.o _ x rfl;have bb:¬((x:Int)<0):=xaa;go_upto_region 8 with (go_at_call 93;refine yai G.o ?_;rintro e af ⟨rfl,bc,bd,bg,Z,v,aH⟩);have cJ:V _:=cH.o _ x rfl _ _ _ _ _ v aH;have cB:V _:=aH;clear G cH v aH;rcases a0 with⟨c,p⟩|⟨aN,y⟩
 ·exact xhn
 obtain⟨bX,bV⟩:=cw.o _ x rfl _ y rfl;exact qhd):Zp:=h
theorem bZ.qfe(h:Zp:=by
 simp only at c1 d1 ab aJ;cases aw:ko aN [x,y] w with
 |error f=>
  obtain⟨c,p⟩:=f;rw[aw]at ab;have aa:V _:=aJ.o.trans (Ac aw);clear aw aJ;go_wp2_with (go_at_call 123;refine yai ab.o ?_;rintro e bm ⟨rfl,bi⟩);go_ret;rw[aa.o];exact⟨rfl,bi.1,bi.2.1,aP.o.bad bi.2.2⟩
 |ok q=>
  obtain⟨bC,U⟩:=q;rw[aw]at ab;have aa:V _:=aJ.o.trans (Cp aw);obtain⟨ae,aT,nn,ah⟩:=lL aL.o.g _ _ ag.o aw;clear aw aJ
  obtain⟨j,n,rfl⟩:∃a b,U=[a,b]:=by
   match U,aT with
   |[a,b],_=>exact⟨a,b,rfl⟩
  have aj:=(ah j xac).1;have B:=(ah n xac).1;go_upto_region 14 with (go_at_call 123;refine yai ab.o ?_;rintro e bm ⟨di,en,rfl,aU,aY,bW,b9,bv,bB,co⟩);have o:=az.o _ _ (aP.o.trans bB);obtain⟨bu,cv,a9,b7,aV⟩:=bv.lenc aj;obtain⟨aS,of,ak,b8,ao,ch⟩:=co.at_ xac;subst a9 ak;have ad:V (∀W',Kept 0 0 _ W'->W'.cell? _=some (eN aB)/\W'.cell? _=some (.int _ w)/\W'.cell? _=some _/\W'.cell? _=some _/\W'.cell? ⟨_,of,_⟩=some (.int _ j)/\W'.cell? _=some (.int _ n)):=λW' ap=>⟨(ap.cell o.lt xaa).trans (by have:=o.c0 k O;rw[aQ.o]at this;exact this),(ap.cell o.lt xaa).trans (by have:=o.c1 k O;rw[aQ.o]at this;exact this),(bv.keep ap).c1,(ap.cell b7 xaa).trans aV,(ap.cell ao xaa).trans (ch 0 xac),(ap.cell ao xaa).trans (ch 1 xac)⟩
  have bM:V (∀W',Kept 0 0 _ _->Calls _ _ _ W' λe aG=>(∃x:Int,e=.returned _)/\V (TrO W P I _ _ _ _ _ r e _)):=λW' ap=>yai (mo (bv.keep ap) ae.g (eL _ (fg bC _) j n 0) (ae.g.lenB aj) yag _) (λe aG t=>⟨t.ret,by
   show TrO W P I am al ar X bs r e aG
   rw[aa.o]
   exact TrO.after ((aP.o.trans bB).keep ap) t⟩)
  have bF:=ae.g.n;have Y:V _:=λW'=>GQ aB W';generalize fg bC _=l at ad bM;generalize qK _=aD at Y bM;generalize bC.vs.length=bQ at*;clear aV ch o bv bB co ae ah ab aa aP az aL ag c1 d1 z aT b8 ao b7 aQ;have q:=λx:KW _=>ad.o _ x.k;refine vM (C:=λJ=>∃x:KW bm,J=x.v) 30 (by kernel_rfl) (by kernel_rfl) ⟨⟨bm.drew,eF _⟩,rfl⟩ ?_;simp only[List.take_succ_cons,List.take_zero,List.drop_succ_cons,List.drop_zero]
  repeat (go_big_quiet_step (first
   |(go_at_call 124;exact yai (Y.o _) λe J h=>⟨h.1,⟨_,h.2⟩⟩)
   |(go_at_call 34;exact yai (gQ _ _ _ _ _ _) λe J h=>⟨h.1,⟨⟨_,(KW.k _).trans h.2⟩,rfl⟩⟩)))
  refine wpQuiet_nil ?_;rintro bA ⟨x,rfl⟩;go_wp2_with (go_at_call 96;refine yai (bM.o _ x.k) ?_;rintro e cc ⟨⟨cx,rfl⟩,bi⟩);go_ret;exact bi.o):Zp:=h
theorem bZ.qhe(h:Zp:=by
 have R:=az.o _ _ N;have cg:=yaj au bX.n;have bH:=ez 0 0 aX (.cells #[hI x,hI y] 3);have ab:V _:=zZ (aM.keep bH) bX.g _ 2 2 _ (Hm aM.far x y) xaa (by intro i hi;simp at hi;rcases hi with rfl|rfl<;>assumption) (ts.getD k hN).pos;have aJ:V (r=qL _ _ x y):=HR.o;have aP:V _:=N.keep bH;have aL:V _:=bX;have ag:V (∀i∈[x,y],i<aN.vs.length):=by intro i hi;simp at hi;rcases hi with rfl|rfl<;>assumption
 have c1:=R.c1 k O;have d1:(aX.alloc _).cell? _=_:=(bH.cell R.lt xaa).trans c1;exact qfd):Zp:=h
open bZ in
theorem D4{W u}(H:TrIn W P I am al ar X bs st bh Q u g off m cap ts)(k)(O:k<m)(bY:k+1<m)(bZ:opM [43] [45] ts=(k:Int))(aC a0)(bq:RsG st aC)(an:∀ax x,aC=.ok (ax,x)->RsG ax a0)
  (av:Calls prog 93 #[hG P,.slice bh Q cL,.slice (some ⟨g,off,none⟩) k cap] W (TrO W P I am al ar X bs aC))
  (bw:∀ax x,aC=.ok (ax,x)->∀W' bc bd bg Z,WS W' P I bc bd bg Z bs ax->Mv (Mst P am al ar X) W (Mst P bc bd bg Z) W'->Calls prog 93 #[hG P,.slice bh Q cL,.slice (some ⟨g,off+(k+1)*3,none⟩) (m-(k+1)) (cap-(k+1))] W' (TrO W' P I bc bd bg Z bs a0)):
  Calls prog 93 #[hG P,.slice bh Q cL,.slice (some ⟨g,off,none⟩) m cap] W (TrO W P I am al ar X bs (Hl (ts.getD k hN) aC a0)):=by
 have z:V _:=fS W g _ m cap _ H.tk H.m5 [43] [45];have ai:V _:=fS W g _ m cap _ H.tk H.m5 [42] [47];rw[bZ]at z;clear ai bZ;have bn:=H.m5;have C:=H.mc;have az:V (∀W' M',Mv _ W M' W'->_):=λW' M' ap=>H.tk.keepC ap.chg H.tg;exact qch
theorem cA.qci(h:Zp:=by
 have er:0<=(k:Int):=xaa;go_upto_region 3 with (go_at_call 122;refine yai z.o ?_;rintro e af ⟨rfl,S⟩;obtain rfl:=S.symm);go_upto_region 5 with (go_at_call 122;refine yai ai.o ?_;rintro e af ⟨rfl,S⟩;obtain rfl:=S.symm);clear ai;rcases aC with⟨c,p⟩|⟨ax,x⟩
 ·exact xih
 obtain⟨aq,au⟩:=a5.o ax x rfl;have bb:¬((x:Int)<0):=xaa;go_upto_region 8 with (go_at_call 93;refine yai G.o ?_;rintro e af ⟨rfl,bc,bd,bg,Z,v,aH⟩);have cJ:V _:=cH.o ax x rfl af bc bd bg Z v aH;have cB:V _:=aH;clear G cH v aH;rcases a0 with⟨c,p⟩|⟨aN,y⟩
 ·exact xhn
 obtain⟨bX,bV⟩:=cw.o ax x rfl aN y rfl;exact qhd):Zp:=h
theorem cA.qfe(h:Zp:=by
 simp only at c1 d1 ab aJ;cases aw:ko aN [x,y] w with
 |error f=>
  obtain⟨c,p⟩:=f;rw[aw]at ab;have aa:V _:=aJ.o.trans (Ac aw);clear aw aJ;go_wp2_with (go_at_call 123;refine yai ab.o ?_;rintro e bm ⟨rfl,bi⟩);go_ret;rw[aa.o];exact⟨rfl,bi.1,bi.2.1,aP.o.bad bi.2.2⟩
 |ok q=>
  obtain⟨bC,U⟩:=q;rw[aw]at ab;have aa:V (r=_):=aJ.o.trans (Cp aw);obtain⟨ae,aT,nn,ah⟩:=lL aL.o.g [x,y] w ag.o aw;clear aw aJ
  obtain⟨j,n,rfl⟩:∃a b,U=[a,b]:=by
   match U,aT with
   |[a,b],_=>exact⟨a,b,rfl⟩
  have aj:=(ah j xac).1;have B:=(ah n xac).1;go_upto_region 14 with (go_at_call 123;refine yai ab.o ?_;rintro e bm ⟨di,en,rfl,aU,aY,bW,b9,bv,bB,co⟩);have o:=az.o bm _ (aP.o.trans bB);obtain⟨bu,cv,a9,b7,aV⟩:=bv.lenc aj;obtain⟨aS,of,ak,b8,ao,ch⟩:=co.at_ xac;subst a9 ak;have ad:V (∀W',Kept 0 0 bm W'->W'.cell? ⟨g,off+k*3,none⟩=some (eN aB)/\W'.cell? ⟨g,off+k*3+1,none⟩=some (hI w)/\W'.cell? ⟨P,1,none⟩=some (hH bu bC.vs.length cv)/\W'.cell? ⟨bu,j*6+1,none⟩=some (hI (fg bC j))/\W'.cell? ⟨aS,of,none⟩=some (hI (j:Nat))/\W'.cell? ⟨aS,of+1,none⟩=some (hI (n:Nat))):=λW' ap=>⟨(ap.cell (p:=⟨g,off+k*3,none⟩) o.lt xaa).trans (by have:=o.c0 k O;rw[aQ.o]at this;exact this),(ap.cell (p:=⟨g,off+k*3+1,none⟩) o.lt xaa).trans (by have:=o.c1 k O;rw[aQ.o]at this;exact this),(bv.keep ap).c1,(ap.cell (p:=⟨bu,j*6+1,none⟩) b7 xaa).trans aV,(ap.cell (p:=⟨aS,of,none⟩) ao xaa).trans (ch 0 xac),(ap.cell (p:=⟨aS,of+1,none⟩) ao xaa).trans (ch 1 xac)⟩
  have bM:V (∀W',Kept 0 0 bm W'->Calls prog 96 #[hG P,(eL (qK aB) (fg bC j) (j:Nat) (n:Nat) 0).agg,hI w] W' λe aG=>(∃x:Int,e=.returned (hI x))/\V (TrO W P I am al ar X bs r e aG)):=λW' ap=>yai (mo (bv.keep ap) ae.g (eL (qK aB) (fg bC j) (j:Nat) (n:Nat) 0) (ae.g.lenB aj) yag w) (λe aG t=>⟨t.ret,by
   show TrO W P I am al ar X bs r e aG
   rw[aa.o]
   exact TrO.after ((aP.o.trans bB).keep ap) t⟩)
  have bF:=ae.g.n;have Y:V _:=λW'=>GQ aB W';generalize fg bC j=l at ad bM;generalize qK aB=aD at Y bM;generalize bC.vs.length=bQ at*;clear aV ch o bv bB co ae ah ab aa aP az aL ag c1 d1 z aT b8 ao b7 aQ;have q:=λx:KW bm=>ad.o _ x.k;refine vM (C:=λJ=>∃x:KW bm,J=x.v) 30 (by kernel_rfl) (by kernel_rfl) ⟨⟨bm.drew,eF _⟩,rfl⟩ ?_;simp only[List.take_succ_cons,List.take_zero,List.drop_succ_cons,List.drop_zero]
  repeat (go_big_quiet_step (first
   |(go_at_call 124;exact yai (Y.o _) λe J h=>⟨h.1,⟨_,h.2⟩⟩)
   |(go_at_call 34;exact yai (gQ _ _ _ _ _ _) λe J h=>⟨h.1,⟨⟨J,(KW.k _).trans h.2⟩,rfl⟩⟩)))
  refine wpQuiet_nil ?_;rintro bA ⟨x,rfl⟩;go_wp2_with (go_at_call 96;refine yai (bM.o _ x.k) ?_;rintro e cc ⟨⟨cx,rfl⟩,bi⟩);go_ret;exact bi.o):Zp:=h
theorem cA.qhe(h:Zp:=by
 have R:=az.o aX _ N;have cg:=yaj au bX.n;have bH:=ez 0 0 aX (.cells #[hI x,hI y] 3);have ab:V _:=zZ (aM.keep bH) bX.g _ 2 2 [x,y] (Hm aM.far x y) xaa (by intro i hi;simp at hi;rcases hi with rfl|rfl<;>assumption) (ts.getD k hN).pos;have aJ:V (r=qL aN (ts.getD k hN) x y):=HR.o;have aP:V _:=N.keep bH;have aL:V _:=bX;have ag:V (∀i∈[x,y],i<aN.vs.length):=by intro i hi;simp at hi;rcases hi with rfl|rfl<;>assumption
 have c1:=R.c1 k O;have d1:(aX.alloc (.cells #[hI x,hI y] 3)).cell? ⟨g,off+k*3+1,none⟩=_:=(bH.cell (p:=⟨g,off+k*3+1,none⟩) R.lt xaa).trans c1;exact qfd):Zp:=h
open cA in
theorem Ea{W u}(H:TrIn W P I am al ar X bs st bh Q u g off m cap ts)(k)(O:k<m)(bY:k+1<m)(aA:opM [43] [45] ts=-1)(bZ:opM [42] [47] ts=(k:Int))(aC a0)(bq:RsG st aC)(an:∀ax x,aC=.ok (ax,x)->RsG ax a0)
  (av:Calls prog 93 #[hG P,.slice bh Q cL,.slice (some ⟨g,off,none⟩) k cap] W (TrO W P I am al ar X bs aC))
  (bw:∀ax x,aC=.ok (ax,x)->∀W' bc bd bg Z,WS W' P I bc bd bg Z bs ax->Mv (Mst P am al ar X) W (Mst P bc bd bg Z) W'->Calls prog 93 #[hG P,.slice bh Q cL,.slice (some ⟨g,off+(k+1)*3,none⟩) (m-(k+1)) (cap-(k+1))] W' (TrO W' P I bc bd bg Z bs a0)):
  Calls prog 93 #[hG P,.slice bh Q cL,.slice (some ⟨g,off,none⟩) m cap] W (TrO W P I am al ar X bs (Hl (ts.getD k hN) aC a0)):=by
 have z:V _:=fS W g off m cap ts H.tk H.m5 [43] [45];have ai:V _:=fS W g off m cap ts H.tk H.m5 [42] [47];rw[aA]at z;rw[bZ]at ai;clear bZ aA;have bn:=H.m5;have C:=H.mc;have az:V (∀W' M',Mv (Mst P am al ar X) W M' W'->_):=λW' M' ap=>H.tk.keepC ap.chg H.tg;exact qch
end
section
open Go.RowKit Flt
variable {r:Rs (LSt×Nat)}
theorem vN{f st u o a b}(h:eP (f+1) st u (.bin o a b)=some r):∃aC a0,eP f st u a=some aC/\(∀ax x,aC=.ok (ax,x)->eP f ax u b=some a0)/\r=Hl o aC a0:=by
 rw[eP]at h;cases B:eP f st u a with
 |none=>rw[B]at h;cases h
 |some aC=>
  rw[B]at h;rcases aC with⟨c,p⟩|⟨ax,x⟩
  ·cases h;exact⟨_,.error (c,p),rfl,λ_ _ e=>(by cases e),rfl⟩
  simp only[jJ]at h;cases R:eP f ax u b with
  |none=>grind
  |some a0=>
   rw[R]at h;refine⟨.ok (ax,x),a0,rfl,λ_ _ e=>(by cases e;exact R),?_⟩;rcases a0 with⟨c,p⟩|⟨aN,y⟩
   ·cases h;rfl
   cases h;rfl
theorem Hn(ts us o):(ts++o::us).getD ts.length hN=o:=by
 simp_all
theorem jg{n es ts}(h:Pr n es ts):0<ts.length:=by
 induction h<;>grind
section
variable {f:Nat}{W:World}{P I:Nat}{am al ar X:Value}{bs:List Bc}{st:LSt}{bh:Option Addr}{Q cL:Nat}{u:Loc}{g off m cap:Nat}{ts us:List Tok}{o:Tok}{a b:Ex}{r:Rs (LSt×Nat)}
theorem vO(aj:TrC f)(H:TrIn W P I am al ar X bs st bh Q u g off m cap (ts++o::us)){Y U}(G:Pr Y [a] ts)(hb:Pr U [b] us)(B:Y<=2)(R:U<=2){aC a0}(ae:eP f st u a=some aC)(a9:∀ax x,aC=.ok (ax,x)->eP f ax u b=some a0):
  RsG st aC/\(∀ax x,aC=.ok (ax,x)->RsG ax a0)/\
  Calls prog 93 #[hG P,.slice bh Q cL,.slice (some ⟨g,off,none⟩) ts.length cap] W (TrO W P I am al ar X bs aC)/\
  (∀ax x,aC=.ok (ax,x)->∀W' bc bd bg Z,WS W' P I bc bd bg Z bs ax->Mv (Mst P am al ar X) W (Mst P bc bd bg Z) W'->Calls prog 93 #[hG P,.slice bh Q cL,.slice (some ⟨g,off+(ts.length+1)*3,none⟩) (m-(ts.length+1)) (cap-(ts.length+1))] W' (TrO W' P I bc bd bg Z bs a0)):=by
 have az:=H.tk.len;rw[yak,yap]at az;have bC:=H.mc;have b1:=jB G (λt ht=>H.ti t (by simp[ht])) a xac;have cf:=jB hb (λt ht=>H.ti t (by simp[ht])) b xac;have br:=gC f st u a H.gd H.nm H.lo b1 aC ae;refine⟨br,λax x e=>?_,?_,λax x e W' bc bd bg Z S C=>?_⟩
 ·have w:=(br ax x e).1;exact gC f ax u b w.g (H.nm.gw w) (H.lo.le w.n) cf a0 (a9 ax x e)
 ·have h:=H.sub H.ws (Gw.refl H.gd) (Mv.refl _ W) 0 ts.length xaa ts xac (cap':=cap) xaa;rw[Nat.zero_mul,Nat.add_zero,Nat.sub_zero]at h;exact aj W P I am al ar X bs st bh Q cL u g off ts.length cap ts h Y a G B aC ae
 have h:=H.sub S (br ax x e).1 C (ts.length+1) m yad us (by
  rw[List.drop_append,List.drop_of_length_le xaa,show ts.length+1-ts.length=1 by omega,List.nil_append,List.drop_succ_cons,List.drop_zero,yao xaa]) (cap':=cap-(ts.length+1)) xaa
 exact aj W' P I bc bd bg Z bs ax bh Q cL u g _ _ _ us h U b hb R a0 (a9 ax x e)
theorem Ho(aj:TrC f)(H:TrIn W P I am al ar X bs st bh Q u g off m cap (ts++o::us))(G:Pr 2 [a] ts)(av:o.sym=[43]\/o.sym=[45])(hb:Pr 1 [b] us)(h:eP (f+1) st u (.bin o a b)=some r):
  Calls prog 93 #[hG P,.slice bh Q cL,.slice (some ⟨g,off,none⟩) m cap] W (TrO W P I am al ar X bs r):=by
 obtain⟨aC,a0,ae,a9,rfl⟩:=vN h;obtain⟨a8,p2,z,l⟩:=vO (cL:=cL) aj H G hb xaa xaa ae a9;have az:=H.tk.len;rw[yak,yap]at az;have ah:=jg hb;have t:=D4 H _ xaa xaa (Nd G av hb) _ _ a8 p2 z l;rw[Hn]at t;exact t
theorem Hp(aj:TrC f)(H:TrIn W P I am al ar X bs st bh Q u g off m cap (ts++o::us))(G:Pr 1 [a] ts)(av:o.sym=[42]\/o.sym=[47])(hb:Pr 0 [b] us)(h:eP (f+1) st u (.bin o a b)=some r):
  Calls prog 93 #[hG P,.slice bh Q cL,.slice (some ⟨g,off,none⟩) m cap] W (TrO W P I am al ar X bs r):=by
 obtain⟨aC,a0,ae,a9,rfl⟩:=vN h;obtain⟨a8,p2,z,l⟩:=vO (cL:=cL) aj H G hb xaa xaa ae a9;have az:=H.tk.len;rw[yak,yap]at az;have ah:=jg hb;have t:=Ea H _ xaa xaa (FN (Pr.mul G av hb)) (Nf G av hb) _ _ a8 p2 z l;rw[Hn]at t;exact t
end
theorem Eb{f st u o a}(h:eP (f+1) st u (.neg o a)=some r):∃aC,eP f st u a=some aC/\r=NZ o.pos aC:=by
 exact xdu
section
variable {f:Nat}{W:World}{P I:Nat}{am al ar X:Value}{bs:List Bc}{st:LSt}{bh:Option Addr}{Q cL:Nat}{u:Loc}{g off m cap:Nat}{ts:List Tok}{o t:Tok}{a:Ex}{r:Rs (LSt×Nat)}
theorem Ec(H:TrIn W P I am al ar X bs st bh Q u g off m cap [t])(ht:t.sym=gS)(h:eP (f+1) st u (.name t)=some r):
  Calls prog 93 #[hG P,.slice bh Q cL,.slice (some ⟨g,off,none⟩) m cap] W (TrO W P I am al ar X bs r):=by
 rw[eP]at h;have e:r=Hj st _:=(hL h).symm;have k:=Bk (cL:=cL) H (Pr.name ht) ht H.tk.len.symm;rw[e];exact k
theorem Hq(aj:TrC f)(H:TrIn W P I am al ar X bs st bh Q u g off m cap (o::ts))(av:o.sym=[45])(G:Pr 0 [a] ts)(h:eP (f+1) st u (.neg o a)=some r):
  Calls prog 93 #[hG P,.slice bh Q cL,.slice (some ⟨g,off,none⟩) m cap] W (TrO W P I am al ar X bs r):=by
 obtain⟨aC,ae,rfl⟩:=Eb h;have az:=H.tk.len;rw[yap]at az;have ah:=jg G;have bC:=H.mc;have b1:=jB G (λt ht=>H.ti t (by simp[ht])) a xac;refine D0 H (Pr.neg av G) av xaa _ (gC f _ _ a H.gd H.nm H.lo b1 _ ae) (λW' k=>?_)
 have ad:=H.sub (H.ws.keep k) (Gw.refl H.gd) (Mv.of k) 1 m yad _ (by
  rw[List.drop_succ_cons,List.drop_zero,yao xaa]) (cap':=cap-1) xaa
 exact aj _ P I _ _ _ _ _ _ _ _ _ _ g _ _ _ _ ad 0 a G xaa _ ae
theorem Hr{l q}(H:TrIn W P I am al ar X bs st bh Q u g off m cap (l::(ts++[q])))(ah:l.sym=[40])(G:Pr 2 [a] ts)(aq:q.sym=[41])
  (aj:∀W',TrIn W' P I am al ar X bs st bh Q u g (off+3) (m-2) (cap-1) ts->Calls prog 93 #[hG P,.slice bh Q cL,.slice (some ⟨g,off+3,none⟩) (m-2) (cap-1)] W' (TrO W' P I am al ar X bs r)):
  Calls prog 93 #[hG P,.slice bh Q cL,.slice (some ⟨g,off,none⟩) m cap] W (TrO W P I am al ar X bs r):=by
 have az:=H.tk.len;rw[yap,yak,List.length_singleton]at az;have bC:=H.mc;refine DZ H (Pr.par ah G aq) ah xaa r (λW' k=>?_)
 have ad:=H.sub (H.ws.keep k) (Gw.refl H.gd) (Mv.of k) 1 (m-1) xaa _ (by
  rw[List.drop_succ_cons,List.drop_zero,List.take_append_of_le_length xaa,yao xaa]) (cap':=cap-1) xaa
 rw[show m-1-1=m-2 by omega]at ad;exact yai (aj _ ad) (λe aG t=>TrO.back k t)
