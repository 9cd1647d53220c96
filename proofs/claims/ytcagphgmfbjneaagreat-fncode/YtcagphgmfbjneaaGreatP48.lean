import Derived.Test.YtcagphgmfbjneaaGreatP28
import Derived.Test.YtcagphgmfbjneaaGreatP27
import Derived.Test.YtcagphgmfbjneaaGreatP31
import Derived.Test.YtcagphgmfbjneaaGreatP20
import Derived.Test.YtcagphgmfbjneaaGreatP19
import Derived.Test.YtcagphgmfbjneaaGreatP45
namespace Go.Proofs.Z
variable{Zp:Prop}
open Tryz
set_option maxRecDepth 1000000
set_option maxHeartbeats 0
section
open Go.RowKit Flt
attribute[local go_sem] eE eD eC
variable{P I Q g cL off m cap:Nat}{u1 u2 u3 u4 ba bb bc bo:Value}{bs:List Bc}{st:LSt}{a5:Option Addr}{H:World}{u:Loc}{ts:List Tok}{e:Ex}
theorem aR.qbk(h:Zp:=by
 have B:V (mj _ ⟨[112,117,116],_,C⟩ a n ae=if eW st a≠1 then .error (4,aX)
  else if ii _<1\/1000<ii _ then .error _
  else if ii _<=ii _ then .error _ else fI _ _ aX):=rfl
 have ci:=ad.len a az;change 1<=eW _ a/\eW _ a<=1000 at ci;have bE:V _:=h;have au:V _:=a2;have co:V _:=bU;obtain⟨b0,cap,bg,ck,-⟩:=h.lenc az
 have HL:V (∀H,Kept 0 0 W H->H.cell? _=some (.slice _ _ _)/\H.cell? _=some _/\(H.cell? _=some _/\H.cell? _=some _/\H.cell? _=some _/\H.cell? _=some _)/\(H.cell? _=some _/\H.cell? _=some _/\H.cell? _=some _/\H.cell? _=some _)):=λH aj=>by
  obtain⟨a0,be,ah,_,c3⟩:=(bE.o.keep aj).lenc az
  rw[bg]at ah
  cases ah
  exact⟨(bE.o.keep aj).c1.trans (congrArg some bg),c3,(au.o.keep aj).cells,(co.o.keep aj).cells⟩
 generalize mj _ _ a n _=r at B⊢;generalize eW _ a=l at ci HL B;generalize f:st.vs.length=N at*;clear f h a2 bU ad bx aV bE au co bg ck;unfold iT at b8 j⊢;obtain⟨bf,Y,K⟩:=n;obtain⟨J,w,mt⟩:=ae;simp only at b8 j hb ab HL B⊢;generalize ii _=m at*;generalize ii _=bl at*;exact qeu):Zp:=h
theorem aR.qev(h:Zp:=by
 obtain⟨aJ,y2,⟨y3,y4,b5,cA⟩,bu,bC,ct,X⟩:=HL.o _ HK.o;exact qgk):Zp:=h
theorem aR.qgl(h:Zp:=by
 clear aJ y2 y3 y4 b5 cA bu bC ct X bL T HK av b8;obtain⟨aJ,y2,⟨y3,y4,b5,cA⟩,bu,bC,ct,X⟩:=HL.o _ bQ.o;have bL:=y.o.c0;have U:=y.o.c1;by_cases F:l=1
 ·subst F;have d:V _:=B.o.trans (h6 xac);clear B;go_upto_region 14 with (go_at_call 114;refine yaj (j.o _) ?_;rintro e aU ⟨rfl,aZ⟩);have aO:V _:=bQ.o.trans aZ;have ca:V _:=y.o.keep aZ;clear aJ y2 y3 y4 b5 cA bu bC ct X bL U y bQ aZ j;obtain⟨aJ,y2,⟨y3,y4,b5,cA⟩,bu,bC,ct,X⟩:=HL.o _ aO.o;have bL:=ca.o.c0;have U:=ca.o.c1;clear HL;by_cases h2:bl<1
  ·have R:V _:=d.o.trans (h7 (.inl h2));exact xdb
  by_cases h3:1000<bl
  ·have R:V _:=d.o.trans (h7 (.inr h3));exact xdb
  have bM:V _:=d.o.trans (h6 xaa);clear d;by_cases h4:bl<=m
  ·have R:V _:=bM.o.trans (h7 h4);exact xdb
  have R:V _:=bM.o.trans (h6 h4);have HQ:V _:=λH aj=>al.o H (eJ 12 _ a 0 m) aj (by show 1<=bl/\bl<=1000;omega) yah;go_upto_region 18 with fail
  go_region_with (first
   |(go_at_call 79;refine yaj (gG _ _ _ _ _ _) ?_;rintro e bA ⟨rfl,bW⟩;have b:=(ca.o.keep ((eF _).trans bW)).c1)
   |(go_at_call 115;refine yaj (HQ.o _ (aO.o.trans ((eF _).trans bW))) ?_;rintro e bD ⟨⟨x,rfl⟩,bm⟩))
  all_goals (go_wp2_with fail;go_ret;rw[R.o];exact bm.o)
 have R:V _:=B.o.trans (h7 F);have ak:=yax F;clear HL;go_wp2_with (first|(go_at_call 111;refine yaj (bT.o _ _ bQ.o) ?_;rintro e bA ⟨rfl,G⟩)|fail);exact xdu):Zp:=h
open aR in
theorem I2{W}(h:WS W P I u1 u2 u3 u4 bs st)(ad:Gd st)(k)(O:k.sym=Du)(a)(az:a<st.vs.length)(n)(bx:Dgs n.text){b4 Z b7 q o c}(bS:3<=Z)(a2:Sg1 W b4 1 q o c n)(ae)(aV:Dgs ae.text){aB b9 c2}(bU:Sg1 W b4 2 aB b9 c2 ae):
  Calls prog 133 #[hZ P,iT k,h1 a,h0 b4 Z b7] W (TrO W P I u1 u2 u3 u4 bs (mj st k a n ae)):=by
 obtain⟨a9,aX,C⟩:=k;simp only at O;subst O;unfold Du;have b8:V _:=λH=>zW n bx H;have j:V _:=λH=>zW _ aV H;have bI:=ad.n;have hb:=pW bx yad;rw[List.take_length]at hb;have ab:=pW aV yad;rw[List.take_length]at ab;have T:V _:=gV W [112,117,116] aX C;have HK:V _:=eA 0 0 W (.cells #[eK [112,117,116],h1 aX,eK C] 137);exact qbj
structure TrIn(W:World)(P B:Nat)(u1 u2 u3 u4:Value)(bs:List Bc)(st:LSt)(aL:Option Addr)(nL:Nat)(loc:Loc)(g off m cap:Nat)(ts:List Tok):Prop where
 ws:WS W P B u1 u2 u3 u4 bs st
 gd:Gd st
 nm:NmOK st
 lc:LcR (Mst P u1 u2 u3 u4) W aL nL loc
 ln:nL<=5000
 lo:LcOK loc st.vs.length
 tk:TkA W g off m ts
 tg:¬Mst P u1 u2 u3 u4 g
 m5:m<=5000
 mc:m<=cap
 ti:∀t∈ts,t.sym=ik->Dgs t.text
 tn:∀t∈ts,(t.sym=ik\/t.sym=kO)->kD t.text
def TrC(f:Nat):Prop:=∀(W:World) (P B:Nat) (u1 u2 u3 u4:Value) (bs:List Bc) (st:LSt) (aL:Option Addr) (nL cL:Nat) (loc:Loc) (g off m cap:Nat) (ts:List Tok),TrIn W P B u1 u2 u3 u4 bs st aL nL loc g off m cap ts->∀(n:Nat) (e:Ex),Pr n [e] ts->n<=2->∀r,eM f st loc e=some r->
 Calls prog 112 #[.pointer (some ⟨P,0,none⟩),.slice aL nL cL,.slice (some ⟨g,off,none⟩) m cap] W (TrO W P B u1 u2 u3 u4 bs r)
theorem TkA.in_{w n}(h:TkA w g off n ts)(i j us)(a6:us=(ts.drop i).take (j-i))(hj:j<=n):TkA w g (off+i*3) (j-i) us:=by subst a6;exact h.cut hj
theorem TrIn.sub{W}(h:TrIn W P I u1 u2 u3 u4 bs st a5 Q u g off m cap ts){N}(X:WS H P I ba bb bc bo bs N)(w:Gw st N)(k:Mv (Mst P u1 u2 u3 u4) W (Mst P ba bb bc bo) H)(i j)(hj:j<=m)(us)(a6:us=(ts.drop i).take (j-i)){cap'}(al:j-i<=cap'):TrIn H P I ba bb bc bo bs N a5 Q u g (off+i*3) (j-i) cap' us where
 ws:=X
 gd:=w.g
 nm:=h.nm.gw w
 lc:=h.lc.mv k
 ln:=h.ln
 lo:=h.lo.le w.n
 tk:=(h.tk.keepC k.chg h.tg).in_ i j us a6 hj
 tg:=λc=>(k.new g c).elim h.tg (λc=>ix h.tk.lt)
 m5:=ix h.m5
 mc:=al
 ti:=λt ht=>h.ti t (by grind)
 tn:=λt ht=>h.tn t (by grind)
theorem EW{W}(ad:TrIn W P I u1 u2 u3 u4 bs st a5 Q u g off m cap ts)(aQ:Pr 0 [e] ts)(ak:(ts.getD 0 ih).sym=[40])(h2:2<=m)(r)
  (bf:∀H,Kept 0 0 W H->Calls prog 112 #[hZ P,.slice a5 Q cL,.slice (some ⟨g,off+3,none⟩) (m-2) (cap-1)] H (TrO W P I u1 u2 u3 u4 bs r)):
  Calls prog 112 #[hZ P,.slice a5 Q cL,.slice (some ⟨g,off,none⟩) m cap] W (TrO W P I u1 u2 u3 u4 bs r):=by
 have j:V _:=fC W g _ m cap _ ad.tk ad.m5 [43] [45];have af:V _:=fC W g _ m cap _ ad.tk ad.m5 [42] [47];rw[mB aQ]at j af;have c0:=ad.tk.c0 0 xaa;have c1:=ad.tk.c1 0 xaa;have c2:=ad.tk.c2 0 xaa;rw[ak]at c0;have cl:=ad.m5;have ae:=ad.mc;have K:V (∀H,Kept 0 0 W _->Calls _ _ _ _ λe z=>(∃x:Int,e=.returned _)/\V (TrO W P I _ _ _ _ _ r e _)):=λH k=>yaj (bf H k) (λe z t=>⟨t.ret,t⟩);generalize ts.getD 0 _=t at*;clear ak ad aQ bf;obtain⟨aT,ps,a8⟩:=t;simp only[Nat.zero_mul,Nat.add_zero]at c0 c1 c2;go_enter func112,ntmps112;go_upto_region 3 with (go_at_call 123;refine yaj j.o ?_;rintro e am ⟨rfl,X⟩;obtain rfl:=X.symm);go_upto_region 15 with (go_at_call 123;refine yaj af.o ?_;rintro e am ⟨rfl,X⟩;obtain rfl:=X.symm);go_upto_region 16 with fail;change Code.wp _ _ _ _ (W.alloc (.cells #[eK _,.int _ ps,eK _] 137));have T:V _:=gV W [40] ps a8;have HK:V _:=eA 0 0 W (.cells #[eK [40],h1 ps,eK a8] 137);generalize W.alloc _=ax at T HK⊢;generalize W.heap.size=a7 at T⊢;have bL:=T.o.c0;have b2:V _:=K.o _ HK.o;clear c0 c1 c2 j af T K;go_wp2_with (go_at_call 112;refine yaj b2.o ?_;rintro e am ⟨⟨x,rfl⟩,bm⟩);go_ret;exact bm.o
def I3(st:LSt)(q:Rs Nat):Rs (LSt×Nat):=match q with|.error f=>.error f|.ok v=>.ok (st,v)
theorem F.qam(h:Zp:=by
 change Code.wp _ _ _ _ (W.alloc (.cells #[eK [110,97,109,101],h1 ps,eK a8] 137));have T:V _:=gV W [110,97,109,101] ps a8;have HK:V _:=eA 0 0 W (.cells #[eK [110,97,109,101],h1 ps,eK a8] 137);generalize W.alloc (.cells #[eK [110,97,109,101],h1 ps,eK a8] 137)=ax at T HK⊢;generalize W.heap.size=a7 at T⊢;have b:V _:=bX.o ax HK.o;obtain⟨bL,U,aV⟩:ax.cell? ⟨a7,0,none⟩=some (eK [110,97,109,101])/\ax.cell? ⟨a7,1,none⟩=some (h1 ps)/\ax.cell? ⟨a7,2,none⟩=some (eK a8):=⟨T.o.c0,T.o.c1,T.o.c2⟩
 clear c0 c1 c2 j af T bX;generalize fi st u ⟨[110,97,109,101],ps,a8⟩=q at b HR;rcases q with⟨c,p⟩|v
 ·exact xdk
 go_wp2_with (go_at_call 126;refine yaj b.o ?_;rintro e am ⟨rfl,av⟩);go_ret;rw[HR.o];exact⟨rfl,u1,u2,u3,u4,bE.o.keep (HK.o.trans av),Mv.of (HK.o.trans av)⟩):Zp:=h
theorem F.qem(h:Zp:=by
 have bX:V (∀H,Kept 0 0 W H->_):=λH k=>yl (ad.ws.keep k) ad.gd.m a5 Q cL u (ad.lc.keep k) ad.ln (ts.getD 0 ih);have bE:V _:=ad.ws;unfold gH at ak;generalize ts.getD 0 ih=t at*;clear ad aQ;obtain⟨aT,ps,a8⟩:=t;simp only at ak;subst ak;simp only[Nat.zero_mul,Nat.add_zero]at c0 c1 c2;obtain⟨r,aF⟩:∃r,r=I3 st (fi st u ⟨[110,97,109,101],ps,a8⟩):=⟨_,rfl⟩
 rw[<-aF];have HR:V _:=aF;clear aF;exact qal):Zp:=h
open F in
theorem B7{W}(ad:TrIn W P I u1 u2 u3 u4 bs st a5 Q u g off m cap ts)(aQ:Pr 0 [e] ts)(ak:(ts.getD 0 ih).sym=gH)(F:m=1):
  Calls prog 112 #[hZ P,.slice a5 Q cL,.slice (some ⟨g,off,none⟩) m cap] W (TrO W P I u1 u2 u3 u4 bs (I3 st (fi st u (ts.getD 0 ih)))):=by
 subst F;have j:V _:=fC W g off 1 cap ts ad.tk ad.m5 [43] [45];have af:V _:=fC W g off 1 cap ts ad.tk ad.m5 [42] [47];exact qel
theorem WS.far{W}(h:WS W P I u1 u2 u3 u4 bs st):¬Mst P u1 u2 u3 u4 W.heap.size:=by
 exact xfp
theorem TrO.after{W0 ax r e}(k:Mv (Mst P u1 u2 u3 u4) W0 (Mst P ba bb bc bo) ax)(h:TrO ax P I ba bb bc bo bs r e H):TrO W0 P I u1 u2 u3 u4 bs r e H:=by
 rcases r with⟨c,p⟩|⟨st,v⟩
 ·obtain⟨F,h2,h3,h4⟩:=h;exact⟨F,h2,h3,k.bad h4⟩
 obtain⟨F,aH,am,aU,bA,h2,h3⟩:=h;exact⟨F,_,_,_,_,h2,k.trans h3⟩
theorem TB.keepC{W p s k x}(h:TB W p s k x){S}(c:Chg S W H)(a2:¬S p):TB H p s k x:=
 ⟨yak h.lt c.size,(c.cell (p:=⟨p,0,none⟩) h.lt a2).trans h.c0,(c.cell (p:=⟨p,1,none⟩) h.lt a2).trans h.c1,(c.cell (p:=⟨p,2,none⟩) h.lt a2).trans h.c2,λo=>(c.frozen (p:=⟨p,o,none⟩) h.lt a2).trans (h.fr o)⟩
def Px(p:Nat)(r:Rs (LSt×Nat)):Rs (LSt×Nat):=match r with|.error f=>.error f|.ok (s,a)=>fI s (eJ 6 (eW s a) (a:Int) 0 0) p
theorem G.qam(h:Zp:=by
 change Code.wp _ _ _ _ (W.alloc (.cells #[eK _,.int _ _,eK _] 137));have T:V _:=gV W [45] ps a8;have HK:V _:=eA 0 0 W (.cells #[eK [45],h1 ps,eK a8] 137);generalize W.alloc _=ax at T HK⊢;generalize W.heap.size=a7 at T aD⊢;have b2:V _:=K.o _ HK.o;have bL:=T.o.c0;clear c0 c1 c2 j af K;rcases aq with⟨c,p⟩|⟨s,a⟩
 ·exact xdt
 obtain⟨w,az⟩:=bv.o s a rfl;go_upto_region 18 with (go_at_call 112;refine yaj b2.o ?_;rintro e am ⟨rfl,ba,bb,bc,bo,J,aG⟩);have y:V _:=T.o.keepC aG.chg aD.o;obtain⟨b0,cv,bg,ck,a6⟩:=J.lenc az;have b7:=J.c1;subst bg
 have al:V (∀H,Kept 0 0 _ H->Calls _ _ _ _ λe z=>(∃x:Int,e=.returned _)/\V (TrO W P I _ _ _ _ _ r e _)):=λH aj=>yaj (mn (J.keep aj) w.g (eJ 6 (eW s a) _ 0 0) (w.g.lenB az) yah _) (λe z t=>⟨t.ret,by
  show TrO W P I u1 u2 u3 u4 bs r e z
  rw[HR.o]
  exact TrO.back HK.o (TrO.after (aG.keep aj) t)⟩)
 have U:=y.o.c1;have bI:=w.g.n;generalize eW s a=l at a6 al;generalize s.vs.length=N at*;clear J aG b2 T HR bv w bL;go_upto_region 20 with fail;exact xdi):Zp:=h
theorem G.qem(h:Zp:=by
 have aD:V _:=ad.ws.far;have K:V _:=bf;have bv:V _:=br;generalize ts.getD 0 _=t at*;clear ad aQ bf br;obtain⟨aT,ps,a8⟩:=t;simp only at ak;subst ak;simp only[Nat.zero_mul,Nat.add_zero]at c0 c1 c2;obtain⟨r,aF⟩:∃r,r=Px ps aq:=⟨_,rfl⟩
 simp only;rw[<-aF];have HR:V _:=aF;clear aF;exact qal):Zp:=h
open G in
theorem EX{W}(ad:TrIn W P I u1 u2 u3 u4 bs st a5 Q u g off m cap ts)(aQ:Pr 0 [e] ts)(ak:(ts.getD 0 ih).sym=[45])(h2:2<=m)(aq)(br:RsG st aq)
  (bf:∀H,Kept 0 0 W H->Calls prog 112 #[hZ P,.slice a5 Q cL,.slice (some ⟨g,off+3,none⟩) (m-1) (cap-1)] H (TrO H P I u1 u2 u3 u4 bs aq)):
  Calls prog 112 #[hZ P,.slice a5 Q cL,.slice (some ⟨g,off,none⟩) m cap] W (TrO W P I u1 u2 u3 u4 bs (Px (ts.getD 0 ih).pos aq)):=by
 have j:V _:=fC W g _ m cap _ ad.tk ad.m5 [43] [45];have af:V _:=fC W g _ m cap _ ad.tk ad.m5 [42] [47];exact qel
end
section
open Go.RowKit
variable{P:Program}{bW:Array Oper}{d:Region.Mode}{C:World->Prop}{n:Nat}
def hdQ(P:Program)(md:Region.Mode)(ops:Array Oper)(C:World->Prop)(n:Nat)(L:Array Bool->Act->Prop):Nat->Array Bool->Act->Prop
 |0,l,a=>L l a
 |f+1,l,a=>Region.ready md ops l≠[]/\∀i∈Region.ready md ops l,i<n/\qOp P ops C i (hdQ P md ops C n L f (l.setIfInBounds i true)) a
theorem Db{g L Q}(bV:∀l a w,C w->L l a->wpAny P d bW Q g l a w):∀f l a w,C w->hdQ P d bW C n L f l a->wpAny P d bW Q (f+g) l a w
 |0,l,a,w,X,h=>by rw[Nat.zero_add];exact bV l a w X h
 |f+1,l,a,w,X,h=>by
  rw[Nat.add_right_comm]
  exact⟨λak=>absurd ak h.1,λi hi=>wpOp_of_qOp X (λam B b h'=>Db bV f _ _ _ b h') (h.2 i hi).2⟩
theorem I4{i u v L}(hi:bW[i]? =some u)(m:Region.noSelect bW=true)(aw:Region.sinkB d bW n=true)(al:Region.chainB d bW n=true)(ag:n<bW.size)(bg:i<n)(bx:∀l a,L l a->∀j∈Region.ready d bW l,n<=j):
  ∀f l a,HeadInv d bW n l->(∀j g,bW[j]? =some g->j≠i->l.getD j true=false->(∀e∈g.after,Region.binds d e=true->e.on≠i)->u.apart bW g=true)->i∈Region.ready d bW l->YieldsIn P bW C u v a->hdQ P d bW C n L f (l.setIfInBounds i true) (a.put u.dst v)->hdQ P d bW C n L (f+1) l a:=by
 intro f;induction f with
 |zero=>
  intro l a r _ aF bp ad;have t:∀j∈Region.ready _ _ l,j<n:=λj hj=>(Nat.lt_or_ge j n).resolve_right λh=>tail_waits aw al ag r _ i rfl bg (mem_ready.1 aF).1 j h hj;refine⟨λh=>(by grind),λj hj=>⟨t j hj,?_⟩⟩;by_cases e:j=i
  ·subst e;exact bp.qOp hi ad
  exact absurd (bx _ _ ad j (ready_mono hj e)) (Nat.not_le_of_lt (t j hj))
 |succ f G=>
  intro l a r ba aF bp ad;have a6:=(mem_ready.1 aF).1;have t:∀j∈Region.ready _ _ l,j<n:=λj hj=>(Nat.lt_or_ge j n).resolve_right λh=>tail_waits aw al ag r _ i rfl bg a6 j h hj;refine⟨λh=>(by grind),λj hj=>⟨t j hj,?_⟩⟩;by_cases e:j=i
  ·subst e;exact bp.qOp hi ad
  obtain⟨aM,g,w,az⟩:=mem_ready.1 hj
  have ap:∀e∈g.after,Region.binds _ e=true->e.on≠i:=λe Y hb aA=>by
   have:=az e Y hb
   rw[aA,getD_both a6]at this
   cases this
  refine qOp_mono (λam h3=>G _ _ (r.set hj (t j hj)) (λk ok O x y z=>ba k _ O x ?_ z) (ready_mono aF (Ne.symm e)) h3.1 ?_) (qOp_put w (ba j _ w e aM ap) (λcs b=>Region.noSelect_spec m i _ _ b hi) (λcs b=>Region.noSelect_spec m j _ _ b w) bp (ad.2 j (ready_mono hj e)).2)
  ·by_cases q:j=k<;>simp_all<;>grind
  rw[Array.setIfInBounds_comm _ _ e];exact h3.2
theorem Dc{g R}(m:Region.noSelect bW=true)(aw:Region.sinkB d bW n=true)(al:Region.chainB d bW n=true)(ag:n<bW.size):
  ∀(l:List Oper) (k:Nat) (t:Array Bool) (a:Act),(∀j,j<l.length->l[j]? =bW[k+j]?)->k+l.length=n->HeadInv d bW n t->Region.lexHead d bW g l.length k t=true->wpQuiet P bW C R l a->hdQ P d bW C n (λS am=>Region.seqB d bW g n S=true/\R am) l.length t a
 |[],k,t,a,_,O,_,a7,h=>by
  obtain rfl:k=n:=O
  exact⟨a7,h⟩
 |o::l,k,t,a,ai,O,r,a7,h=>by
  have ak:bW[k]? =some o:=(ai 0 (Nat.zero_lt_succ _)).symm
  simp only[yaq,Region.lexHead,Bool.and_eq_true]at a7 O ai
  obtain⟨⟨aF,ba⟩,e⟩:=a7
  have b:k∈Region.ready d bW t:=by grind
  have aA:qOp P bW C k (wpQuiet P bW C R l) a:=by unfold qOp;simp only[ak];exact h
  obtain⟨v,bp,aG⟩:=yieldsIn_of_qOp ak aA
  exact I4 ak m aw al ag xaa (λ_ _ q=>seqB_ready q.1) _ t a r (Region.free_spec ak ba) b bp (Dc m aw al ag l _ _ _ (λj hj=>by grind) xaa (r.set b xaa) e aG)
theorem wN{id Q a w}{l:List Oper}(n)(ao:P.follows .mixedOrders=true)(a7:Region.lexTailB .any l.toArray n=true)(aj:C {w with drawn:=w.drawn+1})
  (h:wpQuiet P l.toArray C (λam=>∀B,C B->wpList P l.toArray Q (l.drop n) am B) (l.take n) a):(Code.region id l.toArray true).wp P Q a w:=by
 simp only[Region.lexTailB,Bool.and_eq_true,decide_eq_true_eq]at a7;obtain⟨⟨⟨⟨m,ag⟩,aw⟩,al⟩,ap⟩:=a7;have aY:n<l.length:=xaa;have ht:(l.take n).length=n:=by grind
 have ad:=Dc m aw al ag _ 0 (Array.replicate l.toArray.size _) a (λj hj=>by
  rw[ht]at hj
  simp[hj]) xaa ⟨by simp,λj g _ q=>(by rw[getD_replicate_false]at q;cases q),λt _ q=>getD_in (by simpa using q) (getD_replicate_false _ _)⟩ (i1 ht ap) h
 refine wp_region_any ao ?_;have:=Db (Q:=Q) (g:=l.toArray.size-n) (λt am B b q=>?_) _ _ _ _ aj ad
 ·rw[ht,Nat.add_sub_cancel' (Nat.le_of_lt ag)]at this;exact this
 have aO:(l.drop n).length=l.toArray.size-n:=by simp
 rw[<-aO];exact wpAny_of_seq _ n t _ _ (λj=>by simp) (by grind) (q.2 _ b)
structure KW(w:World) where
 v:World
 k:Kept 0 0 w v
instance (w:World):Nonempty (KW w):=⟨⟨w,.refl _ _ _⟩⟩
end
section
open Go.RowKit Flt
attribute[local go_sem] eE eD eC
variable{P I a b Q cL g off m cap:Nat}{u1 u2 u3 u4:Value}{st:LSt}{bs:List Bc}{a5:Option Addr}{ts:List Tok}
def I5(o:Tok)(r1 r2:Rs (LSt×Nat)):Rs (LSt×Nat):=match r1 with
 |.error f=>.error f
 |.ok (_,x)=>match r2 with
  |.error f=>.error f
  |.ok (s2,y)=>qM s2 o x y
theorem AX{o f}(h:jT st [a,b] o.pos=.error f):qM st o a b=.error f:=by unfold qM;rw[h]
theorem De{aW o f}(h:jT st [a,b] o.pos=.ok (aW,f)):qM st o a b=fI aW (eJ (qL o.sym) (eW aW (f.getD 0 0)) (f.getD 0 0:Nat) (f.getD 1 0:Nat) 0) o.pos:=by unfold qM;rw[h]
theorem TrO.chg{W r e H}(h:TrO W P I u1 u2 u3 u4 bs r e H):Chg (Mst P u1 u2 u3 u4) W H:=by
 rcases r with⟨c,p⟩|⟨st,v⟩
 ·exact h.2.2.2
 obtain⟨_,_,_,_,_,_,k⟩:=h;exact k.chg
theorem I6{W:World}{M}(ba:¬M W.heap.size)(x y:Nat):XsR M (W.alloc (.cells #[h1 x,h1 y] 3)) (some ⟨W.heap.size,0,none⟩) 2 [x,y]:=by
 refine⟨rfl,λ_=>⟨_,0,rfl,ba,by simp,λk O=>?_⟩⟩;grind[yav]
theorem bU.qch(h:Zp:=by
 have bU:(0:Int)<=k:=xaa;go_upto_region 5 with (go_at_call 123;refine yaj j.o ?_;rintro e am ⟨rfl,X⟩;obtain rfl:=X.symm);rcases aq with⟨c,p⟩|⟨ar,x⟩
 ·exact xgy
 obtain⟨av,ap⟩:=bv.o _ x rfl;have bz:¬((x:Int)<0):=xaa;go_upto_region 8 with (go_at_call 112;refine yaj Z.o ?_;rintro e am ⟨rfl,ba,bb,bc,bo,J,aG⟩);have cp:V _:=cx.o _ x rfl _ _ _ _ _ J aG;have bV:V _:=aG;clear Z cx J aG;rcases aT with⟨c,p⟩|⟨aW,y⟩
 ·exact xgb
 obtain⟨bx,bp⟩:=bW.o _ x rfl _ y rfl;exact qgo):Zp:=h
theorem bU.qex(h:Zp:=by
 simp only at c1 aM v aC;cases aa:jT aW [x,y] w with
 |error f=>
  obtain⟨c,p⟩:=f;rw[aa]at v;have R:V _:=aC.o.trans (AX aa);clear aa aC;go_wp2_with (go_at_call 124;refine yaj v.o ?_;rintro e bA ⟨rfl,bm⟩);go_ret;rw[R.o];exact⟨rfl,bm.1,bm.2.1,bQ.o.bad bm.2.2⟩
 |ok q=>
  obtain⟨bJ,Y⟩:=q;rw[aa]at v;have R:V _:=aC.o.trans (De aa);obtain⟨G,b8,nn,au⟩:=lF aI.o.g _ _ ao.o aa;clear aa aC
  obtain⟨d,n,rfl⟩:∃a b,Y=[a,b]:=by
   match Y,b8 with
   |[a,b],_=>exact⟨a,b,rfl⟩
  have ak:=(au d xac).1;have F:=(au n xac).1;go_upto_region 14 with (go_at_call 124;refine yaj v.o ?_;rintro e bA ⟨cX,dc,rfl,aJ,y2,y3,y4,ab,bK,a8⟩);have K:=U.o _ _ (bQ.o.trans bK);obtain⟨b0,cv,bg,ck,a6⟩:=ab.lenc ak;obtain⟨be,of,ah,a2,ai,co⟩:=a8.at_ xac;subst bg ah;have aw:V (∀H,Kept 0 0 _ H->H.cell? _=some (eK bk)/\H.cell? _=some (.int _ w)/\H.cell? _=some _/\H.cell? _=some _/\H.cell? ⟨_,of,_⟩=some (.int _ d)/\H.cell? _=some (.int _ n)):=λH aj=>⟨(aj.cell K.lt xaa).trans (by have:=K.c0 k O;rw[aS.o]at this;exact this),(aj.cell K.lt xaa).trans (by have:=K.c1 k O;rw[aS.o]at this;exact this),(ab.keep aj).c1,(aj.cell ck xaa).trans a6,(aj.cell ai xaa).trans (co 0 xac),(aj.cell ai xaa).trans (co 1 xac)⟩
  have al:V (∀H,Kept 0 0 _ _->Calls _ _ _ H λe z=>(∃x:Int,e=.returned _)/\V (TrO W P I _ _ _ _ _ r e _)):=λH aj=>yaj (mn (ab.keep aj) G.g (eJ _ (eW bJ _) d n 0) (G.g.lenB ak) yah _) (λe z t=>⟨t.ret,by
   show TrO W P I u1 u2 u3 u4 bs r e z
   rw[R.o]
   exact TrO.after ((bQ.o.trans bK).keep aj) t⟩)
  have bI:=G.g.n;have T:V _:=λH=>GU bk H;generalize eW bJ _=l at aw al;generalize qL _=ds at T al;generalize bJ.vs.length=N at*;clear a6 co K ab bK a8 G au v R bQ U aI ao c1 aM j b8 a2 ai ck aS;have q:=λx:KW _=>aw.o _ x.k;refine wN (C:=λB=>∃x:KW bA,B=x.v) 30 (by kernel_rfl) (by kernel_rfl) ⟨⟨bA.drew,eF _⟩,rfl⟩ ?_;simp only[List.take_succ_cons,List.take_zero,List.drop_succ_cons,List.drop_zero]
  repeat (go_big_quiet_step (first
   |(go_at_call 125;exact yaj (T.o _) λe B h=>⟨h.1,⟨_,h.2⟩⟩)
   |(go_at_call 79;exact yaj (gG _ _ _ _ _ _) λe B h=>⟨h.1,⟨⟨_,(KW.k _).trans h.2⟩,rfl⟩⟩)))
  refine wpQuiet_nil ?_;rintro bD ⟨x,rfl⟩;go_wp2_with (go_at_call 115;refine yaj (al.o _ x.k) ?_;rintro e cd ⟨⟨cU,rfl⟩,bm⟩);go_ret;exact bm.o):Zp:=h
theorem bU.qgp(h:Zp:=by
 have an:=U.o _ _ ag;have cj:=yak ap bx.n;have bj:=eA 0 0 aU (.cells #[h1 x,h1 y] 3);have v:V _:=Aj (aO.keep bj) bx.g _ 2 2 _ (I6 aO.far x y) xaa (by intro i hi;simp at hi;rcases hi with rfl|rfl<;>assumption) (ts.getD k ih).pos;have aC:V (r=qM _ _ x y):=HR.o;have bQ:V _:=ag.keep bj;have aI:V _:=bx;have ao:V (∀i∈[x,y],i<aW.vs.length):=by intro i hi;simp at hi;rcases hi with rfl|rfl<;>assumption
 have c1:=an.c1 k O;have aM:(aU.alloc _).cell? _=_:=(bj.cell an.lt xaa).trans c1;exact qew):Zp:=h
open bU in
theorem EY{W u}(ad:TrIn W P I u1 u2 u3 u4 bs st a5 Q u g off m cap ts)(k)(O:k<m)(bM:k+1<m)(b4:opM [43] [45] ts=(k:Int))(aq aT)(br:RsG st aq)(bh:∀ar x,aq=.ok (ar,x)->RsG ar aT)
  (b2:Calls prog 112 #[hZ P,.slice a5 Q cL,.slice (some ⟨g,off,none⟩) k cap] W (TrO W P I u1 u2 u3 u4 bs aq))
  (bO:∀ar x,aq=.ok (ar,x)->∀H ba bb bc bo,WS H P I ba bb bc bo bs ar->Mv (Mst P u1 u2 u3 u4) W (Mst P ba bb bc bo) H->Calls prog 112 #[hZ P,.slice a5 Q cL,.slice (some ⟨g,off+(k+1)*3,none⟩) (m-(k+1)) (cap-(k+1))] H (TrO H P I ba bb bc bo bs aT)):
  Calls prog 112 #[hZ P,.slice a5 Q cL,.slice (some ⟨g,off,none⟩) m cap] W (TrO W P I u1 u2 u3 u4 bs (I5 (ts.getD k ih) aq aT)):=by
 have j:V _:=fC W g _ m cap _ ad.tk ad.m5 [43] [45];have af:V _:=fC W g _ m cap _ ad.tk ad.m5 [42] [47];rw[b4]at j;clear af b4;have cl:=ad.m5;have ae:=ad.mc;have U:V (∀H M',Mv _ W M' H->_):=λH M' aj=>ad.tk.keepC aj.chg ad.tg;exact qcg
theorem bV.qch(h:Zp:=by
 have bU:0<=(k:Int):=xaa;go_upto_region 3 with (go_at_call 123;refine yaj j.o ?_;rintro e am ⟨rfl,X⟩;obtain rfl:=X.symm);go_upto_region 5 with (go_at_call 123;refine yaj af.o ?_;rintro e am ⟨rfl,X⟩;obtain rfl:=X.symm);clear af;rcases aq with⟨c,p⟩|⟨ar,x⟩
 ·exact xgy
 obtain⟨av,ap⟩:=bv.o ar x rfl;have bz:¬((x:Int)<0):=xaa;go_upto_region 8 with (go_at_call 112;refine yaj Z.o ?_;rintro e am ⟨rfl,ba,bb,bc,bo,J,aG⟩);have cp:V _:=cx.o ar x rfl am ba bb bc bo J aG;have bV:V _:=aG;clear Z cx J aG;rcases aT with⟨c,p⟩|⟨aW,y⟩
 ·exact xgb
 obtain⟨bx,bp⟩:=bW.o ar x rfl aW y rfl;exact qgo):Zp:=h
theorem bV.qex(h:Zp:=by
 simp only at c1 aM v aC;cases aa:jT aW [x,y] w with
 |error f=>
  obtain⟨c,p⟩:=f;rw[aa]at v;have R:V _:=aC.o.trans (AX aa);clear aa aC;go_wp2_with (go_at_call 124;refine yaj v.o ?_;rintro e bA ⟨rfl,bm⟩);go_ret;rw[R.o];exact⟨rfl,bm.1,bm.2.1,bQ.o.bad bm.2.2⟩
 |ok q=>
  obtain⟨bJ,Y⟩:=q;rw[aa]at v;have R:V (r=_):=aC.o.trans (De aa);obtain⟨G,b8,nn,au⟩:=lF aI.o.g [x,y] w ao.o aa;clear aa aC
  obtain⟨d,n,rfl⟩:∃a b,Y=[a,b]:=by
   match Y,b8 with
   |[a,b],_=>exact⟨a,b,rfl⟩
  have ak:=(au d xac).1;have F:=(au n xac).1;go_upto_region 14 with (go_at_call 124;refine yaj v.o ?_;rintro e bA ⟨cX,dc,rfl,aJ,y2,y3,y4,ab,bK,a8⟩);have K:=U.o bA _ (bQ.o.trans bK);obtain⟨b0,cv,bg,ck,a6⟩:=ab.lenc ak;obtain⟨be,of,ah,a2,ai,co⟩:=a8.at_ xac;subst bg ah;have aw:V (∀H,Kept 0 0 bA H->H.cell? ⟨g,off+k*3,none⟩=some (eK bk)/\H.cell? ⟨g,off+k*3+1,none⟩=some (h1 w)/\H.cell? ⟨P,1,none⟩=some (h0 b0 bJ.vs.length cv)/\H.cell? ⟨b0,d*6+1,none⟩=some (h1 (eW bJ d))/\H.cell? ⟨be,of,none⟩=some (h1 (d:Nat))/\H.cell? ⟨be,of+1,none⟩=some (h1 (n:Nat))):=λH aj=>⟨(aj.cell (p:=⟨g,off+k*3,none⟩) K.lt xaa).trans (by have:=K.c0 k O;rw[aS.o]at this;exact this),(aj.cell (p:=⟨g,off+k*3+1,none⟩) K.lt xaa).trans (by have:=K.c1 k O;rw[aS.o]at this;exact this),(ab.keep aj).c1,(aj.cell (p:=⟨b0,d*6+1,none⟩) ck xaa).trans a6,(aj.cell (p:=⟨be,of,none⟩) ai xaa).trans (co 0 xac),(aj.cell (p:=⟨be,of+1,none⟩) ai xaa).trans (co 1 xac)⟩
  have al:V (∀H,Kept 0 0 bA H->Calls prog 115 #[hZ P,(eJ (qL bk) (eW bJ d) (d:Nat) (n:Nat) 0).agg,h1 w] H λe z=>(∃x:Int,e=.returned (h1 x))/\V (TrO W P I u1 u2 u3 u4 bs r e z)):=λH aj=>yaj (mn (ab.keep aj) G.g (eJ (qL bk) (eW bJ d) (d:Nat) (n:Nat) 0) (G.g.lenB ak) yah w) (λe z t=>⟨t.ret,by
   show TrO W P I u1 u2 u3 u4 bs r e z
   rw[R.o]
   exact TrO.after ((bQ.o.trans bK).keep aj) t⟩)
  have bI:=G.g.n;have T:V _:=λH=>GU bk H;generalize eW bJ d=l at aw al;generalize qL bk=ds at T al;generalize bJ.vs.length=N at*;clear a6 co K ab bK a8 G au v R bQ U aI ao c1 aM j b8 a2 ai ck aS;have q:=λx:KW bA=>aw.o _ x.k;refine wN (C:=λB=>∃x:KW bA,B=x.v) 30 (by kernel_rfl) (by kernel_rfl) ⟨⟨bA.drew,eF _⟩,rfl⟩ ?_;simp only[List.take_succ_cons,List.take_zero,List.drop_succ_cons,List.drop_zero]
  repeat (go_big_quiet_step (first
   |(go_at_call 125;exact yaj (T.o _) λe B h=>⟨h.1,⟨_,h.2⟩⟩)
   |(go_at_call 79;exact yaj (gG _ _ _ _ _ _) λe B h=>⟨h.1,⟨⟨B,(KW.k _).trans h.2⟩,rfl⟩⟩)))
  refine wpQuiet_nil ?_;rintro bD ⟨x,rfl⟩;go_wp2_with (go_at_call 115;refine yaj (al.o _ x.k) ?_;rintro e cd ⟨⟨cU,rfl⟩,bm⟩);go_ret;exact bm.o):Zp:=h
theorem bV.qgp(h:Zp:=by
 have an:=U.o aU _ ag;have cj:=yak ap bx.n;have bj:=eA 0 0 aU (.cells #[h1 x,h1 y] 3);have v:V _:=Aj (aO.keep bj) bx.g _ 2 2 [x,y] (I6 aO.far x y) xaa (by intro i hi;simp at hi;rcases hi with rfl|rfl<;>assumption) (ts.getD k ih).pos;have aC:V (r=qM aW (ts.getD k ih) x y):=HR.o;have bQ:V _:=ag.keep bj;have aI:V _:=bx;have ao:V (∀i∈[x,y],i<aW.vs.length):=by intro i hi;simp at hi;rcases hi with rfl|rfl<;>assumption
 have c1:=an.c1 k O;have aM:(aU.alloc (.cells #[h1 x,h1 y] 3)).cell? ⟨g,off+k*3+1,none⟩=_:=(bj.cell (p:=⟨g,off+k*3+1,none⟩) an.lt xaa).trans c1;exact qew):Zp:=h
open bV in
theorem E0{W u}(ad:TrIn W P I u1 u2 u3 u4 bs st a5 Q u g off m cap ts)(k)(O:k<m)(bM:k+1<m)(ax:opM [43] [45] ts=-1)(b4:opM [42] [47] ts=(k:Int))(aq aT)(br:RsG st aq)(bh:∀ar x,aq=.ok (ar,x)->RsG ar aT)
  (b2:Calls prog 112 #[hZ P,.slice a5 Q cL,.slice (some ⟨g,off,none⟩) k cap] W (TrO W P I u1 u2 u3 u4 bs aq))
  (bO:∀ar x,aq=.ok (ar,x)->∀H ba bb bc bo,WS H P I ba bb bc bo bs ar->Mv (Mst P u1 u2 u3 u4) W (Mst P ba bb bc bo) H->Calls prog 112 #[hZ P,.slice a5 Q cL,.slice (some ⟨g,off+(k+1)*3,none⟩) (m-(k+1)) (cap-(k+1))] H (TrO H P I ba bb bc bo bs aT)):
  Calls prog 112 #[hZ P,.slice a5 Q cL,.slice (some ⟨g,off,none⟩) m cap] W (TrO W P I u1 u2 u3 u4 bs (I5 (ts.getD k ih) aq aT)):=by
 have j:V _:=fC W g off m cap ts ad.tk ad.m5 [43] [45];have af:V _:=fC W g off m cap ts ad.tk ad.m5 [42] [47];rw[ax]at j;rw[b4]at af;clear b4 ax;have cl:=ad.m5;have ae:=ad.mc;have U:V (∀H M',Mv (Mst P u1 u2 u3 u4) W M' H->_):=λH M' aj=>ad.tk.keepC aj.chg ad.tg;exact qcg
end
section
open Go.RowKit Flt
variable{r:Rs (LSt×Nat)}
theorem wO{f st u o a b}(h:eM (f+1) st u (.bin o a b)=some r):∃aq aT,eM f st u a=some aq/\(∀ar x,aq=.ok (ar,x)->eM f ar u b=some aT)/\r=I5 o aq aT:=by
 rw[eM]at h;cases F:eM f st u a with
 |none=>rw[F]at h;cases h
 |some aq=>
  rw[F]at h;rcases aq with⟨c,p⟩|⟨ar,x⟩
  ·cases h;exact⟨_,.error (c,p),rfl,λ_ _ e=>(by cases e),rfl⟩
  simp only[ju]at h;cases h2:eM f ar u b with
  |none=>grind
  |some aT=>
   rw[h2]at h;refine⟨.ok (ar,x),aT,rfl,λ_ _ e=>(by cases e;exact h2),?_⟩;rcases aT with⟨c,p⟩|⟨aW,y⟩
   ·cases h;rfl
   cases h;rfl
theorem I7(ts us o):(ts++o::us).getD ts.length ih=o:=by
 simp_all
theorem iZ{n es ts}(h:Pr n es ts):0<ts.length:=by
 induction h<;>grind
section
variable{f:Nat}{W:World}{P I:Nat}{u1 u2 u3 u4:Value}{bs:List Bc}{st:LSt}{a5:Option Addr}{Q cL:Nat}{u:Loc}{g off m cap:Nat}{ts us:List Tok}{o:Tok}{a b:Ex}{r:Rs (LSt×Nat)}
theorem wQ(N:TrC f)(ad:TrIn W P I u1 u2 u3 u4 bs st a5 Q u g off m cap (ts++o::us)){Z ae}(az:Pr Z [a] ts)(hb:Pr ae [b] us)(F:Z<=2)(h2:ae<=2){aq aT}(af:eM f st u a=some aq)(bg:∀ar x,aq=.ok (ar,x)->eM f ar u b=some aT):
  RsG st aq/\(∀ar x,aq=.ok (ar,x)->RsG ar aT)/\
  Calls prog 112 #[hZ P,.slice a5 Q cL,.slice (some ⟨g,off,none⟩) ts.length cap] W (TrO W P I u1 u2 u3 u4 bs aq)/\
  (∀ar x,aq=.ok (ar,x)->∀H ba bb bc bo,WS H P I ba bb bc bo bs ar->Mv (Mst P u1 u2 u3 u4) W (Mst P ba bb bc bo) H->Calls prog 112 #[hZ P,.slice a5 Q cL,.slice (some ⟨g,off+(ts.length+1)*3,none⟩) (m-(ts.length+1)) (cap-(ts.length+1))] H (TrO H P I ba bb bc bo bs aT)):=by
 have ao:=ad.tk.len;rw[yal,yaq]at ao;have bX:=ad.mc;have bS:=jm az (λt ht=>ad.ti t (by simp[ht])) a xac;have ck:=jm hb (λt ht=>ad.ti t (by simp[ht])) b xac;have b5:=fX f st u a ad.gd ad.nm ad.lo bS aq af;refine⟨b5,λar x e=>?_,?_,λar x e H ba bb bc bo X bJ=>?_⟩
 ·have w:=(b5 ar x e).1;exact fX f ar u b w.g (ad.nm.gw w) (ad.lo.le w.n) ck aT (bg ar x e)
 ·have h:=ad.sub ad.ws (Gw.refl ad.gd) (Mv.refl _ W) 0 ts.length xaa ts xac (cap':=cap) xaa;rw[Nat.zero_mul,Nat.add_zero,Nat.sub_zero]at h;exact N W P I u1 u2 u3 u4 bs st a5 Q cL u g off ts.length cap ts h Z a az F aq af
 have h:=ad.sub X (b5 ar x e).1 bJ (ts.length+1) m yad us (by
  rw[List.drop_append,List.drop_of_length_le xaa,show ts.length+1-ts.length=1 by omega,List.nil_append,List.drop_succ_cons,List.drop_zero,yap xaa]) (cap':=cap-(ts.length+1)) xaa
 exact N H P I ba bb bc bo bs ar a5 Q cL u g _ _ _ us h ae b hb h2 aT (bg ar x e)
theorem I8(N:TrC f)(ad:TrIn W P I u1 u2 u3 u4 bs st a5 Q u g off m cap (ts++o::us))(az:Pr 2 [a] ts)(ho:o.sym=[43]\/o.sym=[45])(hb:Pr 1 [b] us)(h:eM (f+1) st u (.bin o a b)=some r):
  Calls prog 112 #[hZ P,.slice a5 Q cL,.slice (some ⟨g,off,none⟩) m cap] W (TrO W P I u1 u2 u3 u4 bs r):=by
 obtain⟨aq,aT,af,bg,rfl⟩:=wO h;obtain⟨bk,p2,a6,l⟩:=wQ (cL:=cL) N ad az hb xaa xaa af bg;have ao:=ad.tk.len;rw[yal,yaq]at ao;have ai:=iZ hb;have t:=EY ad _ xaa xaa (Ns az ho hb) _ _ bk p2 a6 l;rw[I7]at t;exact t
theorem Ja(N:TrC f)(ad:TrIn W P I u1 u2 u3 u4 bs st a5 Q u g off m cap (ts++o::us))(az:Pr 1 [a] ts)(ho:o.sym=[42]\/o.sym=[47])(hb:Pr 0 [b] us)(h:eM (f+1) st u (.bin o a b)=some r):
  Calls prog 112 #[hZ P,.slice a5 Q cL,.slice (some ⟨g,off,none⟩) m cap] W (TrO W P I u1 u2 u3 u4 bs r):=by
 obtain⟨aq,aT,af,bg,rfl⟩:=wO h;obtain⟨bk,p2,a6,l⟩:=wQ (cL:=cL) N ad az hb xaa xaa af bg;have ao:=ad.tk.len;rw[yal,yaq]at ao;have ai:=iZ hb;have t:=E0 ad _ xaa xaa (FN (Pr.mul az ho hb)) (Nt az ho hb) _ _ bk p2 a6 l;rw[I7]at t;exact t
end
theorem E4{f st u o a}(h:eM (f+1) st u (.neg o a)=some r):∃aq,eM f st u a=some aq/\r=Px o.pos aq:=by
 exact xcy
section
variable{f:Nat}{W:World}{P I:Nat}{u1 u2 u3 u4:Value}{bs:List Bc}{st:LSt}{a5:Option Addr}{Q cL:Nat}{u:Loc}{g off m cap:Nat}{ts:List Tok}{o t:Tok}{a:Ex}{r:Rs (LSt×Nat)}
theorem E5(ad:TrIn W P I u1 u2 u3 u4 bs st a5 Q u g off m cap [t])(ht:t.sym=gH)(h:eM (f+1) st u (.name t)=some r):
  Calls prog 112 #[hZ P,.slice a5 Q cL,.slice (some ⟨g,off,none⟩) m cap] W (TrO W P I u1 u2 u3 u4 bs r):=by
 rw[eM]at h;have e:r=I3 st _:=(h8 h).symm;have k:=B7 (cL:=cL) ad (Pr.name ht) ht ad.tk.len.symm;rw[e];exact k
theorem Jb(N:TrC f)(ad:TrIn W P I u1 u2 u3 u4 bs st a5 Q u g off m cap (o::ts))(ho:o.sym=[45])(az:Pr 0 [a] ts)(h:eM (f+1) st u (.neg o a)=some r):
  Calls prog 112 #[hZ P,.slice a5 Q cL,.slice (some ⟨g,off,none⟩) m cap] W (TrO W P I u1 u2 u3 u4 bs r):=by
 obtain⟨aq,af,rfl⟩:=E4 h;have ao:=ad.tk.len;rw[yaq]at ao;have ai:=iZ az;have bX:=ad.mc;have bS:=jm az (λt ht=>ad.ti t (by simp[ht])) a xac;refine EX ad (Pr.neg ho az) ho xaa _ (fX f _ _ a ad.gd ad.nm ad.lo bS _ af) (λH k=>?_)
 have aw:=ad.sub (ad.ws.keep k) (Gw.refl ad.gd) (Mv.of k) 1 m yad _ (by
  rw[List.drop_succ_cons,List.drop_zero,yap xaa]) (cap':=cap-1) xaa
 exact N _ P I _ _ _ _ _ _ _ _ _ _ g _ _ _ _ aw 0 a az xaa _ af
theorem Jc{l q}(ad:TrIn W P I u1 u2 u3 u4 bs st a5 Q u g off m cap (l::(ts++[q])))(ai:l.sym=[40])(az:Pr 2 [a] ts)(aA:q.sym=[41])
  (N:∀H,TrIn H P I u1 u2 u3 u4 bs st a5 Q u g (off+3) (m-2) (cap-1) ts->Calls prog 112 #[hZ P,.slice a5 Q cL,.slice (some ⟨g,off+3,none⟩) (m-2) (cap-1)] H (TrO H P I u1 u2 u3 u4 bs r)):
  Calls prog 112 #[hZ P,.slice a5 Q cL,.slice (some ⟨g,off,none⟩) m cap] W (TrO W P I u1 u2 u3 u4 bs r):=by
 have ao:=ad.tk.len;rw[yaq,yal,List.length_singleton]at ao;have bX:=ad.mc;refine EW ad (Pr.par ai az aA) ai xaa r (λH k=>?_)
 have aw:=ad.sub (ad.ws.keep k) (Gw.refl ad.gd) (Mv.of k) 1 (m-1) xaa _ (by
  rw[List.drop_succ_cons,List.drop_zero,List.take_append_of_le_length xaa,yap xaa]) (cap':=cap-1) xaa
 rw[show m-1-1=m-2 by omega]at aw;exact yaj (N _ aw) (λe z t=>TrO.back k t)
end
end
section
open Go.RowKit Flt
attribute[local go_sem] eE eD eC
variable{w:World}{U aa:Option Addr}{m1 af cap m3 ah base a0 i j aj:Nat}{vs:List Vl}{a5 bj X bz S d br:Int}{bD:Nat}
theorem Z.qau(h:Zp:=by
 unfold PtC;have a:V _:=m;clear m;go_enter func139,ntmps139;go_wp2_with fail;rw[a7.o];clear aw ba bb bc bo aF a7;refine fh (OK Y xaa hj a.o ?_);exact no_implicit_lambda% xah):Zp:=h
open Z in
theorem Py(ad:MvH w cap base a0 i vs ⟨9,a5,(j:Int),X,bz,bD⟩)(hj:j<vs.length)(m:(vs.getD j h9).len=S):PtC w U aa m1 af cap m3 ah base a0 i vs 0 d ([eJ 10 S d 0 0],((vs.length:Nat):Int)) true:=by
 exact qat
theorem E.qaj(h:Zp:=by
 refine fh (NX Y xaa ?_);exact no_implicit_lambda% xah):Zp:=h
open E in
theorem Mn(ad:MvH w cap base a0 i vs ⟨10,a5,bj,X,bz,bD⟩):PtC w U aa m1 af cap m3 ah base a0 i vs 0 d ([eJ 9 1 d 0 0],((vs.length:Nat):Int)) true:=by
 exact qai
theorem aA.qau(h:Zp:=by
 unfold PtC;have a:V _:=m;clear m;go_enter func139,ntmps139;go_wp2_with fail;rw[a7.o];clear aw ba bb bc bo aF a7;refine fh (N9 Y xaa hj a.o ?_);exact no_implicit_lambda% xah):Zp:=h
open aA in
theorem Mo(ad:MvH w cap base a0 i vs ⟨11,a5,(j:Int),X,bz,bD⟩)(hj:j<vs.length)(m:(vs.getD j h9).len=S):PtC w U aa m1 af cap m3 ah base a0 i vs 0 d ([eJ 12 S d 0 bz],((vs.length:Nat):Int)) true:=by
 exact qat
end
section
open Go.RowKit Flt
theorem Pz(w U aa m1 af cap m3 ah base a0 i vs v S k d)(h:w.ownsRow base 86 6 (h0 a0 vs.length cap) vs.length (fN vs))(hb:base<=w.heap.size)(ag:vs.length<=800000)(hi:i<vs.length)(aN:At w a0 (i*6) v)
  (b4:0<=v.op/\v.op<=13) (O:k<cnt v.op) (m:(v.op=9\/v.op=11)->∃j:Nat,v.a=(j:Int)/\j<vs.length/\(vs.getD j h9).len=S):
  Calls prog 139 #[eX U m1 af (some ⟨a0,0,none⟩) vs.length cap aa m3 ah,h1 i,h1 k,h1 d] w λe B=>PtP w U m1 af aa m3 ah vs base (some a0) (ptM (i:Int) v S k d vs.length) (pG v k) e B:=by
 obtain⟨o,a5,bj,X,bz,bD⟩:=v;have ad:MvH w _ _ _ i _ _:=⟨h,hb,ag,hi,aN⟩
 clear h hb ag hi aN;simp only at b4 O m;have al:o=2\/o=3\/o=4\/o=5\/o=6\/o=7\/o=8\/o=9\/o=10\/o=11\/o=12\/o=13:=by grind[cnt]
 rcases al with rfl|rfl|rfl|rfl|rfl|rfl|rfl|rfl|rfl|rfl|rfl|rfl
 ·have e:ptM i ⟨2,a5,bj,X,bz,bD⟩ S k d vs.length=([],d):=by simp[ptM,nD,pG]
  rw[e,show pG _ k=true by simp[pG]];exact N1 ad
 ·rcases (by have:cnt 3=2:=rfl;omega:k=0\/k=1) with rfl|rfl
  ·exact Kg ad
  exact Kh ad
 ·have e:ptM i ⟨4,a5,bj,X,bz,bD⟩ S k d vs.length=([eJ 4 a5 d (fld ⟨4,a5,bj,X,bz,bD⟩ (1-k)) 0],(vs.length:Int)):=by
   rcases (by have:cnt 4=2:=rfl;omega:k=0\/k=1) with rfl|rfl<;>rfl
  rw[e,show pG _ k=true by simp[pG]];exact N3 ad O rfl
 ·rcases (by have:cnt 5=2:=rfl;omega:k=0\/k=1) with rfl|rfl
  ·exact Kj ad
  exact Kk ad
 ·obtain rfl:k=0:=by have:cnt 6=1:=rfl;omega
  exact N2 ad
 ·rcases (by have:cnt 7=2:=rfl;omega:k=0\/k=1) with rfl|rfl
  ·exact L9 ad
  exact Ma ad
 ·rcases (by have:cnt 8=3:=rfl;omega:k=0\/k=1\/k=2) with rfl|rfl|rfl
  ·exact Ki ad
  ·exact Mc ad
  exact Md ad
 ·obtain rfl:k=0:=by have:cnt 9=1:=rfl;omega
  obtain⟨j,rfl,hj,ai⟩:=m (.inl rfl);exact Py ad hj ai
 ·obtain rfl:k=0:=by have:cnt 10=1:=rfl;omega
  exact Mn ad
 ·obtain rfl:k=0:=by have:cnt 11=1:=rfl;omega
  obtain⟨j,rfl,hj,ai⟩:=m (.inr rfl);exact Mo ad hj ai
 ·obtain rfl:k=0:=by have:cnt 12=1:=rfl;omega
  exact N8 ad
 obtain rfl:k=0:=by have:cnt 13=1:=rfl;omega
 exact N4 ad
