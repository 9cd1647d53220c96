import Derived.Test.YtaheilbiakhlgaaGreatP24
import Derived.Test.YtaheilbiakhlgaaGreatP33
namespace Go.Proofs.Z
variable{Zp:Prop}
open Tryz
set_option maxRecDepth 1000000
set_option maxHeartbeats 0
section
open Go.RowKit Flt
attribute[local go_sem] eF eE eD
variable{P I bn g cL off m cap:Nat}{u1 u2 u3 u4 ba bc z aa:Value}{bs:List Bc}{st:LSt}{bC:Option Addr}{W':World}{u:Loc}{ts:List Tok}{e:Ex}
theorem bD.qbq(h:Zp:=by
 have j:V (mq _ ⟨[112,117,116],_,S⟩ a n ab=if fe st a≠1 then .error (4,K)
  else if iC _<1\/1000<iC _ then .error _
  else if iC _<=iC _ then .error _ else gh _ _ K):=rfl
 have ci:=H.len a F;change 1<=fe _ a/\fe _ a<=1000 at ci;have bp:V _:=h;have au:V _:=aU;have co:V _:=aD;obtain⟨bx,cap,a0,b9,-⟩:=h.lenc F
 have HL:V (∀W',Kept 0 0 W W'->W'.cell? _=some (.slice _ _ _)/\W'.cell? _=some _/\(W'.cell? _=some _/\W'.cell? _=some _/\W'.cell? _=some _/\W'.cell? _=some _)/\(W'.cell? _=some _/\W'.cell? _=some _/\W'.cell? _=some _/\W'.cell? _=some _)):=λW' al=>by
  obtain⟨aC,aT,aj,_,c3⟩:=(bp.o.keep al).lenc F
  rw[a0]at aj
  cases aj
  exact⟨(bp.o.keep al).c1.trans (congrArg some a0),c3,(au.o.keep al).cells,(co.o.keep al).cells⟩
 generalize mq _ _ a n _=r at j⊢;generalize fe _ a=l at ci HL j;generalize w:st.vs.length=bK at*;clear w h aU aD H aY aQ bp au co a0 b9;unfold i7 at bU ao⊢;obtain⟨bR,Z,J⟩:=n;obtain⟨Q,i,X⟩:=ab;simp only at bU ao hb aw HL j⊢;generalize iC _=m at*;generalize iC _=s at*;exact qfm):Zp:=h
theorem bD.qfn(h:Zp:=by
 obtain⟨aR,aV,⟨bY,ce,cl,cV⟩,bq,bD,bg,C⟩:=HL.o _ HK.o;exact qhk):Zp:=h
theorem bD.qhl(h:Zp:=by
 clear aR aV bY ce cl cV bq bD bg C a9 aH HK an bU;obtain⟨aR,aV,⟨bY,ce,cl,cV⟩,bq,bD,bg,C⟩:=HL.o _ bN.o;have a9:=y.o.c0;have N:=y.o.c1;by_cases B:l=1
 ·subst B;have f:V _:=j.o.trans (hG xac);clear j;go_upto_region 14 with (go_at_call 105;refine yai (ao.o _) ?_;rintro e a8 ⟨rfl,aJ⟩);have bX:V _:=bN.o.trans aJ;have ch:V _:=y.o.keep aJ;clear aR aV bY ce cl cV bq bD bg C a9 N y bN aJ ao;obtain⟨aR,aV,⟨bY,ce,cl,cV⟩,bq,bD,bg,C⟩:=HL.o _ bX.o;have a9:=ch.o.c0;have N:=ch.o.c1;clear HL;by_cases U:s<1
  ·have R:V _:=f.o.trans (hI (.inl U));exact xdv
  by_cases h3:1000<s
  ·have R:V _:=f.o.trans (hI (.inr h3));exact xdv
  have b8:V _:=f.o.trans (hG xaa);clear f;by_cases a6:s<=m
  ·have R:V _:=b8.o.trans (hI a6);exact xdv
  have R:V _:=b8.o.trans (hG a6);have cd:V _:=λW' al=>ak.o W' (eK 12 _ a 0 m) al (by show 1<=s/\s<=1000;omega) yag;go_upto_region 18 with fail
  go_region_with (first
   |(go_at_call 39;refine yai (gS _ _ _ _ _ _) ?_;rintro e bj ⟨rfl,b7⟩;have G:=(ch.o.keep ((eG _).trans b7)).c1)
   |(go_at_call 106;refine yai (cd.o _ (bX.o.trans ((eG _).trans b7))) ?_;rintro e bF ⟨⟨x,rfl⟩,bh⟩))
  all_goals (go_wp2_with fail;go_ret;rw[R.o];exact bh.o)
 have R:V _:=j.o.trans (hI B);have bf:=yaw B;clear HL;go_wp2_with (first|(go_at_call 102;refine yai (bT.o _ _ bN.o) ?_;rintro e bj ⟨rfl,aI⟩)|fail);exact xez):Zp:=h
open bD in
theorem GG{W}(h:WS W P I u1 u2 u3 u4 bs st)(H:Gd st)(k)(O:k.sym=CS)(a)(F:a<st.vs.length)(n)(aY:Dgs n.text){bz aB b0 q o c}(cx:3<=aB)(aU:Sg1 W bz 1 q o c n)(ab)(aQ:Dgs ab.text){aP bO c2}(aD:Sg1 W bz 2 aP bO c2 ab):
  Calls prog 155 #[hD P,i7 k,hF a,hE bz aB b0] W (TrO W P I u1 u2 u3 u4 bs (mq st k a n ab)):=by
 obtain⟨ae,K,S⟩:=k;simp only at O;subst O;unfold CS;have bU:V _:=λW'=>yR n aY W';have ao:V _:=λW'=>yR _ aQ W';have bB:=H.n;have hb:=pN aY yad;rw[List.take_length]at hb;have aw:=pN aQ yad;rw[List.take_length]at aw;have aH:V _:=im W [112,117,116] K S;have HK:V _:=ez 0 0 W (.cells #[eO [112,117,116],hF K,eO S] 89);exact qbp
structure TrIn(W:World)(P B:Nat)(u1 u2 u3 u4:Value)(bs:List Bc)(st:LSt)(aL:Option Addr)(nL:Nat)(loc:Loc)(g off m cap:Nat)(ts:List Tok):Prop where
 ws:WS W P B u1 u2 u3 u4 bs st
 gd:Gd st
 nm:NmOK st
 lc:LcR (Mst P u1 u2 u3 u4) W aL nL loc
 ln:nL<=5000
 lo:LcOK loc st.vs.length
 tk:TkA W g off m ts
 tg:¬Mst P u1 u2 u3 u4 g
 m5:m<=5000
 mc:m<=cap
 ti:∀t∈ts,t.sym=iE->Dgs t.text
 tn:∀t∈ts,(t.sym=iE\/t.sym=kZ)->kN t.text
def TrC(f:Nat):Prop:=∀(W:World) (P B:Nat) (u1 u2 u3 u4:Value) (bs:List Bc) (st:LSt) (aL:Option Addr) (nL cL:Nat) (loc:Loc) (g off m cap:Nat) (ts:List Tok),TrIn W P B u1 u2 u3 u4 bs st aL nL loc g off m cap ts->∀(n:Nat) (e:Ex),Pr n [e] ts->n<=2->∀r,eP f st loc e=some r->
 Calls prog 103 #[.pointer (some ⟨P,0,none⟩),.slice aL nL cL,.slice (some ⟨g,off,none⟩) m cap] W (TrO W P B u1 u2 u3 u4 bs r)
theorem TkA.in_{w n}(h:TkA w g off n ts)(i j us)(aI:us=(ts.drop i).take (j-i))(hj:j<=n):TkA w g (off+i*3) (j-i) us:=by subst aI;exact h.cut hj
theorem TrIn.sub{W}(h:TrIn W P I u1 u2 u3 u4 bs st bC bn u g off m cap ts){N}(X:WS W' P I ba bc z aa bs N)(w:Gw st N)(k:Mv (Mst P u1 u2 u3 u4) W (Mst P ba bc z aa) W')(i j)(hj:j<=m)(us)(aI:us=(ts.drop i).take (j-i)){cap'}(ak:j-i<=cap'):TrIn W' P I ba bc z aa bs N bC bn u g (off+i*3) (j-i) cap' us where
 ws:=X
 gd:=w.g
 nm:=h.nm.gw w
 lc:=h.lc.mv k
 ln:=h.ln
 lo:=h.lo.le w.n
 tk:=(h.tk.keepC k.chg h.tg).in_ i j us aI hj
 tg:=λc=>(k.new g c).elim h.tg (λc=>hO h.tk.lt)
 m5:=hO h.m5
 mc:=ak
 ti:=λt ht=>h.ti t (by grind)
 tn:=λt ht=>h.tn t (by grind)
theorem Dn{W}(H:TrIn W P I u1 u2 u3 u4 bs st bC bn u g off m cap ts)(aF:Pr 0 [e] ts)(ai:(ts.getD 0 hL).sym=[40])(U:2<=m)(r)
  (bg:∀W',Kept 0 0 W W'->Calls prog 103 #[hD P,.slice bC bn cL,.slice (some ⟨g,off+3,none⟩) (m-2) (cap-1)] W' (TrO W P I u1 u2 u3 u4 bs r)):
  Calls prog 103 #[hD P,.slice bC bn cL,.slice (some ⟨g,off,none⟩) m cap] W (TrO W P I u1 u2 u3 u4 bs r):=by
 have C:V _:=fZ W g _ m cap _ H.tk H.m5 [43] [45];have af:V _:=fZ W g _ m cap _ H.tk H.m5 [42] [47];rw[mI aF]at C af;have c0:=H.tk.c0 0 xaa;have c1:=H.tk.c1 0 xaa;have c2:=H.tk.c2 0 xaa;rw[ai]at c0;have bo:=H.m5;have aw:=H.mc;have Q:V (∀W',Kept 0 0 W _->Calls _ _ _ _ λe aA=>(∃x:Int,e=.returned _)/\V (TrO W P I _ _ _ _ _ r e _)):=λW' k=>yai (bg W' k) (λe aA t=>⟨t.ret,t⟩);generalize ts.getD 0 _=t at*;clear ai H aF bg;obtain⟨aO,aT,bv⟩:=t;simp only[Nat.zero_mul,Nat.add_zero]at c0 c1 c2;go_enter func103,ntmps103;go_upto_region 3 with (go_at_call 137;refine yai C.o ?_;rintro e ag ⟨rfl,X⟩;obtain rfl:=X.symm);go_upto_region 15 with (go_at_call 137;refine yai af.o ?_;rintro e ag ⟨rfl,X⟩;obtain rfl:=X.symm);go_upto_region 16 with fail;change Code.wp _ _ _ _ (W.alloc (.cells #[eO _,.int _ aT,eO _] 89));have aH:V _:=im W [40] aT bv;have HK:V _:=ez 0 0 W (.cells #[eO [40],hF aT,eO bv] 89);generalize W.alloc _=ay at aH HK⊢;generalize W.heap.size=bI at aH⊢;have a9:=aH.o.c0;have am:V _:=Q.o _ HK.o;clear c0 c1 c2 C af aH Q;go_wp2_with (go_at_call 103;refine yai am.o ?_;rintro e ag ⟨⟨x,rfl⟩,bh⟩);go_ret;exact bh.o
def GH(st:LSt)(q:Rs Nat):Rs (LSt×Nat):=match q with|.error f=>.error f|.ok v=>.ok (st,v)
theorem O.qaq(h:Zp:=by
 change Code.wp _ _ _ _ (W.alloc (.cells #[eO [110,97,109,101],hF aT,eO bv] 89));have aH:V _:=im W [110,97,109,101] aT bv;have HK:V _:=ez 0 0 W (.cells #[eO [110,97,109,101],hF aT,eO bv] 89);generalize W.alloc (.cells #[eO [110,97,109,101],hF aT,eO bv] 89)=ay at aH HK⊢;generalize W.heap.size=bI at aH⊢;have n:V _:=b1.o ay HK.o;obtain⟨a9,N,aD⟩:ay.cell? ⟨bI,0,none⟩=some (eO [110,97,109,101])/\ay.cell? ⟨bI,1,none⟩=some (hF aT)/\ay.cell? ⟨bI,2,none⟩=some (eO bv):=⟨aH.o.c0,aH.o.c1,aH.o.c2⟩
 clear c0 c1 c2 C af aH b1;generalize fJ st u ⟨[110,97,109,101],aT,bv⟩=q at n HR;rcases q with⟨c,p⟩|v
 ·exact xen
 go_wp2_with (go_at_call 140;refine yai n.o ?_;rintro e ag ⟨rfl,an⟩);go_ret;rw[HR.o];exact⟨rfl,u1,u2,u3,u4,bp.o.keep (HK.o.trans an),Mv.of (HK.o.trans an)⟩):Zp:=h
theorem O.qfc(h:Zp:=by
 have b1:V (∀W',Kept 0 0 W W'->_):=λW' k=>xy (H.ws.keep k) H.gd.m bC bn cL u (H.lc.keep k) H.ln (ts.getD 0 hL);have bp:V _:=H.ws;unfold gU at ai;generalize ts.getD 0 hL=t at*;clear H aF;obtain⟨aO,aT,bv⟩:=t;simp only at ai;subst ai;simp only[Nat.zero_mul,Nat.add_zero]at c0 c1 c2;obtain⟨r,av⟩:∃r,r=GH st (fJ st u ⟨[110,97,109,101],aT,bv⟩):=⟨_,rfl⟩
 rw[<-av];have HR:V _:=av;clear av;exact qap):Zp:=h
open O in
theorem AQ{W}(H:TrIn W P I u1 u2 u3 u4 bs st bC bn u g off m cap ts)(aF:Pr 0 [e] ts)(ai:(ts.getD 0 hL).sym=gU)(B:m=1):
  Calls prog 103 #[hD P,.slice bC bn cL,.slice (some ⟨g,off,none⟩) m cap] W (TrO W P I u1 u2 u3 u4 bs (GH st (fJ st u (ts.getD 0 hL)))):=by
 subst B;have C:V _:=fZ W g off 1 cap ts H.tk H.m5 [43] [45];have af:V _:=fZ W g off 1 cap ts H.tk H.m5 [42] [47];exact qfb
theorem WS.far{W}(h:WS W P I u1 u2 u3 u4 bs st):¬Mst P u1 u2 u3 u4 W.heap.size:=by
 exact xgs
theorem TrO.after{W0 ay r e}(k:Mv (Mst P u1 u2 u3 u4) W0 (Mst P ba bc z aa) ay)(h:TrO ay P I ba bc z aa bs r e W'):TrO W0 P I u1 u2 u3 u4 bs r e W':=by
 rcases r with⟨c,p⟩|⟨st,v⟩
 ·obtain⟨B,U,h3,a6⟩:=h;exact⟨B,U,h3,k.bad a6⟩
 obtain⟨B,aG,ag,a8,bj,U,h3⟩:=h;exact⟨B,_,_,_,_,U,k.trans h3⟩
theorem TB.keepC{W p s k x}(h:TB W p s k x){S}(c:Chg S W W')(aU:¬S p):TB W' p s k x:=
 ⟨yaj h.lt c.size,(c.cell (p:=⟨p,0,none⟩) h.lt aU).trans h.c0,(c.cell (p:=⟨p,1,none⟩) h.lt aU).trans h.c1,(c.cell (p:=⟨p,2,none⟩) h.lt aU).trans h.c2,λo=>(c.frozen (p:=⟨p,o,none⟩) h.lt aU).trans (h.fr o)⟩
def NK(p:Nat)(r:Rs (LSt×Nat)):Rs (LSt×Nat):=match r with|.error f=>.error f|.ok (s,a)=>gh s (eK 6 (fe s a) (a:Int) 0 0) p
theorem P.qaq(h:Zp:=by
 change Code.wp _ _ _ _ (W.alloc (.cells #[eO _,.int _ _,eO _] 89));have aH:V _:=im W [45] aT bv;have HK:V _:=ez 0 0 W (.cells #[eO [45],hF aT,eO bv] 89);generalize W.alloc _=ay at aH HK⊢;generalize W.heap.size=bI at aH aL⊢;have am:V _:=Q.o _ HK.o;have a9:=aH.o.c0;clear c0 c1 c2 C af Q;rcases az with⟨c,p⟩|⟨s,a⟩
 ·exact xfb
 obtain⟨w,F⟩:=bk.o s a rfl;go_upto_region 18 with (go_at_call 103;refine yai am.o ?_;rintro e ag ⟨rfl,ba,bc,z,aa,v,ar⟩);have y:V _:=aH.o.keepC ar.chg aL.o;obtain⟨bx,cv,a0,b9,bd⟩:=v.lenc F;have b0:=v.c1;subst a0
 have ak:V (∀W',Kept 0 0 _ W'->Calls _ _ _ _ λe aA=>(∃x:Int,e=.returned _)/\V (TrO W P I _ _ _ _ _ r e _)):=λW' al=>yai (ms (v.keep al) w.g (eK 6 (fe s a) _ 0 0) (w.g.lenB F) yag _) (λe aA t=>⟨t.ret,by
  show TrO W P I u1 u2 u3 u4 bs r e aA
  rw[HR.o]
  exact TrO.back HK.o (TrO.after (ar.keep al) t)⟩)
 have N:=y.o.c1;have bB:=w.g.n;generalize fe s a=l at bd ak;generalize s.vs.length=bK at*;clear v ar am aH HR bk w a9;go_upto_region 20 with fail;exact xep):Zp:=h
theorem P.qfc(h:Zp:=by
 have aL:V _:=H.ws.far;have Q:V _:=bg;have bk:V _:=bl;generalize ts.getD 0 _=t at*;clear H aF bg bl;obtain⟨aO,aT,bv⟩:=t;simp only at ai;subst ai;simp only[Nat.zero_mul,Nat.add_zero]at c0 c1 c2;obtain⟨r,av⟩:∃r,r=NK aT az:=⟨_,rfl⟩
 simp only;rw[<-av];have HR:V _:=av;clear av;exact qap):Zp:=h
open P in
theorem Do{W}(H:TrIn W P I u1 u2 u3 u4 bs st bC bn u g off m cap ts)(aF:Pr 0 [e] ts)(ai:(ts.getD 0 hL).sym=[45])(U:2<=m)(az)(bl:RsG st az)
  (bg:∀W',Kept 0 0 W W'->Calls prog 103 #[hD P,.slice bC bn cL,.slice (some ⟨g,off+3,none⟩) (m-1) (cap-1)] W' (TrO W' P I u1 u2 u3 u4 bs az)):
  Calls prog 103 #[hD P,.slice bC bn cL,.slice (some ⟨g,off,none⟩) m cap] W (TrO W P I u1 u2 u3 u4 bs (NK (ts.getD 0 hL).pos az)):=by
 have C:V _:=fZ W g _ m cap _ H.tk H.m5 [43] [45];have af:V _:=fZ W g _ m cap _ H.tk H.m5 [42] [47];exact qfb
end
section
open Go.RowKit
variable{P:Program}{bA:Array Oper}{m:Region.Mode}{C:World->Prop}{n:Nat}
def hdQ(P:Program)(md:Region.Mode)(ops:Array Oper)(C:World->Prop)(n:Nat)(L:Array Bool->Act->Prop):Nat->Array Bool->Act->Prop
 |0,l,a=>L l a
 |f+1,l,a=>Region.ready md ops l≠[]/\∀i∈Region.ready md ops l,i<n/\qOp P ops C i (hdQ P md ops C n L f (l.setIfInBounds i true)) a
theorem BU{g L Q}(bQ:∀l a w,C w->L l a->wpAny P m bA Q g l a w):∀f l a w,C w->hdQ P m bA C n L f l a->wpAny P m bA Q (f+g) l a w
 |0,l,a,w,X,h=>by rw[Nat.zero_add];exact bQ l a w X h
 |f+1,l,a,w,X,h=>by
  rw[Nat.add_right_comm]
  exact⟨λai=>absurd ai h.1,λi hi=>wpOp_of_qOp X (λag J e h'=>BU bQ f _ _ _ e h') (h.2 i hi).2⟩
theorem GI{i s v L}(hi:bA[i]? =some s)(p:Region.noSelect bA=true)(ae:Region.sinkB m bA n=true)(ak:Region.chainB m bA n=true)(hn:n<bA.size)(cz:i<n)(aY:∀l a,L l a->∀j∈Region.ready m bA l,n<=j):
  ∀f l a,HeadInv m bA n l->(∀j g,bA[j]? =some g->j≠i->l.getD j true=false->(∀e∈g.after,Region.binds m e=true->e.on≠i)->s.apart bA g=true)->i∈Region.ready m bA l->YieldsIn P bA C s v a->hdQ P m bA C n L f (l.setIfInBounds i true) (a.put s.dst v)->hdQ P m bA C n L (f+1) l a:=by
 intro f;induction f with
 |zero=>
  intro l a r _ av bS H;have o:∀j∈Region.ready _ _ l,j<n:=λj hj=>(Nat.lt_or_ge j n).resolve_right λh=>tail_waits ae ak hn r _ i rfl cz (mem_ready.1 av).1 j h hj;refine⟨λh=>(by grind),λj hj=>⟨o j hj,?_⟩⟩;by_cases e:j=i
  ·subst e;exact bS.qOp hi H
  exact absurd (aY _ _ H j (ready_mono hj e)) (Nat.not_le_of_lt (o j hj))
 |succ f al=>
  intro l a r a9 av bS H;have aI:=(mem_ready.1 av).1;have o:∀j∈Region.ready _ _ l,j<n:=λj hj=>(Nat.lt_or_ge j n).resolve_right λh=>tail_waits ae ak hn r _ i rfl cz aI j h hj;refine⟨λh=>(by grind),λj hj=>⟨o j hj,?_⟩⟩;by_cases e:j=i
  ·subst e;exact bS.qOp hi H
  obtain⟨bH,g,t,F⟩:=mem_ready.1 hj
  have ap:∀e∈g.after,Region.binds _ e=true->e.on≠i:=λe ad hb ao=>by
   have:=F e ad hb
   rw[ao,getD_both aI]at this
   cases this
  refine qOp_mono (λag h3=>al _ _ (r.set hj (o j hj)) (λk ok O u w au=>a9 k _ O u ?_ au) (ready_mono av (Ne.symm e)) h3.1 ?_) (qOp_put t (a9 j _ t e bH ap) (λcs b=>Region.noSelect_spec p i _ _ b hi) (λcs b=>Region.noSelect_spec p j _ _ b t) bS (H.2 j (ready_mono hj e)).2)
  ·by_cases q:j=k<;>simp_all<;>grind
  rw[Array.setIfInBounds_comm _ _ e];exact h3.2
theorem BV{g R}(p:Region.noSelect bA=true)(ae:Region.sinkB m bA n=true)(ak:Region.chainB m bA n=true)(hn:n<bA.size):
  ∀(l:List Oper) (k:Nat) (t:Array Bool) (a:Act),(∀j,j<l.length->l[j]? =bA[k+j]?)->k+l.length=n->HeadInv m bA n t->Region.lexHead m bA g l.length k t=true->wpQuiet P bA C R l a->hdQ P m bA C n (λi ag=>Region.seqB m bA g n i=true/\R ag) l.length t a
 |[],k,t,a,_,O,_,aT,h=>by
  obtain rfl:k=n:=O
  exact⟨aT,h⟩
 |o::l,k,t,a,ah,O,r,aT,h=>by
  have ai:bA[k]? =some o:=(ah 0 (Nat.zero_lt_succ _)).symm
  simp only[yap,Region.lexHead,Bool.and_eq_true]at aT O ah
  obtain⟨⟨av,a9⟩,f⟩:=aT
  have e:k∈Region.ready m bA t:=by grind
  have ao:qOp P bA C k (wpQuiet P bA C R l) a:=by unfold qOp;simp only[ai];exact h
  obtain⟨v,bS,ar⟩:=yieldsIn_of_qOp ai ao
  exact GI ai p ae ak hn xaa (λ_ _ q=>seqB_ready q.1) _ t a r (Region.free_spec ai a9) e bS (BV p ae ak hn l _ _ _ (λj hj=>by grind) xaa (r.set e xaa) f ar)
theorem vn{id Q a w}{l:List Oper}(n)(aw:P.follows .mixedOrders=true)(aT:Region.lexTailB .any l.toArray n=true)(al:C {w with drawn:=w.drawn+1})
  (h:wpQuiet P l.toArray C (λag=>∀J,C J->wpList P l.toArray Q (l.drop n) ag J) (l.take n) a):(Code.region id l.toArray true).wp P Q a w:=by
 simp only[Region.lexTailB,Bool.and_eq_true,decide_eq_true_eq]at aT;obtain⟨⟨⟨⟨p,hn⟩,ae⟩,ak⟩,ap⟩:=aT;have br:n<l.length:=xaa;have ht:(l.take n).length=n:=by grind
 have H:=BV p ae ak hn _ 0 (Array.replicate l.toArray.size _) a (λj hj=>by
  rw[ht]at hj
  simp[hj]) xaa ⟨by simp,λj g _ q=>(by rw[getD_replicate_false]at q;cases q),λt _ q=>getD_in (by simpa using q) (getD_replicate_false _ _)⟩ (hR ht ap) h
 refine wp_region_any aw ?_;have:=BU (Q:=Q) (g:=l.toArray.size-n) (λt ag J e q=>?_) _ _ _ _ al H
 ·rw[ht,Nat.add_sub_cancel' (Nat.le_of_lt hn)]at this;exact this
 have G:(l.drop n).length=l.toArray.size-n:=by simp
 rw[<-G];exact wpAny_of_seq _ n t _ _ (λj=>by simp) (by grind) (q.2 _ e)
structure KW(w:World) where
 v:World
 k:Kept 0 0 w v
instance (w:World):Nonempty (KW w):=⟨⟨w,.refl _ _ _⟩⟩
end
section
open Go.RowKit Flt
attribute[local go_sem] eF eE eD
variable{P I a b bn cL g off m cap:Nat}{u1 u2 u3 u4:Value}{st:LSt}{bs:List Bc}{bC:Option Addr}{ts:List Tok}
def GJ(o:Tok)(r1 r2:Rs (LSt×Nat)):Rs (LSt×Nat):=match r1 with
 |.error f=>.error f
 |.ok (_,x)=>match r2 with
  |.error f=>.error f
  |.ok (s2,y)=>qG s2 o x y
theorem zn{o f}(h:kj st [a,b] o.pos=.error f):qG st o a b=.error f:=by unfold qG;rw[h]
theorem BW{aN o f}(h:kj st [a,b] o.pos=.ok (aN,f)):qG st o a b=gh aN (eK (qF o.sym) (fe aN (f.getD 0 0)) (f.getD 0 0:Nat) (f.getD 1 0:Nat) 0) o.pos:=by unfold qG;rw[h]
theorem TrO.chg{W r e W'}(h:TrO W P I u1 u2 u3 u4 bs r e W'):Chg (Mst P u1 u2 u3 u4) W W':=by
 rcases r with⟨c,p⟩|⟨st,v⟩
 ·exact h.2.2.2
 obtain⟨_,_,_,_,_,_,k⟩:=h;exact k.chg
theorem GK{W:World}{M}(a9:¬M W.heap.size)(x y:Nat):XsR M (W.alloc (.cells #[hF x,hF y] 3)) (some ⟨W.heap.size,0,none⟩) 2 [x,y]:=by
 refine⟨rfl,λ_=>⟨_,0,rfl,a9,by simp,λk O=>?_⟩⟩;grind[yau]
theorem cG.qcm(h:Zp:=by
 have ek:(0:Int)<=k:=xaa;go_upto_region 5 with (go_at_call 137;refine yai C.o ?_;rintro e ag ⟨rfl,X⟩;obtain rfl:=X.symm);rcases az with⟨c,p⟩|⟨aq,x⟩
 ·exact xia
 obtain⟨ay,ap⟩:=bk.o _ x rfl;have a9:¬((x:Int)<0):=xaa;go_upto_region 8 with (go_at_call 103;refine yai s.o ?_;rintro e ag ⟨rfl,ba,bc,z,aa,v,ar⟩);have cO:V _:=cA.o _ x rfl _ _ _ _ _ v ar;have cr:V _:=ar;clear s cA v ar;rcases aZ with⟨c,p⟩|⟨aN,y⟩
 ·exact xhh
 obtain⟨bm,bS⟩:=cB.o _ x rfl _ y rfl;exact qho):Zp:=h
theorem cG.qfr(h:Zp:=by
 simp only at c1 d1 Q bP;cases au:kj aN [x,y] w with
 |error f=>
  obtain⟨c,p⟩:=f;rw[au]at Q;have R:V _:=bP.o.trans (zn au);clear au bP;go_wp2_with (go_at_call 138;refine yai Q.o ?_;rintro e bj ⟨rfl,bh⟩);go_ret;rw[R.o];exact⟨rfl,bh.1,bh.2.1,S.o.bad bh.2.2⟩
 |ok q=>
  obtain⟨bA,ab⟩:=q;rw[au]at Q;have R:V _:=bP.o.trans (BW au);obtain⟨ad,aI,nn,aM⟩:=lI aU.o.g _ _ ao.o au;clear au bP
  obtain⟨j,n,rfl⟩:∃a b,ab=[a,b]:=by
   match ab,aI with
   |[a,b],_=>exact⟨a,b,rfl⟩
  have ai:=(aM j xac).1;have B:=(aM n xac).1;go_upto_region 14 with (go_at_call 138;refine yai Q.o ?_;rintro e bj ⟨dd,eg,rfl,aR,aV,bY,ce,ax,a6,cp⟩);have o:=Y.o _ _ (S.o.trans a6);obtain⟨bx,cv,a0,b9,bd⟩:=ax.lenc ai;obtain⟨aT,of,aj,cc,an,ck⟩:=cp.at_ xac;subst a0 aj;have ae:V (∀W',Kept 0 0 _ W'->W'.cell? _=some (eO aG)/\W'.cell? _=some (.int _ w)/\W'.cell? _=some _/\W'.cell? _=some _/\W'.cell? ⟨_,of,_⟩=some (.int _ j)/\W'.cell? _=some (.int _ n)):=λW' al=>⟨(al.cell o.lt xaa).trans (by have:=o.c0 k O;rw[aL.o]at this;exact this),(al.cell o.lt xaa).trans (by have:=o.c1 k O;rw[aL.o]at this;exact this),(ax.keep al).c1,(al.cell b9 xaa).trans bd,(al.cell an xaa).trans (ck 0 xac),(al.cell an xaa).trans (ck 1 xac)⟩
  have ak:V (∀W',Kept 0 0 _ _->Calls _ _ _ W' λe aA=>(∃x:Int,e=.returned _)/\V (TrO W P I _ _ _ _ _ r e _)):=λW' al=>yai (ms (ax.keep al) ad.g (eK _ (fe bA _) j n 0) (ad.g.lenB ai) yag _) (λe aA t=>⟨t.ret,by
   show TrO W P I u1 u2 u3 u4 bs r e aA
   rw[R.o]
   exact TrO.after ((S.o.trans a6).keep al) t⟩)
  have bB:=ad.g.n;have F:V _:=λW'=>F3 aG W';generalize fe bA _=l at ae ak;generalize qF _=e2 at F ak;generalize bA.vs.length=bK at*;clear bd ck o ax a6 cp ad aM Q R S Y aU ao c1 d1 C aI cc an b9 aL;have q:=λx:KW _=>ae.o _ x.k;refine vn (C:=λJ=>∃x:KW bj,J=x.v) 30 (by kernel_rfl) (by kernel_rfl) ⟨⟨bj.drew,eG _⟩,rfl⟩ ?_;simp only[List.take_succ_cons,List.take_zero,List.drop_succ_cons,List.drop_zero]
  repeat (go_big_quiet_step (first
   |(go_at_call 139;exact yai (F.o _) λe J h=>⟨h.1,⟨_,h.2⟩⟩)
   |(go_at_call 39;exact yai (gS _ _ _ _ _ _) λe J h=>⟨h.1,⟨⟨_,(KW.k _).trans h.2⟩,rfl⟩⟩)))
  refine wpQuiet_nil ?_;rintro bF ⟨x,rfl⟩;go_wp2_with (go_at_call 106;refine yai (ak.o _ x.k) ?_;rintro e cf ⟨⟨ci,rfl⟩,bh⟩);go_ret;exact bh.o):Zp:=h
theorem cG.qhp(h:Zp:=by
 have ah:=Y.o _ _ Z;have bX:=yaj ap bm.n;have bE:=ez 0 0 a8 (.cells #[hF x,hF y] 3);have Q:V _:=yU (aJ.keep bE) bm.g _ 2 2 _ (GK aJ.far x y) xaa (by intro i hi;simp at hi;rcases hi with rfl|rfl<;>assumption) (ts.getD k hL).pos;have bP:V (r=qG _ _ x y):=HR.o;have S:V _:=Z.keep bE;have aU:V _:=bm;have ao:V (∀i∈[x,y],i<aN.vs.length):=by intro i hi;simp at hi;rcases hi with rfl|rfl<;>assumption
 have c1:=ah.c1 k O;have d1:(a8.alloc _).cell? _=_:=(bE.cell ah.lt xaa).trans c1;exact qfq):Zp:=h
open cG in
theorem Dp{W u}(H:TrIn W P I u1 u2 u3 u4 bs st bC bn u g off m cap ts)(k)(O:k<m)(bZ:k+1<m)(b7:opM [43] [45] ts=(k:Int))(az aZ)(bl:RsG st az)(bp:∀aq x,az=.ok (aq,x)->RsG aq aZ)
  (am:Calls prog 103 #[hD P,.slice bC bn cL,.slice (some ⟨g,off,none⟩) k cap] W (TrO W P I u1 u2 u3 u4 bs az))
  (bv:∀aq x,az=.ok (aq,x)->∀W' ba bc z aa,WS W' P I ba bc z aa bs aq->Mv (Mst P u1 u2 u3 u4) W (Mst P ba bc z aa) W'->Calls prog 103 #[hD P,.slice bC bn cL,.slice (some ⟨g,off+(k+1)*3,none⟩) (m-(k+1)) (cap-(k+1))] W' (TrO W' P I ba bc z aa bs aZ)):
  Calls prog 103 #[hD P,.slice bC bn cL,.slice (some ⟨g,off,none⟩) m cap] W (TrO W P I u1 u2 u3 u4 bs (GJ (ts.getD k hL) az aZ)):=by
 have C:V _:=fZ W g _ m cap _ H.tk H.m5 [43] [45];have af:V _:=fZ W g _ m cap _ H.tk H.m5 [42] [47];rw[b7]at C;clear af b7;have bo:=H.m5;have aw:=H.mc;have Y:V (∀W' M',Mv _ W M' W'->_):=λW' M' al=>H.tk.keepC al.chg H.tg;exact qcl
theorem cH.qcm(h:Zp:=by
 have ek:0<=(k:Int):=xaa;go_upto_region 3 with (go_at_call 137;refine yai C.o ?_;rintro e ag ⟨rfl,X⟩;obtain rfl:=X.symm);go_upto_region 5 with (go_at_call 137;refine yai af.o ?_;rintro e ag ⟨rfl,X⟩;obtain rfl:=X.symm);clear af;rcases az with⟨c,p⟩|⟨aq,x⟩
 ·exact xia
 obtain⟨ay,ap⟩:=bk.o aq x rfl;have a9:¬((x:Int)<0):=xaa;go_upto_region 8 with (go_at_call 103;refine yai s.o ?_;rintro e ag ⟨rfl,ba,bc,z,aa,v,ar⟩);have cO:V _:=cA.o aq x rfl ag ba bc z aa v ar;have cr:V _:=ar;clear s cA v ar;rcases aZ with⟨c,p⟩|⟨aN,y⟩
 ·exact xhh
 obtain⟨bm,bS⟩:=cB.o aq x rfl aN y rfl;exact qho):Zp:=h
theorem cH.qfr(h:Zp:=by
 simp only at c1 d1 Q bP;cases au:kj aN [x,y] w with
 |error f=>
  obtain⟨c,p⟩:=f;rw[au]at Q;have R:V _:=bP.o.trans (zn au);clear au bP;go_wp2_with (go_at_call 138;refine yai Q.o ?_;rintro e bj ⟨rfl,bh⟩);go_ret;rw[R.o];exact⟨rfl,bh.1,bh.2.1,S.o.bad bh.2.2⟩
 |ok q=>
  obtain⟨bA,ab⟩:=q;rw[au]at Q;have R:V (r=_):=bP.o.trans (BW au);obtain⟨ad,aI,nn,aM⟩:=lI aU.o.g [x,y] w ao.o au;clear au bP
  obtain⟨j,n,rfl⟩:∃a b,ab=[a,b]:=by
   match ab,aI with
   |[a,b],_=>exact⟨a,b,rfl⟩
  have ai:=(aM j xac).1;have B:=(aM n xac).1;go_upto_region 14 with (go_at_call 138;refine yai Q.o ?_;rintro e bj ⟨dd,eg,rfl,aR,aV,bY,ce,ax,a6,cp⟩);have o:=Y.o bj _ (S.o.trans a6);obtain⟨bx,cv,a0,b9,bd⟩:=ax.lenc ai;obtain⟨aT,of,aj,cc,an,ck⟩:=cp.at_ xac;subst a0 aj;have ae:V (∀W',Kept 0 0 bj W'->W'.cell? ⟨g,off+k*3,none⟩=some (eO aG)/\W'.cell? ⟨g,off+k*3+1,none⟩=some (hF w)/\W'.cell? ⟨P,1,none⟩=some (hE bx bA.vs.length cv)/\W'.cell? ⟨bx,j*6+1,none⟩=some (hF (fe bA j))/\W'.cell? ⟨aT,of,none⟩=some (hF (j:Nat))/\W'.cell? ⟨aT,of+1,none⟩=some (hF (n:Nat))):=λW' al=>⟨(al.cell (p:=⟨g,off+k*3,none⟩) o.lt xaa).trans (by have:=o.c0 k O;rw[aL.o]at this;exact this),(al.cell (p:=⟨g,off+k*3+1,none⟩) o.lt xaa).trans (by have:=o.c1 k O;rw[aL.o]at this;exact this),(ax.keep al).c1,(al.cell (p:=⟨bx,j*6+1,none⟩) b9 xaa).trans bd,(al.cell (p:=⟨aT,of,none⟩) an xaa).trans (ck 0 xac),(al.cell (p:=⟨aT,of+1,none⟩) an xaa).trans (ck 1 xac)⟩
  have ak:V (∀W',Kept 0 0 bj W'->Calls prog 106 #[hD P,(eK (qF aG) (fe bA j) (j:Nat) (n:Nat) 0).agg,hF w] W' λe aA=>(∃x:Int,e=.returned (hF x))/\V (TrO W P I u1 u2 u3 u4 bs r e aA)):=λW' al=>yai (ms (ax.keep al) ad.g (eK (qF aG) (fe bA j) (j:Nat) (n:Nat) 0) (ad.g.lenB ai) yag w) (λe aA t=>⟨t.ret,by
   show TrO W P I u1 u2 u3 u4 bs r e aA
   rw[R.o]
   exact TrO.after ((S.o.trans a6).keep al) t⟩)
  have bB:=ad.g.n;have F:V _:=λW'=>F3 aG W';generalize fe bA j=l at ae ak;generalize qF aG=e2 at F ak;generalize bA.vs.length=bK at*;clear bd ck o ax a6 cp ad aM Q R S Y aU ao c1 d1 C aI cc an b9 aL;have q:=λx:KW bj=>ae.o _ x.k;refine vn (C:=λJ=>∃x:KW bj,J=x.v) 30 (by kernel_rfl) (by kernel_rfl) ⟨⟨bj.drew,eG _⟩,rfl⟩ ?_;simp only[List.take_succ_cons,List.take_zero,List.drop_succ_cons,List.drop_zero]
  repeat (go_big_quiet_step (first
   |(go_at_call 139;exact yai (F.o _) λe J h=>⟨h.1,⟨_,h.2⟩⟩)
   |(go_at_call 39;exact yai (gS _ _ _ _ _ _) λe J h=>⟨h.1,⟨⟨J,(KW.k _).trans h.2⟩,rfl⟩⟩)))
  refine wpQuiet_nil ?_;rintro bF ⟨x,rfl⟩;go_wp2_with (go_at_call 106;refine yai (ak.o _ x.k) ?_;rintro e cf ⟨⟨ci,rfl⟩,bh⟩);go_ret;exact bh.o):Zp:=h
theorem cH.qhp(h:Zp:=by
 have ah:=Y.o a8 _ Z;have bX:=yaj ap bm.n;have bE:=ez 0 0 a8 (.cells #[hF x,hF y] 3);have Q:V _:=yU (aJ.keep bE) bm.g _ 2 2 [x,y] (GK aJ.far x y) xaa (by intro i hi;simp at hi;rcases hi with rfl|rfl<;>assumption) (ts.getD k hL).pos;have bP:V (r=qG aN (ts.getD k hL) x y):=HR.o;have S:V _:=Z.keep bE;have aU:V _:=bm;have ao:V (∀i∈[x,y],i<aN.vs.length):=by intro i hi;simp at hi;rcases hi with rfl|rfl<;>assumption
 have c1:=ah.c1 k O;have d1:(a8.alloc (.cells #[hF x,hF y] 3)).cell? ⟨g,off+k*3+1,none⟩=_:=(bE.cell (p:=⟨g,off+k*3+1,none⟩) ah.lt xaa).trans c1;exact qfq):Zp:=h
open cH in
theorem Dq{W u}(H:TrIn W P I u1 u2 u3 u4 bs st bC bn u g off m cap ts)(k)(O:k<m)(bZ:k+1<m)(aB:opM [43] [45] ts=-1)(b7:opM [42] [47] ts=(k:Int))(az aZ)(bl:RsG st az)(bp:∀aq x,az=.ok (aq,x)->RsG aq aZ)
  (am:Calls prog 103 #[hD P,.slice bC bn cL,.slice (some ⟨g,off,none⟩) k cap] W (TrO W P I u1 u2 u3 u4 bs az))
  (bv:∀aq x,az=.ok (aq,x)->∀W' ba bc z aa,WS W' P I ba bc z aa bs aq->Mv (Mst P u1 u2 u3 u4) W (Mst P ba bc z aa) W'->Calls prog 103 #[hD P,.slice bC bn cL,.slice (some ⟨g,off+(k+1)*3,none⟩) (m-(k+1)) (cap-(k+1))] W' (TrO W' P I ba bc z aa bs aZ)):
  Calls prog 103 #[hD P,.slice bC bn cL,.slice (some ⟨g,off,none⟩) m cap] W (TrO W P I u1 u2 u3 u4 bs (GJ (ts.getD k hL) az aZ)):=by
 have C:V _:=fZ W g off m cap ts H.tk H.m5 [43] [45];have af:V _:=fZ W g off m cap ts H.tk H.m5 [42] [47];rw[aB]at C;rw[b7]at af;clear b7 aB;have bo:=H.m5;have aw:=H.mc;have Y:V (∀W' M',Mv (Mst P u1 u2 u3 u4) W M' W'->_):=λW' M' al=>H.tk.keepC al.chg H.tg;exact qcl
end
section
open Go.RowKit Flt
variable{r:Rs (LSt×Nat)}
theorem vp{f st u o a b}(h:eP (f+1) st u (.bin o a b)=some r):∃az aZ,eP f st u a=some az/\(∀aq x,az=.ok (aq,x)->eP f aq u b=some aZ)/\r=GJ o az aZ:=by
 rw[eP]at h;cases B:eP f st u a with
 |none=>rw[B]at h;cases h
 |some az=>
  rw[B]at h;rcases az with⟨c,p⟩|⟨aq,x⟩
  ·cases h;exact⟨_,.error (c,p),rfl,λ_ _ e=>(by cases e),rfl⟩
  simp only[jH]at h;cases U:eP f aq u b with
  |none=>grind
  |some aZ=>
   rw[U]at h;refine⟨.ok (aq,x),aZ,rfl,λ_ _ e=>(by cases e;exact U),?_⟩;rcases aZ with⟨c,p⟩|⟨aN,y⟩
   ·cases h;rfl
   cases h;rfl
theorem GL(ts us o):(ts++o::us).getD ts.length hL=o:=by
 simp_all
theorem jl{n es ts}(h:Pr n es ts):0<ts.length:=by
 induction h<;>grind
section
variable{f:Nat}{W:World}{P I:Nat}{u1 u2 u3 u4:Value}{bs:List Bc}{st:LSt}{bC:Option Addr}{bn cL:Nat}{u:Loc}{g off m cap:Nat}{ts us:List Tok}{o:Tok}{a b:Ex}{r:Rs (LSt×Nat)}
theorem vq(Q:TrC f)(H:TrIn W P I u1 u2 u3 u4 bs st bC bn u g off m cap (ts++o::us)){Y ab}(F:Pr Y [a] ts)(hb:Pr ab [b] us)(B:Y<=2)(U:ab<=2){az aZ}(af:eP f st u a=some az)(a0:∀aq x,az=.ok (aq,x)->eP f aq u b=some aZ):
  RsG st az/\(∀aq x,az=.ok (aq,x)->RsG aq aZ)/\
  Calls prog 103 #[hD P,.slice bC bn cL,.slice (some ⟨g,off,none⟩) ts.length cap] W (TrO W P I u1 u2 u3 u4 bs az)/\
  (∀aq x,az=.ok (aq,x)->∀W' ba bc z aa,WS W' P I ba bc z aa bs aq->Mv (Mst P u1 u2 u3 u4) W (Mst P ba bc z aa) W'->Calls prog 103 #[hD P,.slice bC bn cL,.slice (some ⟨g,off+(ts.length+1)*3,none⟩) (m-(ts.length+1)) (cap-(ts.length+1))] W' (TrO W' P I ba bc z aa bs aZ)):=by
 have aw:=H.tk.len;rw[yak,yap]at aw;have bM:=H.mc;have cc:=jz F (λt ht=>H.ti t (by simp[ht])) a xac;have cp:=jz hb (λt ht=>H.ti t (by simp[ht])) b xac;have bG:=gF f st u a H.gd H.nm H.lo cc az af;refine⟨bG,λaq x e=>?_,?_,λaq x e W' ba bc z aa X C=>?_⟩
 ·have w:=(bG aq x e).1;exact gF f aq u b w.g (H.nm.gw w) (H.lo.le w.n) cp aZ (a0 aq x e)
 ·have h:=H.sub H.ws (Gw.refl H.gd) (Mv.refl _ W) 0 ts.length xaa ts xac (cap':=cap) xaa;rw[Nat.zero_mul,Nat.add_zero,Nat.sub_zero]at h;exact Q W P I u1 u2 u3 u4 bs st bC bn cL u g off ts.length cap ts h Y a F B az af
 have h:=H.sub X (bG aq x e).1 C (ts.length+1) m yad us (by
  rw[List.drop_append,List.drop_of_length_le xaa,show ts.length+1-ts.length=1 by omega,List.nil_append,List.drop_succ_cons,List.drop_zero,yao xaa]) (cap':=cap-(ts.length+1)) xaa
 exact Q W' P I ba bc z aa bs aq bC bn cL u g _ _ _ us h ab b hb U aZ (a0 aq x e)
theorem GM(Q:TrC f)(H:TrIn W P I u1 u2 u3 u4 bs st bC bn u g off m cap (ts++o::us))(F:Pr 2 [a] ts)(ax:o.sym=[43]\/o.sym=[45])(hb:Pr 1 [b] us)(h:eP (f+1) st u (.bin o a b)=some r):
  Calls prog 103 #[hD P,.slice bC bn cL,.slice (some ⟨g,off,none⟩) m cap] W (TrO W P I u1 u2 u3 u4 bs r):=by
 obtain⟨az,aZ,af,a0,rfl⟩:=vp h;obtain⟨a5,p2,z,l⟩:=vq (cL:=cL) Q H F hb xaa xaa af a0;have aw:=H.tk.len;rw[yak,yap]at aw;have ah:=jl hb;have t:=Dp H _ xaa xaa (MC F ax hb) _ _ a5 p2 z l;rw[GL]at t;exact t
theorem GN(Q:TrC f)(H:TrIn W P I u1 u2 u3 u4 bs st bC bn u g off m cap (ts++o::us))(F:Pr 1 [a] ts)(ax:o.sym=[42]\/o.sym=[47])(hb:Pr 0 [b] us)(h:eP (f+1) st u (.bin o a b)=some r):
  Calls prog 103 #[hD P,.slice bC bn cL,.slice (some ⟨g,off,none⟩) m cap] W (TrO W P I u1 u2 u3 u4 bs r):=by
 obtain⟨az,aZ,af,a0,rfl⟩:=vp h;obtain⟨a5,p2,z,l⟩:=vq (cL:=cL) Q H F hb xaa xaa af a0;have aw:=H.tk.len;rw[yak,yap]at aw;have ah:=jl hb;have t:=Dq H _ xaa xaa (Fq (Pr.mul F ax hb)) (MD F ax hb) _ _ a5 p2 z l;rw[GL]at t;exact t
end
theorem Ds{f st u o a}(h:eP (f+1) st u (.neg o a)=some r):∃az,eP f st u a=some az/\r=NK o.pos az:=by
 exact xdt
section
variable{f:Nat}{W:World}{P I:Nat}{u1 u2 u3 u4:Value}{bs:List Bc}{st:LSt}{bC:Option Addr}{bn cL:Nat}{u:Loc}{g off m cap:Nat}{ts:List Tok}{o t:Tok}{a:Ex}{r:Rs (LSt×Nat)}
theorem Dt(H:TrIn W P I u1 u2 u3 u4 bs st bC bn u g off m cap [t])(ht:t.sym=gU)(h:eP (f+1) st u (.name t)=some r):
  Calls prog 103 #[hD P,.slice bC bn cL,.slice (some ⟨g,off,none⟩) m cap] W (TrO W P I u1 u2 u3 u4 bs r):=by
 rw[eP]at h;have e:r=GH st _:=(hJ h).symm;have k:=AQ (cL:=cL) H (Pr.name ht) ht H.tk.len.symm;rw[e];exact k
theorem GO(Q:TrC f)(H:TrIn W P I u1 u2 u3 u4 bs st bC bn u g off m cap (o::ts))(ax:o.sym=[45])(F:Pr 0 [a] ts)(h:eP (f+1) st u (.neg o a)=some r):
  Calls prog 103 #[hD P,.slice bC bn cL,.slice (some ⟨g,off,none⟩) m cap] W (TrO W P I u1 u2 u3 u4 bs r):=by
 obtain⟨az,af,rfl⟩:=Ds h;have aw:=H.tk.len;rw[yap]at aw;have ah:=jl F;have bM:=H.mc;have cc:=jz F (λt ht=>H.ti t (by simp[ht])) a xac;refine Do H (Pr.neg ax F) ax xaa _ (gF f _ _ a H.gd H.nm H.lo cc _ af) (λW' k=>?_)
 have ae:=H.sub (H.ws.keep k) (Gw.refl H.gd) (Mv.of k) 1 m yad _ (by
  rw[List.drop_succ_cons,List.drop_zero,yao xaa]) (cap':=cap-1) xaa
 exact Q _ P I _ _ _ _ _ _ _ _ _ _ g _ _ _ _ ae 0 a F xaa _ af
theorem GP{l q}(H:TrIn W P I u1 u2 u3 u4 bs st bC bn u g off m cap (l::(ts++[q])))(ah:l.sym=[40])(F:Pr 2 [a] ts)(ao:q.sym=[41])
  (Q:∀W',TrIn W' P I u1 u2 u3 u4 bs st bC bn u g (off+3) (m-2) (cap-1) ts->Calls prog 103 #[hD P,.slice bC bn cL,.slice (some ⟨g,off+3,none⟩) (m-2) (cap-1)] W' (TrO W' P I u1 u2 u3 u4 bs r)):
  Calls prog 103 #[hD P,.slice bC bn cL,.slice (some ⟨g,off,none⟩) m cap] W (TrO W P I u1 u2 u3 u4 bs r):=by
 have aw:=H.tk.len;rw[yap,yak,List.length_singleton]at aw;have bM:=H.mc;refine Dn H (Pr.par ah F ao) ah xaa r (λW' k=>?_)
 have ae:=H.sub (H.ws.keep k) (Gw.refl H.gd) (Mv.of k) 1 (m-1) xaa _ (by
  rw[List.drop_succ_cons,List.drop_zero,List.take_append_of_le_length xaa,yao xaa]) (cap':=cap-1) xaa
 rw[show m-1-1=m-2 by omega]at ae;exact yai (Q _ ae) (λe aA t=>TrO.back k t)
