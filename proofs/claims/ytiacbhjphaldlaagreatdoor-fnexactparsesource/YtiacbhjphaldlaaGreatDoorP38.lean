import Derived.Test.YtiacbhjphaldlaaGreatDoorP34
namespace Go.Proofs.Z
variable{f loc o st a}
variable{Zp:Prop}
open Tryz
set_option maxRecDepth 1000000
set_option maxHeartbeats 0
section
open Go.RowKit Flt
attribute[local go_sem] dI dG dF
variable{aq A:World}{P B i bV q o c ab aP g bZ cL aO m cap:Nat}{u1 ap u3 u4 aH aN aM aS:Value}{am:List Bc}{st:LSt}{bG:Option Addr}{r:Rs (LSt×Nat)}{e:Ending}{loc:Loc}{ts:List Tok}
structure Sg1(W:World)(gr i q o c:Nat)(t:Tok):Prop where
 lt:gr<W.heap.size
 at_:W.cell? ⟨gr,i,none⟩=some (.slice (some ⟨q,o,none⟩) 1 c)
 tk:TkA W q o 1 [t]
theorem Sg1.keep{W t}(h:Sg1 W bV i q o c t)(k:Kept 0 0 W A):Sg1 A bV i q o c t:=
 ⟨yaj h.lt k.size,(k.cell (p:=⟨bV,i,none⟩) h.lt xaa).trans h.at_,h.tk.keep k⟩
theorem Sg1.cells{W t}(h:Sg1 W bV i q o c t):W.cell? ⟨bV,i,none⟩=some (.slice (some ⟨q,o,none⟩) 1 c)/\W.cell? ⟨q,o,none⟩=some (dJ t.sym)/\W.cell? ⟨q,o+1,none⟩=some (h0 t.pos)/\W.cell? ⟨q,o+2,none⟩=some (dJ t.text):=
 ⟨h.at_,by simpa using h.tk.c0 0 xaa,by simpa using h.tk.c1 0 xaa,by simpa using h.tk.c2 0 xaa⟩
theorem TrO.back{W0}(k:Kept 0 0 W0 aq)(h:TrO aq P B u1 ap u3 u4 am r e A):TrO W0 P B u1 ap u3 u4 am r e A:=by
 obtain⟨c,p⟩|⟨st,v⟩:=r
 ·obtain⟨z,J,al,bw⟩:=h;exact⟨z,J,al,(Mv.of k).bad bw⟩
 obtain⟨z,aH,aN,aM,aS,J,al⟩:=h;exact⟨z,_,_,_,_,J,(Mv.of k).trans al⟩
theorem TrO.ret{W}(h:TrO W P B u1 ap u3 u4 am r e A):∃x:Int,e=.returned (h0 x):=by
 obtain⟨c,p⟩|⟨st,v⟩:=r
 ·exact⟨_,h.1⟩
 exact⟨v,h.1⟩
theorem aT.qbr(h:Zp:=by
 have j:M (ju _ ⟨_,_,i1⟩ a n=if O=lO then
  if dS _ a<=ek _ then .error _ else eg st _ a0
  else if dS _ a≠1 then .error (4,a0)
  else if ek _<1\/1000<ek _ then .error _ else eg _ _ a0):=rfl
 have co:=U.len a F;change 1<=dS _ a/\dS _ a<=1000 at co;have bC:=Q h;have bY:=Q aZ;obtain⟨bW,cap,a6,cr,-⟩:=h.lenc F
 have bf:M (∀A,Kept 0 0 W A->A.cell? _=some (.slice _ _ _)/\A.cell? _=some _/\(A.cell? _=some _/\A.cell? _=some _/\A.cell? _=some _/\A.cell? _=some _)):=λA ae=>by
  obtain⟨aJ,ax,ag,_,c3⟩:=(bC.o.keep ae).lenc F
  rw[a6]at ag
  cases ag
  exact⟨(bC.o.keep ae).c1.trans (congrArg some a6),c3,(bY.o.keep ae).cells⟩
 generalize ju _ _ a n=r at j⊢;generalize dS _ a=l at co bf j;generalize G:st.vs.length=N at*;clear G h aZ U bo bC bY a6 cr;unfold iU at cb⊢;obtain⟨cc,bm,s⟩:=n;simp only at cb I bf j⊢;generalize ek _=m at*;go_enter func87,ntmps87;exact qez):Zp:=h
theorem aT.qfa(h:Zp:=by
 obtain⟨aQ,aU,bN,cp,cI,ff⟩:=bf.o _ ay.o;exact qgy):Zp:=h
theorem aT.qgz(h:Zp:=by
 clear aQ aU bN cp cI ff bK aw ay ad cb;obtain⟨aQ,aU,bN,cp,cI,ff⟩:=bf.o _ bJ.o;have bK:=aX.o.c0;have L:=aX.o.c1;clear bf;obtain H|H:=H
 ·subst H;have b:M _:=j.o.trans (h2 xab);unfold mU at*;clear j;by_cases z:l=1
  ·subst z;have K:M _:=b.o.trans (h2 xac);clear b;by_cases J:m<1
   ·have R:M _:=K.o.trans (h3 (.inl J));exact xby
   by_cases al:1000<m
   ·have R:M _:=K.o.trans (h3 (.inr al));exact xby
   have R:M _:=K.o.trans (h2 xaa);have b5:M _:=λA ae=>aj.o A (dL 10 m a 0 0) ae (by grind) (by simp_all);go_upto_region 12 with fail;exact xdc
  have R:M _:=b.o.trans (h3 z);have bl:=yav z;exact xby
 subst H;have b:M _:=j.o.trans (h3 rfl);unfold lO at*;clear j;by_cases z:l<=m
 ·have R:M _:=b.o.trans (h3 z);exact xby
 have R:M _:=b.o.trans (h2 z);have b5:M (∀A,Kept 0 0 W A->_):=λA ae=>aj.o A (dL 11 1 (a:Int) 0 m) ae (by show(1:Int)<=1/\(1:Int)<=1000;omega) yag;go_upto_region 6 with fail;exact xdc):Zp:=h
open aT in
theorem Fd{W}(h:WS W P B u1 ap u3 u4 am st)(U:Gd st)(k)(H:k.sym=mU\/k.sym=lO)(a)(F:a<st.vs.length)(n)(bo:Dgs n.text)(b9:2<=ab)(aZ:Sg1 W bV 1 q o c n):
  Calls prog 87 #[ge P,iU k,h0 a,hZ bV ab bZ] W (TrO W P B u1 ap u3 u4 am (ju st k a n)):=by
 obtain⟨O,a0,i1⟩:=k;simp only at H;have cb:M _:=λA=>xL n bo A;have bb:=U.n;have I:=lY bo yac;rw[List.take_length]at I;have aw:M _:=gK W O a0 i1;have ay:M _:=dE 0 0 W (.cells #[dJ O,h0 a0,dJ i1] 39);exact qbq
theorem aU.qbr(h:Zp:=by
 have j:M (jK _ ⟨[112,117,116],_,i1⟩ a n aI=if dS st a≠1 then .error (4,a0)
  else if ek _<1\/1000<ek _ then .error _
  else if ek _<=ek _ then .error _ else eg _ _ a0):=rfl
 have co:=U.len a F;change 1<=dS _ a/\dS _ a<=1000 at co;have bC:=Q h;have bY:=Q aZ;have en:=Q aC;obtain⟨bW,cap,a6,cr,-⟩:=h.lenc F
 have bf:M (∀A,Kept 0 0 W A->A.cell? _=some (.slice _ _ _)/\A.cell? _=some _/\(A.cell? _=some _/\A.cell? _=some _/\A.cell? _=some _/\A.cell? _=some _)/\(A.cell? _=some _/\A.cell? _=some _/\A.cell? _=some _/\A.cell? _=some _)):=λA ae=>by
  obtain⟨aJ,ax,ag,_,c3⟩:=(bC.o.keep ae).lenc F
  rw[a6]at ag
  cases ag
  exact⟨(bC.o.keep ae).c1.trans (congrArg some a6),c3,(bY.o.keep ae).cells,(en.o.keep ae).cells⟩
 generalize jK _ _ a n _=r at j⊢;generalize dS _ a=l at co bf j;generalize G:st.vs.length=N at*;clear G h aZ aC U bo D bC bY en a6 cr;unfold iU at cb y⊢;obtain⟨cc,bm,s⟩:=n;obtain⟨b,mp,w⟩:=aI;simp only at cb y I aW bf j⊢;generalize ek _=m at*;generalize ek _=bv at*;go_enter func87,ntmps87;exact qez):Zp:=h
theorem aU.qfa(h:Zp:=by
 obtain⟨aQ,aU,⟨bN,cp,cI,ff⟩,bI,bR,bH,X⟩:=bf.o _ ay.o;exact qgy):Zp:=h
theorem aU.qgz(h:Zp:=by
 clear aQ aU bN cp cI ff bI bR bH X bK aw ay ad cb;obtain⟨aQ,aU,⟨bN,cp,cI,ff⟩,bI,bR,bH,X⟩:=bf.o _ bJ.o;have bK:=aX.o.c0;have L:=aX.o.c1;by_cases z:l=1
 ·subst z;have K:M _:=j.o.trans (h2 xac);clear j;go_upto_region 14 with (go_at_call 35;refine yai (y.o _) ?_;rintro e ao ⟨rfl,a5⟩);have ai:M _:=bJ.o.trans a5;have ce:M _:=aX.o.keep a5;clear aQ aU bN cp cI ff bI bR bH X bK L aX bJ a5 y;obtain⟨aQ,aU,⟨bN,cp,cI,ff⟩,bI,bR,bH,X⟩:=bf.o _ ai.o;have bK:=ce.o.c0;have L:=ce.o.c1;clear bf;by_cases J:bv<1
  ·have R:M _:=K.o.trans (h3 (.inl J));exact xcw
  by_cases al:1000<bv
  ·have R:M _:=K.o.trans (h3 (.inr al));exact xcw
  have aL:M _:=K.o.trans (h2 xaa);clear K;by_cases bw:bv<=m
  ·have R:M _:=aL.o.trans (h3 bw);exact xcw
  have R:M _:=aL.o.trans (h2 bw);have b5:M _:=λA ae=>aj.o A (dL 12 _ a 0 m) ae (by show 1<=bv/\bv<=1000;omega) yag;go_upto_region 18 with fail
  go_region_with (first
   |(go_at_call 37;refine yai iy ?_;rintro e a7 ⟨rfl,b0⟩;have f:=(ce.o.keep ((dH _).trans b0)).c1)
   |(go_at_call 36;refine yai (b5.o _ (ai.o.trans ((dH _).trans b0))) ?_;rintro e aA ⟨⟨x,rfl⟩,C⟩))
  all_goals (go_wp2_with fail;go_ret;rw[R.o];exact C.o)
 have R:M _:=j.o.trans (h3 z);have bl:=yav z;clear bf;go_wp2_with (first|(go_at_call 32;refine yai (bX.o _ _ bJ.o) ?_;rintro e a7 ⟨rfl,u⟩)|fail);exact xdp):Zp:=h
open aU in
theorem Fe{W}(h:WS W P B u1 ap u3 u4 am st)(U:Gd st)(k)(H:k.sym=vy)(a)(F:a<st.vs.length)(n)(bo:Dgs n.text)(b9:3<=ab)(aZ:Sg1 W bV 1 q o c n)(aI)(D:Dgs aI.text){a8 b6 c2}(aC:Sg1 W bV 2 a8 b6 c2 aI):
  Calls prog 87 #[ge P,iU k,h0 a,hZ bV ab bZ] W (TrO W P B u1 ap u3 u4 am (jK st k a n aI)):=by
 obtain⟨O,a0,i1⟩:=k;simp only at H;subst H;unfold vy;have cb:M _:=λA=>xL n bo A;have y:M _:=λA=>xL _ D A;have bb:=U.n;have I:=lY bo yac;rw[List.take_length]at I;have aW:=lY D yac;rw[List.take_length]at aW;have aw:M _:=gK W [112,117,116] a0 i1;have ay:M _:=dE 0 0 W (.cells #[dJ [112,117,116],h0 a0,dJ i1] 39);exact qbq
structure TrIn(W:World)(P B:Nat)(u1 u2 u3 u4:Value)(bs:List Bc)(st:LSt)(aL:Option Addr)(nL:Nat)(loc:Loc)(g off m cap:Nat)(ts:List Tok):Prop where
 ws:WS W P B u1 u2 u3 u4 bs st
 gd:Gd st
 nm:NmOK st
 lc:LcR (Mst P u1 u2 u3 u4) W aL nL loc
 ln:nL<=5000
 lo:LcOK loc st.vs.length
 tk:TkA W g off m ts
 tg:¬Mst P u1 u2 u3 u4 g
 m5:m<=5000
 mc:m<=cap
 ti:∀t∈ts,t.sym=fx->Dgs t.text
 tn:∀t∈ts,(t.sym=fx\/t.sym=iS)->iu t.text
def TrC(f:Nat):Prop:=∀(W:World) (P B:Nat) (u1 u2 u3 u4:Value) (bs:List Bc) (st:LSt) (aL:Option Addr) (nL cL:Nat) (loc:Loc) (g off m cap:Nat) (ts:List Tok),TrIn W P B u1 u2 u3 u4 bs st aL nL loc g off m cap ts->∀(n:Nat) (e:Ex),Pr n [e] ts->n<=2->∀r,dQ f st loc e=some r->
 Calls prog 33 #[.pointer (some ⟨P,0,none⟩),.slice aL nL cL,.slice (some ⟨g,off,none⟩) m cap] W (TrO W P B u1 u2 u3 u4 bs r)
theorem TkA.in_{w n}(h:TkA w g aO n ts)(i j us)(bd:us=(ts.drop i).take (j-i))(aK:j<=n):TkA w g (aO+i*3) (j-i) us:=by subst bd;exact h.cut aK
theorem TrIn.sub{W}(h:TrIn W P B u1 ap u3 u4 am st bG aP loc g aO m cap ts){aG}(X:WS A P B aH aN aM aS am aG)(w:Gw st aG)(k:Mv (Mst P u1 ap u3 u4) W (Mst P aH aN aM aS) A)(i j)(aK:j<=m)(us)(bd:us=(ts.drop i).take (j-i)){cap'}(aj:j-i<=cap'):TrIn A P B aH aN aM aS am aG bG aP loc g (aO+i*3) (j-i) cap' us where
 ws:=X
 gd:=w.g
 nm:=h.nm.gw w
 lc:=h.lc.mv k
 ln:=h.ln
 lo:=h.lo.le w.n
 tk:=(h.tk.keepC k.chg h.tg).in_ i j us bd aK
 tg:=λc=>(k.new g c).elim h.tg (λc=>ih h.tk.lt)
 m5:=ih h.m5
 mc:=aj
 ti:=λt az=>h.ti t (by grind)
 tn:=λt az=>h.tn t (by grind)
theorem Cg{W}(Y:TrIn W P B u1 ap u3 u4 am st bG aP loc g aO m cap ts){e}(aB:Pr 0 [e] ts)(aC:(ts.getD 0 h8).sym=[40])(J:2<=m)(r)
  (aE:∀A,Kept 0 0 W A->Calls prog 33 #[ge P,.slice bG aP cL,.slice (some ⟨g,aO+3,none⟩) (m-2) (cap-1)] A (TrO W P B u1 ap u3 u4 am r)):
  Calls prog 33 #[ge P,.slice bG aP cL,.slice (some ⟨g,aO,none⟩) m cap] W (TrO W P B u1 ap u3 u4 am r):=by
 have V:M _:=fe W g _ m cap _ Y.tk Y.m5 [43] [45];have S:M _:=fe W g _ m cap _ Y.tk Y.m5 [42] [47];rw[lP aB]at V S;have c0:=Y.tk.c0 0 xaa;have c1:=Y.tk.c1 0 xaa;have c2:=Y.tk.c2 0 xaa;rw[aC]at c0;have bQ:=Y.m5;have G:=Y.mc;have ai:M (∀A,Kept 0 0 W _->Calls _ _ _ _ λe bx=>(∃x:Int,e=.returned _)/\M (TrO W P B _ _ _ _ _ r e _)):=λA k=>yai (aE A k) (λe bx t=>⟨t.ret,t⟩);generalize ts.getD 0 _=t at*;clear aC Y aB aE;obtain⟨ba,ps,bv⟩:=t;simp only[Nat.zero_mul,Nat.add_zero]at c0 c1 c2;go_enter func33,ntmps33;go_upto_region 3 with (go_at_call 59;refine yai V.o ?_;rintro e Z ⟨rfl,X⟩;obtain rfl:=X.symm);go_upto_region 15 with (go_at_call 59;refine yai S.o ?_;rintro e Z ⟨rfl,X⟩;obtain rfl:=X.symm);go_upto_region 16 with fail;change Code.wp _ _ _ _ (W.alloc (.cells #[dJ _,.int _ ps,dJ _] 39));have aw:M _:=gK W [40] ps bv;have ay:M _:=dE 0 0 W (.cells #[dJ [40],h0 ps,dJ bv] 39);generalize W.alloc _=aq at aw ay⊢;generalize W.heap.size=bh at aw⊢;have bK:=aw.o.c0;have bP:M _:=ai.o _ ay.o;clear c0 c1 c2 V S aw ai;go_wp2_with (go_at_call 33;refine yai bP.o ?_;rintro e Z ⟨⟨x,rfl⟩,C⟩);go_ret;exact C.o
def Ff(st:LSt)(q:Rs Nat):Rs (LSt×Nat):=match q with|.error f=>.error f|.ok v=>.ok (st,v)
theorem u.qam(h:Zp:=by
 change Code.wp _ _ _ _ (W.alloc (.cells #[dJ [110,97,109,101],h0 ps,dJ bv] 39));have aw:M _:=gK W [110,97,109,101] ps bv;have ay:M _:=dE 0 0 W (.cells #[dJ [110,97,109,101],h0 ps,dJ bv] 39);generalize W.alloc (.cells #[dJ [110,97,109,101],h0 ps,dJ bv] 39)=aq at aw ay⊢;generalize W.heap.size=bh at aw⊢;have b:M _:=cd.o aq ay.o;obtain⟨bK,L,bi⟩:aq.cell? ⟨bh,0,none⟩=some (dJ [110,97,109,101])/\aq.cell? ⟨bh,1,none⟩=some (h0 ps)/\aq.cell? ⟨bh,2,none⟩=some (dJ bv):=⟨aw.o.c0,aw.o.c1,aw.o.c2⟩
 clear c0 c1 c2 V S aw cd;generalize dX st loc ⟨[110,97,109,101],ps,bv⟩=q at b aF;obtain⟨c,p⟩|v:=q
 ·exact xdh
 go_wp2_with (go_at_call 62;refine yai b.o ?_;rintro e Z ⟨rfl,ad⟩);go_ret;rw[aF.o];exact⟨rfl,u1,ap,u3,u4,bC.o.keep (ay.o.trans ad),Mv.of (ay.o.trans ad)⟩):Zp:=h
theorem u.qey(h:Zp:=by
 have cd:M (∀A,Kept 0 0 W A->_):=λA k=>v8 (Y.ws.keep k) Y.gd.m bG aP cL loc (Y.lc.keep k) Y.ln (ts.getD 0 h8);have bC:=Q Y.ws;unfold eu at aC;generalize ts.getD 0 h8=t at*;clear Y aB;obtain⟨ba,ps,bv⟩:=t;simp only at aC;subst aC;simp only[Nat.zero_mul,Nat.add_zero]at c0 c1 c2;obtain⟨r,ah⟩:∃r,r=Ff st (dX st loc ⟨[110,97,109,101],ps,bv⟩):=⟨_,rfl⟩
 rw[<-ah];have aF:=Q ah;clear ah;exact qal):Zp:=h
open u in
theorem zE{W}(Y:TrIn W P B u1 ap u3 u4 am st bG aP loc g aO m cap ts){e}(aB:Pr 0 [e] ts)(aC:(ts.getD 0 h8).sym=eu)(z:m=1):
  Calls prog 33 #[ge P,.slice bG aP cL,.slice (some ⟨g,aO,none⟩) m cap] W (TrO W P B u1 ap u3 u4 am (Ff st (dX st loc (ts.getD 0 h8)))):=by
 subst z;have V:M _:=fe W g aO 1 cap ts Y.tk Y.m5 [43] [45];have S:M _:=fe W g aO 1 cap ts Y.tk Y.m5 [42] [47];exact qex
theorem WS.far{W}(h:WS W P B u1 ap u3 u4 am st):¬Mst P u1 ap u3 u4 W.heap.size:=by
 exact xex
theorem TrO.after{W0}(k:Mv (Mst P u1 ap u3 u4) W0 (Mst P aH aN aM aS) aq)(h:TrO aq P B aH aN aM aS am r e A):TrO W0 P B u1 ap u3 u4 am r e A:=by
 obtain⟨c,p⟩|⟨st,v⟩:=r
 ·obtain⟨z,J,al,bw⟩:=h;exact⟨z,J,al,k.bad bw⟩
 obtain⟨z,aa,Z,ao,a7,J,al⟩:=h;exact⟨z,_,_,_,_,J,k.trans al⟩
theorem TB.keepC{W p s k x}(h:TB W p s k x){S}(c:Chg S W A)(aZ:¬S p):TB A p s k x:=
 ⟨yaj h.lt c.size,(c.cell (p:=⟨p,0,none⟩) h.lt aZ).trans h.c0,(c.cell (p:=⟨p,1,none⟩) h.lt aZ).trans h.c1,(c.cell (p:=⟨p,2,none⟩) h.lt aZ).trans h.c2,λo=>(c.frozen (p:=⟨p,o,none⟩) h.lt aZ).trans (h.fr o)⟩
def MY(p:Nat)(r:Rs (LSt×Nat)):Rs (LSt×Nat):=match r with|.error f=>.error f|.ok (s,a)=>eg s (dL 6 (dS s a) (a:Int) 0 0) p
theorem v.qam(h:Zp:=by
 change Code.wp _ _ _ _ (W.alloc (.cells #[dJ _,.int _ _,dJ _] 39));have aw:M _:=gK W [45] ps bv;have ay:M _:=dE 0 0 W (.cells #[dJ [45],h0 ps,dJ bv] 39);generalize W.alloc _=aq at aw ay⊢;generalize W.heap.size=bh at aw bk⊢;have bP:M _:=ai.o _ ay.o;have bK:=aw.o.c0;clear c0 c1 c2 V S ai;obtain⟨c,p⟩|⟨s,a⟩:=r1
 ·exact xds
 obtain⟨w,F⟩:=br.o s a rfl;go_upto_region 18 with (go_at_call 33;refine yai bP.o ?_;rintro e Z ⟨rfl,aH,aN,aM,aS,v,bl⟩);have aX:M _:=aw.o.keepC bl.chg bk.o;obtain⟨bW,T,a6,cr,cb⟩:=v.lenc F;have bZ:=v.c1;subst a6
 have aj:M (∀A,Kept 0 0 _ A->Calls _ _ _ _ λe bx=>(∃x:Int,e=.returned _)/\M (TrO W P B _ _ _ _ _ r e _)):=λA ae=>yai (lF (v.keep ae) w.g (dL 6 (dS s a) _ 0 0) (w.g.lenB F) yag _) (λe bx t=>⟨t.ret,by
  show TrO W P B u1 ap u3 u4 am r e bx
  rw[aF.o]
  exact TrO.back ay.o (TrO.after (bl.keep ae) t)⟩)
 have L:=aX.o.c1;have bb:=w.g.n;generalize dS s a=l at cb aj;generalize s.vs.length=N at*;clear v bl bP aw aF br w bK;go_upto_region 20 with fail;exact xdg):Zp:=h
theorem v.qey(h:Zp:=by
 have bk:=Q Y.ws.far;have ai:=Q aE;have br:=Q bL;generalize ts.getD 0 _=t at*;clear Y aB aE bL;obtain⟨ba,ps,bv⟩:=t;simp only at aC;subst aC;simp only[Nat.zero_mul,Nat.add_zero]at c0 c1 c2;obtain⟨r,ah⟩:∃r,r=MY ps r1:=⟨_,rfl⟩
 simp only;rw[<-ah];have aF:=Q ah;clear ah;exact qal):Zp:=h
open v in
theorem Ci{W}(Y:TrIn W P B u1 ap u3 u4 am st bG aP loc g aO m cap ts){e}(aB:Pr 0 [e] ts)(aC:(ts.getD 0 h8).sym=[45])(J:2<=m){r1}(bL:RsG st r1)(aE:∀A,Kept 0 0 W A->Calls prog 33 #[ge P,.slice bG aP cL,.slice (some ⟨g,aO+3,none⟩) (m-1) (cap-1)] A (TrO A P B u1 ap u3 u4 am r1)):
  Calls prog 33 #[ge P,.slice bG aP cL,.slice (some ⟨g,aO,none⟩) m cap] W (TrO W P B u1 ap u3 u4 am (MY (ts.getD 0 h8).pos r1)):=by
 have V:M _:=fe W g _ m cap _ Y.tk Y.m5 [43] [45];have S:M _:=fe W g _ m cap _ Y.tk Y.m5 [42] [47];exact qex
end
section
open Go.RowKit
variable{P:Program}{bE:Array Oper}{c:Region.Mode}{C:World->Prop}{n:Nat}
def hdQ(P:Program)(md:Region.Mode)(ops:Array Oper)(C:World->Prop)(n:Nat)(L:Array Bool->Act->Prop):Nat->Array Bool->Act->Prop
 |0,l,a=>L l a
 |f+1,l,a=>Region.ready md ops l≠[]/\∀i∈Region.ready md ops l,i<n/\qOp P ops C i (hdQ P md ops C n L f (l.setIfInBounds i true)) a
theorem AU{g aO i1}(I:∀l a w,C w->aO l a->wpAny P c bE i1 g l a w):∀f l a w,C w->hdQ P c bE C n aO f l a->wpAny P c bE i1 (f+g) l a w
 |0,l,a,w,X,h=>by rw[Nat.zero_add];exact I l a w X h
 |f+1,l,a,w,X,h=>by
  rw[Nat.add_right_comm]
  exact⟨λaC=>absurd aC h.1,λi hi=>wpOp_of_qOp X (λap D b h'=>AU I f _ _ _ b h') (h.2 i hi).2⟩
theorem Fg{i r v aO}(hi:bE[i]? =some r)(m:Region.noSelect bE=true)(ai:Region.sinkB c bE n=true)(aj:Region.chainB c bE n=true)(V:n<bE.size)(K:i<n)(bo:∀l a,aO l a->∀j∈Region.ready c bE l,n<=j):
  ∀f l a,HeadInv c bE n l->(∀j g,bE[j]? =some g->j≠i->l.getD j true=false->(∀e∈g.after,Region.binds c e=true->e.on≠i)->r.apart bE g=true)->i∈Region.ready c bE l->YieldsIn P bE C r v a->hdQ P c bE C n aO f (l.setIfInBounds i true) (a.put r.dst v)->hdQ P c bE C n aO (f+1) l a:=by
 intro f;induction f with
 |zero=>
  intro l a p _ ah aY Y;have o:∀j∈Region.ready _ _ l,j<n:=λj aK=>(Nat.lt_or_ge j n).resolve_right λh=>tail_waits ai aj V p _ i rfl K (mem_ready.1 ah).1 j h aK;refine⟨λh=>(by grind),λj aK=>⟨o j aK,?_⟩⟩;by_cases e:j=i
  ·subst e;exact aY.qOp hi Y
  exact absurd (bo _ _ Y j (ready_mono aK e)) (Nat.not_le_of_lt (o j aK))
 |succ f O=>
  intro l a p bi ah aY Y;have bd:=(mem_ready.1 ah).1;have o:∀j∈Region.ready _ _ l,j<n:=λj aK=>(Nat.lt_or_ge j n).resolve_right λh=>tail_waits ai aj V p _ i rfl K bd j h aK;refine⟨λh=>(by grind),λj aK=>⟨o j aK,?_⟩⟩;by_cases e:j=i
  ·subst e;exact aY.qOp hi Y
  obtain⟨U,g,s,F⟩:=mem_ready.1 aK
  have ar:∀e∈g.after,Region.binds _ e=true->e.on≠i:=λe bl I an=>by
   have:=F e bl I
   rw[an,getD_both bd]at this
   cases this
  refine qOp_mono (λap al=>O _ _ (p.set aK (o j aK)) (λk ok H t ag aA=>bi k _ H t ?_ aA) (ready_mono ah (Ne.symm e)) al.1 ?_) (qOp_put s (bi j _ s e U ar) (λcs b=>Region.noSelect_spec m i _ _ b hi) (λcs b=>Region.noSelect_spec m j _ _ b s) aY (Y.2 j (ready_mono aK e)).2)
  ·by_cases q:j=k<;>simp_all<;>grind
  rw[Array.setIfInBounds_comm _ _ e];exact al.2
theorem AV{g R}(m:Region.noSelect bE=true)(ai:Region.sinkB c bE n=true)(aj:Region.chainB c bE n=true)(V:n<bE.size):
  ∀(l:List Oper) (k:Nat) (t:Array Bool) (a:Act),(∀j,j<l.length->l[j]? =bE[k+j]?)->k+l.length=n->HeadInv c bE n t->Region.lexHead c bE g l.length k t=true->wpQuiet P bE C R l a->hdQ P c bE C n (λf ap=>Region.seqB c bE g n f=true/\R ap) l.length t a
 |[],k,t,a,_,H,_,ax,h=>by
  obtain rfl:k=n:=H
  exact⟨ax,h⟩
 |o::l,k,t,a,ab,H,p,ax,h=>by
  have aC:bE[k]? =some o:=(ab 0 (Nat.zero_lt_succ _)).symm
  simp only[yap,Region.lexHead,Bool.and_eq_true]at ax H ab
  obtain⟨⟨ah,bi⟩,e⟩:=ax
  have b:k∈Region.ready c bE t:=by grind
  have an:qOp P bE C k (wpQuiet P bE C R l) a:=by unfold qOp;simp only[aC];exact h
  obtain⟨v,aY,bd⟩:=yieldsIn_of_qOp aC an
  exact Fg aC m ai aj V xaa (λ_ _ q=>seqB_ready q.1) _ t a p (Region.free_spec aC bi) b aY (AV m ai aj V l _ _ _ (λj aK=>by grind) xaa (p.set b xaa) e bd)
theorem uB{id i1 w}{l:List Oper}(n)(aR:P.follows .mixedOrders=true)(ax:Region.lexTailB .any l.toArray n=true)(ak:C {w with drawn:=w.drawn+1})(h:wpQuiet P l.toArray C (λap=>∀D,C D->wpList P l.toArray i1 (l.drop n) ap D) (l.take n) a):(Code.region id l.toArray true).wp P i1 a w:=by
 simp only[Region.lexTailB,Bool.and_eq_true,decide_eq_true_eq]at ax;obtain⟨⟨⟨⟨m,V⟩,ai⟩,aj⟩,ar⟩:=ax;have b3:n<l.length:=xaa;have az:(l.take n).length=n:=by grind
 have Y:=AV m ai aj V _ 0 (Array.replicate l.toArray.size _) a (λj aK=>by
  rw[az]at aK
  simp[aK]) xaa ⟨by simp,λj g _ q=>(by rw[getD_replicate_false]at q;cases q),λt _ q=>getD_in (by simpa using q) (getD_replicate_false _ _)⟩ (it az ar) h
 refine wp_region_any aR ?_;have:=AU (i1:=i1) (g:=l.toArray.size-n) (λt ap D b q=>?_) _ _ _ _ ak Y
 ·rw[az,Nat.add_sub_cancel' (Nat.le_of_lt V)]at this;exact this
 have aT:(l.drop n).length=l.toArray.size-n:=by simp
 rw[<-aT];exact wpAny_of_seq _ n t _ _ (λj=>by simp) (by grind) (q.2 _ b)
structure KW(w:World) where
 v:World
 k:Kept 0 0 w v
instance (w:World):Nonempty (KW w):=⟨⟨w,.refl _ _ _⟩⟩
end
section
open Go.RowKit Flt
attribute[local go_sem] dI dG dF
variable{P B a b aP cL g aO m cap:Nat}{u1 ap u3 u4:Value}{st:LSt}{am:List Bc}{bG:Option Addr}{ts:List Tok}
def Fh(o:Tok)(r1 r2:Rs (LSt×Nat)):Rs (LSt×Nat):=match r1 with
 |.error f=>.error f
 |.ok (_,x)=>match r2 with
  |.error f=>.error f
  |.ok (s2,y)=>lz s2 o x y
theorem yd(h:im st [a,b] o.pos=.error f):lz st o a b=.error f:=by unfold lz;rw[h]
theorem AW{az}(h:im st [a,b] o.pos=.ok (az,f)):lz st o a b=eg az (dL (lw o.sym) (dS az (f.getD 0 0)) (f.getD 0 0:Nat) (f.getD 1 0:Nat) 0) o.pos:=by unfold lz;rw[h]
theorem TrO.chg{W r e A}(h:TrO W P B u1 ap u3 u4 am r e A):Chg (Mst P u1 ap u3 u4) W A:=by
 obtain⟨c,p⟩|⟨st,v⟩:=r
 ·exact h.2.2.2
 obtain⟨_,_,_,_,_,_,k⟩:=h;exact k.chg
theorem Fi{W:World}{Maa}(bi:¬Maa W.heap.size)(x y:Nat):XsR Maa (W.alloc (.cells #[h0 x,h0 y] 3)) (some ⟨W.heap.size,0,none⟩) 2 [x,y]:=by
 refine⟨rfl,λ_=>⟨_,0,rfl,bi,by simp,λk H=>?_⟩⟩;grind[yat]
theorem cA.qcr(h:Zp:=by
 have ew:(0:Int)<=k:=xaa;go_upto_region 5 with (go_at_call 59;refine yai V.o ?_;rintro e Z ⟨rfl,X⟩;obtain rfl:=X.symm);obtain⟨c,p⟩|⟨ak,x⟩:=r1
 ·exact xgb
 obtain⟨O,ar⟩:=br.o _ x rfl;have I:¬((x:Int)<0):=xaa;go_upto_region 8 with (go_at_call 33;refine yai s.o ?_;rintro e Z ⟨rfl,aH,aN,aM,aS,v,bl⟩);have cA:M _:=b0.o _ x rfl _ _ _ _ _ v bl;have ch:=Q bl;clear s b0 v bl;obtain⟨c,p⟩|⟨az,y⟩:=bp
 ·exact xfl
 obtain⟨a5,aY⟩:=ct.o _ x rfl _ y rfl;exact qha):Zp:=h
theorem cA.qfo(h:Zp:=by
 simp only at c1 aW K bM;cases bf:im az [x,y] w with
 |error f=>
  obtain⟨c,p⟩:=f;rw[bf]at K;have R:M _:=bM.o.trans (yd bf);clear bf bM;go_wp2_with (go_at_call 60;refine yai K.o ?_;rintro e a7 ⟨rfl,C⟩);go_ret;rw[R.o];exact⟨rfl,C.1,C.2.1,bk.o.bad C.2.2⟩
 |ok q=>
  obtain⟨bF,j⟩:=q;rw[bf]at K;have R:M _:=bM.o.trans (AW bf);obtain⟨ab,bo,cG,ad⟩:=jO dd.o.g _ _ J.o bf;clear bf bM
  obtain⟨n,u,rfl⟩:∃a b,j=[a,b]:=by
   match j,bo with
   |[a,b],_=>exact⟨a,b,rfl⟩
  have aC:=(ad n xac).1;have z:=(ad u xac).1;go_upto_region 14 with (go_at_call 60;refine yai K.o ?_;rintro e a7 ⟨er,d0,rfl,aQ,aU,bN,cp,av,bi,dg⟩);have o:=bq.o _ _ (bk.o.trans bi);obtain⟨bW,T,a6,cr,cb⟩:=av.lenc aC;obtain⟨gf,of,ag,cz,aJ,bD⟩:=dg.at_ xac;subst a6 ag;have aG:M (∀A,Kept 0 0 _ A->A.cell? _=some (dJ aa)/\A.cell? _=some (.int _ w)/\A.cell? _=some _/\A.cell? _=some _/\A.cell? ⟨_,of,_⟩=some (.int _ n)/\A.cell? _=some (.int _ u)):=λA ae=>⟨(ae.cell o.lt xaa).trans (by have:=o.c0 k H;rw[bX.o]at this;exact this),(ae.cell o.lt xaa).trans (by have:=o.c1 k H;rw[bX.o]at this;exact this),(av.keep ae).c1,(ae.cell cr xaa).trans cb,(ae.cell aJ xaa).trans (bD 0 xac),(ae.cell aJ xaa).trans (bD 1 xac)⟩
  have aj:M (∀A,Kept 0 0 _ _->Calls _ _ _ A λe bx=>(∃x:Int,e=.returned _)/\M (TrO W P B _ _ _ _ _ r e _)):=λA ae=>yai (lF (av.keep ae) ab.g (dL _ (dS bF _) n u 0) (ab.g.lenB aC) yag _) (λe bx t=>⟨t.ret,by
   show TrO W P B u1 ap u3 u4 am r e bx
   rw[R.o]
   exact TrO.after ((bk.o.trans bi).keep ae) t⟩)
  have bb:=ab.g.n;have ai:M _:=λA=>Eo aa A;generalize dS bF _=l at aG aj;generalize lw _=U at ai aj;generalize bF.vs.length=N at*;clear cb bD o av bi dg ab ad K R bk bq dd J c1 aW V bo cz aJ cr bX;have q:=λx:KW _=>aG.o _ x.k;refine uB (C:=λD=>∃x:KW a7,D=x.v) 30 (by kernel_rfl) (by kernel_rfl) ⟨⟨a7.drew,dH _⟩,rfl⟩ ?_;simp only[List.take_succ_cons,List.take_zero,List.drop_succ_cons,List.drop_zero]
  repeat (go_big_quiet_step (first
   |(go_at_call 61;exact yai (ai.o _) λe D h=>⟨h.1,⟨_,h.2⟩⟩)
   |(go_at_call 37;exact yai iy λe D h=>⟨h.1,⟨⟨_,(KW.k _).trans h.2⟩,rfl⟩⟩)))
  refine wpQuiet_nil ?_;rintro aA ⟨x,rfl⟩;go_wp2_with (go_at_call 36;refine yai (aj.o _ x.k) ?_;rintro e cf ⟨⟨ex,rfl⟩,C⟩);go_ret;exact C.o):Zp:=h
theorem cA.qhb(h:Zp:=by
 have aq:=bq.o _ _ F;have cv:=yaj ar a5.n;have aL:=dE 0 0 ao (.cells #[h0 x,h0 y] 3);have K:M _:=ya (aX.keep aL) a5.g _ 2 2 _ (Fi aX.far x y) xaa (by intro i hi;simp at hi;obtain rfl|rfl:=hi<;>assumption) (ts.getD k h8).pos;have bM:M (r=lz _ _ x y):=aF.o;have bk:M _:=F.keep aL;have dd:=Q a5;have J:M (∀i∈[x,y],i<az.vs.length):=by intro i hi;simp at hi;obtain rfl|rfl:=hi<;>assumption
 have c1:=aq.c1 k H;have aW:(ao.alloc _).cell? _=_:=(aL.cell aq.lt xaa).trans c1;exact qfn):Zp:=h
open cA in
theorem Cj{W}(Y:TrIn W P B u1 ap u3 u4 am st bG aP loc g aO m cap ts){k}(H:k<m)(bc:k+1<m)(be:opM [43] [45] ts=(k:Int)){r1 bp}(bL:RsG st r1)(bC:∀ak x,r1=.ok (ak,x)->RsG ak bp)(bP:Calls prog 33 #[ge P,.slice bG aP cL,.slice (some ⟨g,aO,none⟩) k cap] W (TrO W P B u1 ap u3 u4 am r1))(bv:∀ak x,r1=.ok (ak,x)->∀A aH aN aM aS,WS A P B aH aN aM aS am ak->Mv (Mst P u1 ap u3 u4) W (Mst P aH aN aM aS) A->Calls prog 33 #[ge P,.slice bG aP cL,.slice (some ⟨g,aO+(k+1)*3,none⟩) (m-(k+1)) (cap-(k+1))] A (TrO A P B aH aN aM aS am bp)):
  Calls prog 33 #[ge P,.slice bG aP cL,.slice (some ⟨g,aO,none⟩) m cap] W (TrO W P B u1 ap u3 u4 am (Fh (ts.getD k h8) r1 bp)):=by
 have V:M _:=fe W g _ m cap _ Y.tk Y.m5 [43] [45];have S:M _:=fe W g _ m cap _ Y.tk Y.m5 [42] [47];rw[be]at V;clear S be;have bQ:=Y.m5;have G:=Y.mc;have bq:M (∀A M',Mv _ W M' A->_):=λA M' ae=>Y.tk.keepC ae.chg Y.tg;exact qcq
theorem cB.qcr(h:Zp:=by
 have ew:0<=(k:Int):=xaa;go_upto_region 3 with (go_at_call 59;refine yai V.o ?_;rintro e Z ⟨rfl,X⟩;obtain rfl:=X.symm);go_upto_region 5 with (go_at_call 59;refine yai S.o ?_;rintro e Z ⟨rfl,X⟩;obtain rfl:=X.symm);clear S;obtain⟨c,p⟩|⟨ak,x⟩:=r1
 ·exact xgb
 obtain⟨O,ar⟩:=br.o ak x rfl;have I:¬((x:Int)<0):=xaa;go_upto_region 8 with (go_at_call 33;refine yai s.o ?_;rintro e Z ⟨rfl,aH,aN,aM,aS,v,bl⟩);have cA:M _:=b0.o ak x rfl Z aH aN aM aS v bl;have ch:=Q bl;clear s b0 v bl;obtain⟨c,p⟩|⟨az,y⟩:=bp
 ·exact xfl
 obtain⟨a5,aY⟩:=ct.o ak x rfl az y rfl;exact qha):Zp:=h
theorem cB.qfo(h:Zp:=by
 simp only at c1 aW K bM;cases bf:im az [x,y] w with
 |error f=>
  obtain⟨c,p⟩:=f;rw[bf]at K;have R:M _:=bM.o.trans (yd bf);clear bf bM;go_wp2_with (go_at_call 60;refine yai K.o ?_;rintro e a7 ⟨rfl,C⟩);go_ret;rw[R.o];exact⟨rfl,C.1,C.2.1,bk.o.bad C.2.2⟩
 |ok q=>
  obtain⟨bF,j⟩:=q;rw[bf]at K;have R:M (r=_):=bM.o.trans (AW bf);obtain⟨ab,bo,cG,ad⟩:=jO dd.o.g [x,y] w J.o bf;clear bf bM
  obtain⟨n,u,rfl⟩:∃a b,j=[a,b]:=by
   match j,bo with
   |[a,b],_=>exact⟨a,b,rfl⟩
  have aC:=(ad n xac).1;have z:=(ad u xac).1;go_upto_region 14 with (go_at_call 60;refine yai K.o ?_;rintro e a7 ⟨er,d0,rfl,aQ,aU,bN,cp,av,bi,dg⟩);have o:=bq.o a7 _ (bk.o.trans bi);obtain⟨bW,T,a6,cr,cb⟩:=av.lenc aC;obtain⟨gf,of,ag,cz,aJ,bD⟩:=dg.at_ xac;subst a6 ag;have aG:M (∀A,Kept 0 0 a7 A->A.cell? ⟨g,aO+k*3,none⟩=some (dJ aa)/\A.cell? ⟨g,aO+k*3+1,none⟩=some (h0 w)/\A.cell? ⟨P,1,none⟩=some (hZ bW bF.vs.length T)/\A.cell? ⟨bW,n*6+1,none⟩=some (h0 (dS bF n))/\A.cell? ⟨gf,of,none⟩=some (h0 (n:Nat))/\A.cell? ⟨gf,of+1,none⟩=some (h0 (u:Nat))):=λA ae=>⟨(ae.cell (p:=⟨g,aO+k*3,none⟩) o.lt xaa).trans (by have:=o.c0 k H;rw[bX.o]at this;exact this),(ae.cell (p:=⟨g,aO+k*3+1,none⟩) o.lt xaa).trans (by have:=o.c1 k H;rw[bX.o]at this;exact this),(av.keep ae).c1,(ae.cell (p:=⟨bW,n*6+1,none⟩) cr xaa).trans cb,(ae.cell (p:=⟨gf,of,none⟩) aJ xaa).trans (bD 0 xac),(ae.cell (p:=⟨gf,of+1,none⟩) aJ xaa).trans (bD 1 xac)⟩
  have aj:M (∀A,Kept 0 0 a7 A->Calls prog 36 #[ge P,(dL (lw aa) (dS bF n) (n:Nat) (u:Nat) 0).agg,h0 w] A λe bx=>(∃x:Int,e=.returned (h0 x))/\M (TrO W P B u1 ap u3 u4 am r e bx)):=λA ae=>yai (lF (av.keep ae) ab.g (dL (lw aa) (dS bF n) (n:Nat) (u:Nat) 0) (ab.g.lenB aC) yag w) (λe bx t=>⟨t.ret,by
   show TrO W P B u1 ap u3 u4 am r e bx
   rw[R.o]
   exact TrO.after ((bk.o.trans bi).keep ae) t⟩)
  have bb:=ab.g.n;have ai:M _:=λA=>Eo aa A;generalize dS bF n=l at aG aj;generalize lw aa=U at ai aj;generalize bF.vs.length=N at*;clear cb bD o av bi dg ab ad K R bk bq dd J c1 aW V bo cz aJ cr bX;have q:=λx:KW a7=>aG.o _ x.k;refine uB (C:=λD=>∃x:KW a7,D=x.v) 30 (by kernel_rfl) (by kernel_rfl) ⟨⟨a7.drew,dH _⟩,rfl⟩ ?_;simp only[List.take_succ_cons,List.take_zero,List.drop_succ_cons,List.drop_zero]
  repeat (go_big_quiet_step (first
   |(go_at_call 61;exact yai (ai.o _) λe D h=>⟨h.1,⟨_,h.2⟩⟩)
   |(go_at_call 37;exact yai iy λe D h=>⟨h.1,⟨⟨D,(KW.k _).trans h.2⟩,rfl⟩⟩)))
  refine wpQuiet_nil ?_;rintro aA ⟨x,rfl⟩;go_wp2_with (go_at_call 36;refine yai (aj.o _ x.k) ?_;rintro e cf ⟨⟨ex,rfl⟩,C⟩);go_ret;exact C.o):Zp:=h
theorem cB.qhb(h:Zp:=by
 have aq:=bq.o ao _ F;have cv:=yaj ar a5.n;have aL:=dE 0 0 ao (.cells #[h0 x,h0 y] 3);have K:M _:=ya (aX.keep aL) a5.g _ 2 2 [x,y] (Fi aX.far x y) xaa (by intro i hi;simp at hi;obtain rfl|rfl:=hi<;>assumption) (ts.getD k h8).pos;have bM:M (r=lz az (ts.getD k h8) x y):=aF.o;have bk:M _:=F.keep aL;have dd:=Q a5;have J:M (∀i∈[x,y],i<az.vs.length):=by intro i hi;simp at hi;obtain rfl|rfl:=hi<;>assumption
 have c1:=aq.c1 k H;have aW:(ao.alloc (.cells #[h0 x,h0 y] 3)).cell? ⟨g,aO+k*3+1,none⟩=_:=(aL.cell (p:=⟨g,aO+k*3+1,none⟩) aq.lt xaa).trans c1;exact qfn):Zp:=h
open cB in
theorem Ck{W}(Y:TrIn W P B u1 ap u3 u4 am st bG aP loc g aO m cap ts){k}(H:k<m)(bc:k+1<m)(i1:opM [43] [45] ts=-1)(be:opM [42] [47] ts=(k:Int)){r1 bp}(bL:RsG st r1)(bC:∀ak x,r1=.ok (ak,x)->RsG ak bp)(bP:Calls prog 33 #[ge P,.slice bG aP cL,.slice (some ⟨g,aO,none⟩) k cap] W (TrO W P B u1 ap u3 u4 am r1))(bv:∀ak x,r1=.ok (ak,x)->∀A aH aN aM aS,WS A P B aH aN aM aS am ak->Mv (Mst P u1 ap u3 u4) W (Mst P aH aN aM aS) A->Calls prog 33 #[ge P,.slice bG aP cL,.slice (some ⟨g,aO+(k+1)*3,none⟩) (m-(k+1)) (cap-(k+1))] A (TrO A P B aH aN aM aS am bp)):
  Calls prog 33 #[ge P,.slice bG aP cL,.slice (some ⟨g,aO,none⟩) m cap] W (TrO W P B u1 ap u3 u4 am (Fh (ts.getD k h8) r1 bp)):=by
 have V:M _:=fe W g aO m cap ts Y.tk Y.m5 [43] [45];have S:M _:=fe W g aO m cap ts Y.tk Y.m5 [42] [47];rw[i1]at V;rw[be]at S;clear be i1;have bQ:=Y.m5;have G:=Y.mc;have bq:M (∀A M',Mv (Mst P u1 ap u3 u4) W M' A->_):=λA M' ae=>Y.tk.keepC ae.chg Y.tg;exact qcq
end
section
open Go.RowKit Flt
variable{r:Rs (LSt×Nat)}
theorem uC{b}(h:dQ (f+1) st loc (.bin o a b)=some r):∃r1 bp,dQ f st loc a=some r1/\(∀ak x,r1=.ok (ak,x)->dQ f ak loc b=some bp)/\r=Fh o r1 bp:=by
 rw[dQ]at h;cases z:dQ f st loc a with
 |none=>rw[z]at h;cases h
 |some r1=>
  rw[z]at h;obtain⟨c,p⟩|⟨ak,x⟩:=r1
  ·cases h;exact⟨_,.error (c,p),rfl,λ_ _ e=>(by cases e),rfl⟩
  simp only[iE]at h;cases J:dQ f ak loc b with
  |none=>grind
  |some bp=>
   rw[J]at h;refine⟨.ok (ak,x),bp,rfl,λ_ _ e=>(by cases e;exact J),?_⟩;obtain⟨c,p⟩|⟨az,y⟩:=bp
   ·cases h;rfl
   cases h;rfl
theorem Fj(ts us o):(ts++o::us).getD ts.length h8=o:=by
 simp_all
theorem i7{n es ts}(h:Pr n es ts):0<ts.length:=by
 induction h<;>grind
section
variable{f:Nat}{W:World}{P B:Nat}{u1 ap u3 u4:Value}{am:List Bc}{st:LSt}{bG:Option Addr}{aP cL:Nat}{loc:Loc}{g aO m cap:Nat}{ts us:List Tok}{o:Tok}{a b:Ex}{r:Rs (LSt×Nat)}
theorem uD(D:TrC f)(Y:TrIn W P B u1 ap u3 u4 am st bG aP loc g aO m cap (ts++o::us)){n1 aI}(F:Pr n1 [a] ts)(I:Pr aI [b] us)(z:n1<=2)(J:aI<=2){r1 bp}(K:dQ f st loc a=some r1)(a6:∀ak x,r1=.ok (ak,x)->dQ f ak loc b=some bp):
  RsG st r1/\(∀ak x,r1=.ok (ak,x)->RsG ak bp)/\
  Calls prog 33 #[ge P,.slice bG aP cL,.slice (some ⟨g,aO,none⟩) ts.length cap] W (TrO W P B u1 ap u3 u4 am r1)/\
  (∀ak x,r1=.ok (ak,x)->∀A aH aN aM aS,WS A P B aH aN aM aS am ak->Mv (Mst P u1 ap u3 u4) W (Mst P aH aN aM aS) A->Calls prog 33 #[ge P,.slice bG aP cL,.slice (some ⟨g,aO+(ts.length+1)*3,none⟩) (m-(ts.length+1)) (cap-(ts.length+1))] A (TrO A P B aH aN aM aS am bp)):=by
 have aR:=Y.tk.len;rw[yak,yap]at aR;have bK:=Y.mc;have bD:=ji F (λt az=>Y.ti t (by simp[az])) a xac;have T:=ji I (λt az=>Y.ti t (by simp[az])) b xac;have bz:=fE f st loc a Y.gd Y.nm Y.lo bD r1 K;refine⟨bz,λak x e=>?_,?_,λak x e A aH aN aM aS X bH=>?_⟩
 ·have w:=(bz ak x e).1;exact fE f ak loc b w.g (Y.nm.gw w) (Y.lo.le w.n) T bp (a6 ak x e)
 ·have h:=Y.sub Y.ws (Gw.refl Y.gd) (Mv.refl _ W) 0 ts.length xaa ts xac (cap':=cap) xaa;rw[Nat.zero_mul,Nat.add_zero,Nat.sub_zero]at h;exact D W P B u1 ap u3 u4 am st bG aP cL loc g aO ts.length cap ts h n1 a F z r1 K
 have h:=Y.sub X (bz ak x e).1 bH (ts.length+1) m yac us (by
  rw[List.drop_append,List.drop_of_length_le xaa,show ts.length+1-ts.length=1 by omega,List.nil_append,List.drop_succ_cons,List.drop_zero,yao xaa]) (cap':=cap-(ts.length+1)) xaa
 exact D A P B aH aN aM aS am ak bG aP cL loc g _ _ _ us h aI b I J bp (a6 ak x e)
theorem Fk(D:TrC f)(Y:TrIn W P B u1 ap u3 u4 am st bG aP loc g aO m cap (ts++o::us))(F:Pr 2 [a] ts)(av:o.sym=[43]\/o.sym=[45])(I:Pr 1 [b] us)(h:dQ (f+1) st loc (.bin o a b)=some r):
  Calls prog 33 #[ge P,.slice bG aP cL,.slice (some ⟨g,aO,none⟩) m cap] W (TrO W P B u1 ap u3 u4 am r):=by
 obtain⟨r1,bp,K,a6,rfl⟩:=uC h;obtain⟨bw,p2,ah,ar⟩:=uD (cL:=cL) D Y F I xaa xaa K a6;have aR:=Y.tk.len;rw[yak,yap]at aR;have ab:=i7 I;have t:=Cj Y xaa xaa (Mg F av I) bw p2 ah ar;rw[Fj]at t;exact t
theorem Fl(D:TrC f)(Y:TrIn W P B u1 ap u3 u4 am st bG aP loc g aO m cap (ts++o::us))(F:Pr 1 [a] ts)(av:o.sym=[42]\/o.sym=[47])(I:Pr 0 [b] us)(h:dQ (f+1) st loc (.bin o a b)=some r):
  Calls prog 33 #[ge P,.slice bG aP cL,.slice (some ⟨g,aO,none⟩) m cap] W (TrO W P B u1 ap u3 u4 am r):=by
 obtain⟨r1,bp,K,a6,rfl⟩:=uC h;obtain⟨bw,p2,ah,ar⟩:=uD (cL:=cL) D Y F I xaa xaa K a6;have aR:=Y.tk.len;rw[yak,yap]at aR;have ab:=i7 I;have t:=Ck Y xaa xaa (D5 (Pr.mul F av I)) (Mh F av I) bw p2 ah ar;rw[Fj]at t;exact t
end
theorem Cl(h:dQ (f+1) st loc (.neg o a)=some r):∃r1,dQ f st loc a=some r1/\r=MY o.pos r1:=by
 exact xct
section
variable{f:Nat}{W:World}{P B:Nat}{u1 ap u3 u4:Value}{am:List Bc}{st:LSt}{bG:Option Addr}{aP cL:Nat}{loc:Loc}{g aO m cap:Nat}{ts:List Tok}{o t:Tok}{a:Ex}{r:Rs (LSt×Nat)}
theorem Cm(Y:TrIn W P B u1 ap u3 u4 am st bG aP loc g aO m cap [t])(az:t.sym=eu)(h:dQ (f+1) st loc (.name t)=some r):
  Calls prog 33 #[ge P,.slice bG aP cL,.slice (some ⟨g,aO,none⟩) m cap] W (TrO W P B u1 ap u3 u4 am r):=by
 rw[dQ]at h;have e:r=Ff st _:=(h4 h).symm;have k:=zE (cL:=cL) Y (Pr.name az) az Y.tk.len.symm;rw[e];exact k
theorem Fm(D:TrC f)(Y:TrIn W P B u1 ap u3 u4 am st bG aP loc g aO m cap (o::ts))(av:o.sym=[45])(F:Pr 0 [a] ts)(h:dQ (f+1) st loc (.neg o a)=some r):
  Calls prog 33 #[ge P,.slice bG aP cL,.slice (some ⟨g,aO,none⟩) m cap] W (TrO W P B u1 ap u3 u4 am r):=by
 obtain⟨r1,K,rfl⟩:=Cl h;have aR:=Y.tk.len;rw[yap]at aR;have ab:=i7 F;have bK:=Y.mc;have bD:=ji F (λt az=>Y.ti t (by simp[az])) a xac;refine Ci Y (Pr.neg av F) av xaa (fE f _ _ a Y.gd Y.nm Y.lo bD _ K) (λA k=>?_)
 have ai:=Y.sub (Y.ws.keep k) (Gw.refl Y.gd) (Mv.of k) 1 m yac _ (by
  rw[List.drop_succ_cons,List.drop_zero,yao xaa]) (cap':=cap-1) xaa
 exact D _ P B _ _ _ _ _ _ _ _ _ _ g _ _ _ _ ai 0 a F xaa _ K
theorem Fo{l q}(Y:TrIn W P B u1 ap u3 u4 am st bG aP loc g aO m cap (l::(ts++[q])))(ab:l.sym=[40])(F:Pr 2 [a] ts)(an:q.sym=[41])
  (D:∀A,TrIn A P B u1 ap u3 u4 am st bG aP loc g (aO+3) (m-2) (cap-1) ts->Calls prog 33 #[ge P,.slice bG aP cL,.slice (some ⟨g,aO+3,none⟩) (m-2) (cap-1)] A (TrO A P B u1 ap u3 u4 am r)):
  Calls prog 33 #[ge P,.slice bG aP cL,.slice (some ⟨g,aO,none⟩) m cap] W (TrO W P B u1 ap u3 u4 am r):=by
 have aR:=Y.tk.len;rw[yap,yak,List.length_singleton]at aR;have bK:=Y.mc;refine Cg Y (Pr.par ab F an) ab xaa r (λA k=>?_)
 have ai:=Y.sub (Y.ws.keep k) (Gw.refl Y.gd) (Mv.of k) 1 (m-1) xaa _ (by
  rw[List.drop_succ_cons,List.drop_zero,List.take_append_of_le_length xaa,yao xaa]) (cap':=cap-1) xaa
 rw[show m-1-1=m-2 by omega]at ai;exact yai (D _ ai) (λe bx t=>TrO.back k t)
end
end
section
open Go.RowKit Flt
attribute[local go_sem] dI dG dF
variable{P B aP cL bV ab bZ q o bH c0:Nat}{u1 ap u3 u4:Value}{am:List Bc}{bG:Option Addr}
def uE(op:Int)(one:Bool)(p:Nat)(r:Rs (LSt×Nat)):Rs (LSt×Nat):=match r with|.error f=>.error f|.ok (s,a)=>eg s (dL op (if one then 1 else dS s a) (a:Int) 0 0) p
theorem bW.qcn(h:Zp:=by
 have aj:M (∀A,Kept 0 0 Z A->Calls prog 36 #[ge P,(dL 13 (dS s a) (a:Int) 0 0).agg,h0 a0] A λe bx=>(∃x:Int,e=.returned (h0 x))/\M (TrO W P B u1 ap u3 u4 am r e bx)):=λA ae=>yai (lF (v.keep ae) w.g (dL 13 (dS s a) (a:Int) 0 0) (w.g.lenB F) yag a0) (λe bx t=>⟨t.ret,by
  show TrO W P B u1 ap u3 u4 am r e bx
  rw[aF.o]
  exact TrO.back ay.o (TrO.after (bl.keep ae) t)⟩)
 exact qfv):Zp:=h
theorem bW.qfw(h:Zp:=by
 go_upto_region 11 with fail;exact xdg):Zp:=h
open bW in
theorem Cn{W}(h:WS W P B u1 ap u3 u4 am st){a0 i1}(b9:1<=ab)(ch:bV<W.heap.size)(aZ:W.cell? ⟨bV,0,none⟩=some (.slice (some ⟨q,o,none⟩) bH c0)){r1}(bL:RsG st r1)(aE:∀A,Kept 0 0 W A->Calls prog 33 #[ge P,.slice bG aP cL,.slice (some ⟨q,o,none⟩) bH c0] A (TrO A P B u1 ap u3 u4 am r1)):
  Calls prog 65 #[ge P,.slice bG aP cL,iU ⟨[101,120,112],a0,i1⟩,hZ bV ab bZ] W (TrO W P B u1 ap u3 u4 am (uE 13 false a0 r1)):=by
 have aw:M _:=gK W [101,120,112] a0 i1;have ay:M _:=dE 0 0 W (.cells #[dJ [101,120,112],h0 a0,dJ i1] 39);have bk:=Q h.far;have bq:=(ay.o.cell (p:=⟨bV,0,none⟩) ch xaa).trans aZ;have ai:=Q aE;have br:=Q bL;obtain⟨r,ah⟩:∃r,r=uE 13 false a0 r1:=⟨_,rfl⟩
 rw[<-ah];have aF:=Q ah;clear ah h bL aE aZ;unfold iU;simp only;go_enter func65,ntmps65;go_upto_region 2 with fail;change Code.wp _ _ _ _ (W.alloc (.cells #[dJ [101,120,112],h0 a0,dJ i1] 39));generalize W.alloc (.cells #[dJ [101,120,112],h0 a0,dJ i1] 39)=aq at aw ay bq⊢;generalize W.heap.size=bh at aw bk⊢;have bP:M _:=ai.o aq ay.o;have bK:=aw.o.c0;clear ai;obtain⟨c,p⟩|⟨s,a⟩:=r1
 ·exact xds
 exact qcm
theorem bX.qcn(h:Zp:=by
 have aj:M (∀A,Kept 0 0 _ A->Calls _ _ _ _ λe bx=>(∃x:Int,e=.returned _)/\M (TrO W P B _ _ _ _ _ r e _)):=λA ae=>yai (lF (v.keep ae) w.g (dL 9 1 _ 0 0) ⟨by show(1:Int)<=1;decide,by show(1:Int)<=1000;decide⟩ yag _) (λe bx t=>⟨t.ret,by
  show TrO W P B u1 ap u3 u4 am r e bx
  rw[aF.o]
  exact TrO.back ay.o (TrO.after (bl.keep ae) t)⟩)
 exact qfv):Zp:=h
theorem bX.qfw(h:Zp:=by
 go_upto_region 13 with fail
 go_region_with (first
  |(go_at_call 37;refine yai iy ?_;rintro e ao ⟨rfl,a5⟩;have f:=(aX.o.keep ((dH _).trans a5)).c1)
  |(go_at_call 36;refine yai (aj.o _ ((dH _).trans a5)) ?_;rintro e a7 ⟨⟨x,rfl⟩,C⟩))
 all_goals (go_wp2_with fail;go_ret;exact C.o)):Zp:=h
open bX in
theorem Co{W}(h:WS W P B u1 ap u3 u4 am st){a0 i1}(b9:1<=ab)(ch:bV<W.heap.size)(aZ:W.cell? ⟨bV,0,none⟩=some (.slice (some ⟨q,o,none⟩) bH c0)){r1}(bL:RsG st r1)(aE:∀A,Kept 0 0 W A->Calls prog 33 #[ge P,.slice bG aP cL,.slice (some ⟨q,o,none⟩) bH c0] A (TrO A P B u1 ap u3 u4 am r1)):
  Calls prog 65 #[ge P,.slice bG aP cL,iU ⟨[115,117,109],a0,i1⟩,hZ bV ab bZ] W (TrO W P B u1 ap u3 u4 am (uE 9 true a0 r1)):=by
 have aw:M _:=gK W [115,117,109] a0 i1;have ay:M _:=dE 0 0 W (.cells #[dJ [115,117,109],h0 a0,dJ i1] 39);have bk:=Q h.far;have bq:=(ay.o.cell ch xaa).trans aZ;have ai:=Q aE;have br:=Q bL;obtain⟨r,ah⟩:∃r,r=uE 9 true a0 r1:=⟨_,rfl⟩
 rw[<-ah];have aF:=Q ah;clear ah h bL aE aZ;unfold iU;simp only;go_enter func65,ntmps65;go_upto_region 2 with fail;change Code.wp _ _ _ _ (W.alloc (.cells _ 39));generalize W.alloc _=aq at aw ay bq⊢;generalize W.heap.size=bh at aw bk⊢;have bP:M _:=ai.o _ ay.o;have bK:=aw.o.c0;clear ai;obtain⟨c,p⟩|⟨s,a⟩:=r1
 ·exact xds
 exact qcm
