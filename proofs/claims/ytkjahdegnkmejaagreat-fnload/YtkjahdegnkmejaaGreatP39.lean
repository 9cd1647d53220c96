import Derived.Test.YtkjahdegnkmejaaGreatP38
import Derived.Test.YtkjahdegnkmejaaGreatP34
namespace Go.Proofs.Z
variable{Zp:Prop}
open Tryz
set_option maxRecDepth 1000000
set_option maxHeartbeats 0
open Go.RowKit Flt
attribute[local go_sem] eE eC eB
variable{P I g Q an cL m cap:Nat}{u1 u2 u3 u4:Value}{bs:List Bc}{st:LSt}{af:Option Addr}{u:Loc}{ts:List Tok}
theorem aT.qbk(h:Zp:=by
 have d:V (lP _ ⟨[112,117,116],_,aa⟩ a n ae=if eW st a≠1 then .error (4,aS)
  else if ii _<1\/1000<ii _ then .error _
  else if ii _<=ii _ then .error _ else fQ _ _ aS):=rfl
 have cp:=aH.len a aB;change 1<=eW _ a/\eW _ a<=1000 at cp;have bF:V _:=h;have aG:V _:=a5;have cu:V _:=b0;obtain⟨b5,cap,be,cr,-⟩:=h.lenc aB
 have HL:V (∀F,Kept 0 0 W F->F.cell? _=some (.slice _ _ _)/\F.cell? _=some _/\(F.cell? _=some _/\F.cell? _=some _/\F.cell? _=some _/\F.cell? _=some _)/\(F.cell? _=some _/\F.cell? _=some _/\F.cell? _=some _/\F.cell? _=some _)):=λF al=>by
  obtain⟨a2,bd,ah,_,c3⟩:=(bF.o.keep al).lenc aB
  rw[be]at ah
  cases ah
  exact⟨(bF.o.keep al).c1.trans (congrArg some be),c3,(aG.o.keep al).cells,(cu.o.keep al).cells⟩
 generalize lP _ _ a n _=r at d⊢;generalize eW _ a=l at cp HL d;generalize ew:st.vs.length=aZ at*;clear ew h a5 b0 aH bI O bF aG cu be cr;unfold iS at cn j⊢;obtain⟨b2,K,b⟩:=n;obtain⟨C,w,G⟩:=ae;simp only at cn j hb aD HL d⊢;generalize ii _=m at*;generalize ii _=b6 at*;exact qet):Zp:=h
theorem aT.qeu(h:Zp:=by
 obtain⟨aJ,aP,⟨bw,b3,cf,cz⟩,bq,bB,cF,bD⟩:=HL.o _ HK.o;exact qgi):Zp:=h
theorem aT.qgj(h:Zp:=by
 clear aJ aP bw b3 cf cz bq bB cF bD bE ao HK aC cn;obtain⟨aJ,aP,⟨bw,b3,cf,cz⟩,bq,bB,cF,bD⟩:=HL.o _ bN.o;have bE:=y.o.c0;have R:=y.o.c1;by_cases B:l=1
 ·subst B;have aj:V _:=d.o.trans (ip xac);clear d;go_upto_region 14 with (go_at_call 104;refine yaj (j.o _) ?_;rintro e aM ⟨rfl,a9⟩);have bZ:V _:=bN.o.trans a9;have b7:V _:=y.o.keep a9;clear aJ aP bw b3 cf cz bq bB cF bD bE R y bN a9 j;obtain⟨aJ,aP,⟨bw,b3,cf,cz⟩,bq,bB,cF,bD⟩:=HL.o _ bZ.o;have bE:=b7.o.c0;have R:=b7.o.c1;clear HL;by_cases N:b6<1
  ·have H:V _:=aj.o.trans (iv (.inl N));exact xdd
  by_cases h3:1000<b6
  ·have H:V _:=aj.o.trans (iv (.inr h3));exact xdd
  have cS:V _:=aj.o.trans (ip xaa);clear aj;by_cases bp:b6<=m
  ·have H:V _:=cS.o.trans (iv bp);exact xdd
  have H:V _:=cS.o.trans (ip bp);have bQ:V _:=λF al=>ai.o F (eK 12 _ a 0 m) al (by show 1<=b6/\b6<=1000;omega) yah;go_upto_region 18 with fail
  go_region_with (first
   |(go_at_call 60;refine yaj (gq _ _ _ _ _ _) ?_;rintro e bx ⟨rfl,bS⟩;have f:=(b7.o.keep ((eD _).trans bS)).c1)
   |(go_at_call 105;refine yaj (bQ.o _ (bZ.o.trans ((eD _).trans bS))) ?_;rintro e bz ⟨⟨x,rfl⟩,bh⟩))
  all_goals (go_wp2_with fail;go_ret;rw[H.o];exact bh.o)
 have H:V _:=d.o.trans (iv B);have cU:=yax B;clear HL;go_wp2_with (first|(go_at_call 101;refine yaj (bo.o _ _ bN.o) ?_;rintro e bx ⟨rfl,ba⟩)|fail);exact xdw):Zp:=h
open aT in
theorem GC{W}(h:WS W P I u1 u2 u3 u4 bs st)(aH:Gd st)(k)(J:k.sym=Cx)(a)(aB:a<st.vs.length)(n)(bI:Dgs n.text){bu S ce q o c}(cj:3<=S)(a5:Sg1 W bu 1 q o c n)(ae)(O:Dgs ae.text){aF ck c2}(b0:Sg1 W bu 2 aF ck c2 ae):
  Calls prog 123 #[ge P,iS k,ih a,ia bu S ce] W (TrO W P I u1 u2 u3 u4 bs (lP st k a n ae)):=by
 obtain⟨U,aS,aa⟩:=k;simp only at J;subst J;unfold Cx;have cn:V _:=λF=>yZ n bI F;have j:V _:=λF=>yZ _ O F;have bL:=aH.n;have hb:=pD bI yad;rw[List.take_length]at hb;have aD:=pD O yad;rw[List.take_length]at aD;have ao:V _:=gY W [112,117,116] aS aa;have HK:V _:=eA 0 0 W (.cells #[eL [112,117,116],ih aS,eL aa] 127);exact qbj
structure TrIn(W:World)(P B:Nat)(u1 u2 u3 u4:Value)(bs:List Bc)(st:LSt)(aL:Option Addr)(nL:Nat)(loc:Loc)(g off m cap:Nat)(ts:List Tok):Prop where
 ws:WS W P B u1 u2 u3 u4 bs st
 gd:Gd st
 nm:NmOK st
 lc:LcR (Mst P u1 u2 u3 u4) W aL nL loc
 ln:nL<=5000
 lo:LcOK loc st.vs.length
 tk:TkA W g off m ts
 tg:¬Mst P u1 u2 u3 u4 g
 m5:m<=5000
 mc:m<=cap
 ti:∀t∈ts,t.sym=ik->Dgs t.text
 tn:∀t∈ts,(t.sym=ik\/t.sym=kK)->kr t.text
def TrC(f:Nat):Prop:=∀(W:World) (P B:Nat) (u1 u2 u3 u4:Value) (bs:List Bc) (st:LSt) (aL:Option Addr) (nL cL:Nat) (loc:Loc) (g off m cap:Nat) (ts:List Tok),TrIn W P B u1 u2 u3 u4 bs st aL nL loc g off m cap ts->∀(n:Nat) (e:Ex),Pr n [e] ts->n<=2->∀r,eM f st loc e=some r->
 Calls prog 102 #[.pointer (some ⟨P,0,none⟩),.slice aL nL cL,.slice (some ⟨g,off,none⟩) m cap] W (TrO W P B u1 u2 u3 u4 bs r)
theorem TkA.in_{w n}(h:TkA w g an n ts)(i j us)(G:us=(ts.drop i).take (j-i))(hj:j<=n):TkA w g (an+i*3) (j-i) us:=by subst G;exact h.cut hj
theorem TrIn.sub{W}(h:TrIn W P I u1 u2 u3 u4 bs st af Q u g an m cap ts){F bf bb bc C R}(S:WS F P I bf bb bc C bs R)(w:Gw st R)(k:Mv (Mst P u1 u2 u3 u4) W (Mst P bf bb bc C) F)(i j)(hj:j<=m)(us)(G:us=(ts.drop i).take (j-i)){cap'}(ai:j-i<=cap'):TrIn F P I bf bb bc C bs R af Q u g (an+i*3) (j-i) cap' us where
 ws:=S
 gd:=w.g
 nm:=h.nm.gw w
 lc:=h.lc.mv k
 ln:=h.ln
 lo:=h.lo.le w.n
 tk:=(h.tk.keepC k.chg h.tg).in_ i j us G hj
 tg:=λc=>(k.new g c).elim h.tg (λc=>i4 h.tk.lt)
 m5:=i4 h.m5
 mc:=ai
 ti:=λt ht=>h.ti t (by grind)
 tn:=λt ht=>h.tn t (by grind)
theorem De{W}(ab:TrIn W P I u1 u2 u3 u4 bs st af Q u g an m cap ts){e}(aA:Pr 0 [e] ts)(aj:(ts.getD 0 i1).sym=[40])(N:2<=m)(r)
  (bi:∀F,Kept 0 0 W F->Calls prog 102 #[ge P,.slice af Q cL,.slice (some ⟨g,an+3,none⟩) (m-2) (cap-1)] F (TrO W P I u1 u2 u3 u4 bs r)):
  Calls prog 102 #[ge P,.slice af Q cL,.slice (some ⟨g,an,none⟩) m cap] W (TrO W P I u1 u2 u3 u4 bs r):=by
 have K:V _:=fI W g _ m cap _ ab.tk ab.m5 [43] [45];have bl:V _:=fI W g _ m cap _ ab.tk ab.m5 [42] [47];rw[mh aA]at K bl;have c0:=ab.tk.c0 0 xaa;have c1:=ab.tk.c1 0 xaa;have c2:=ab.tk.c2 0 xaa;rw[aj]at c0;have bJ:=ab.m5;have bn:=ab.mc;have Y:V (∀F,Kept 0 0 W _->Calls _ _ _ _ λe z=>(∃x:Int,e=.returned _)/\V (TrO W P I _ _ _ _ _ r e _)):=λF k=>yaj (bi F k) (λe z t=>⟨t.ret,t⟩);generalize ts.getD 0 _=t at*;clear aj ab aA bi;obtain⟨aW,ps,br⟩:=t;simp only[Nat.zero_mul,Nat.add_zero]at c0 c1 c2;go_enter func102,ntmps102;go_upto_region 3 with (go_at_call 113;refine yaj K.o ?_;rintro e ak ⟨rfl,S⟩;obtain rfl:=S.symm);go_upto_region 15 with (go_at_call 113;refine yaj bl.o ?_;rintro e ak ⟨rfl,S⟩;obtain rfl:=S.symm);go_upto_region 16 with fail;change Code.wp _ _ _ _ (W.alloc (.cells #[eL _,.int _ ps,eL _] 127));have ao:V _:=gY W [40] ps br;have HK:V _:=eA 0 0 W (.cells #[eL [40],ih ps,eL br] 127);generalize W.alloc _=aq at ao HK⊢;generalize W.heap.size=bP at ao⊢;have bE:=ao.o.c0;have aw:V _:=Y.o _ HK.o;clear c0 c1 c2 K bl ao Y;go_wp2_with (go_at_call 102;refine yaj aw.o ?_;rintro e ak ⟨⟨x,rfl⟩,bh⟩);go_ret;exact bh.o
def GD(st:LSt)(q:Rs Nat):Rs (LSt×Nat):=match q with|.error f=>.error f|.ok v=>.ok (st,v)
theorem x.qak(h:Zp:=by
 change Code.wp _ _ _ _ (W.alloc (.cells #[eL [110,97,109,101],ih ps,eL br] 127));have ao:V _:=gY W [110,97,109,101] ps br;have HK:V _:=eA 0 0 W (.cells #[eL [110,97,109,101],ih ps,eL br] 127);generalize W.alloc (.cells #[eL [110,97,109,101],ih ps,eL br] 127)=aq at ao HK⊢;generalize W.heap.size=bP at ao⊢;have b:V _:=b2.o aq HK.o;obtain⟨bE,R,a6⟩:aq.cell? ⟨bP,0,none⟩=some (eL [110,97,109,101])/\aq.cell? ⟨bP,1,none⟩=some (ih ps)/\aq.cell? ⟨bP,2,none⟩=some (eL br):=⟨ao.o.c0,ao.o.c1,ao.o.c2⟩
 clear c0 c1 c2 K bl ao b2;generalize fw st u ⟨[110,97,109,101],ps,br⟩=q at b HR;rcases q with⟨c,p⟩|v
 ·exact xdn
 go_wp2_with (go_at_call 116;refine yaj b.o ?_;rintro e ak ⟨rfl,aC⟩);go_ret;rw[HR.o];exact⟨rfl,u1,u2,u3,u4,bF.o.keep (HK.o.trans aC),Mv.of (HK.o.trans aC)⟩):Zp:=h
theorem x.qeh(h:Zp:=by
 have b2:V (∀F,Kept 0 0 W F->_):=λF k=>xy (ab.ws.keep k) ab.gd.m af Q cL u (ab.lc.keep k) ab.ln (ts.getD 0 i1);have bF:V _:=ab.ws;unfold gz at aj;generalize ts.getD 0 i1=t at*;clear ab aA;obtain⟨aW,ps,br⟩:=t;simp only at aj;subst aj;simp only[Nat.zero_mul,Nat.add_zero]at c0 c1 c2;obtain⟨r,au⟩:∃r,r=GD st (fw st u ⟨[110,97,109,101],ps,br⟩):=⟨_,rfl⟩
 rw[<-au];have HR:V _:=au;clear au;exact qaj):Zp:=h
open x in
theorem AW{W}(ab:TrIn W P I u1 u2 u3 u4 bs st af Q u g an m cap ts){e}(aA:Pr 0 [e] ts)(aj:(ts.getD 0 i1).sym=gz)(B:m=1):
  Calls prog 102 #[ge P,.slice af Q cL,.slice (some ⟨g,an,none⟩) m cap] W (TrO W P I u1 u2 u3 u4 bs (GD st (fw st u (ts.getD 0 i1)))):=by
 subst B;have K:V _:=fI W g an 1 cap ts ab.tk ab.m5 [43] [45];have bl:V _:=fI W g an 1 cap ts ab.tk ab.m5 [42] [47];exact qeg
