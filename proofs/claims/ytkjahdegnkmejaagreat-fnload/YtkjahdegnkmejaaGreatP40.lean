import Derived.Test.YtkjahdegnkmejaaGreatP39
import Derived.Test.YtkjahdegnkmejaaGreatP19
namespace Go.Proofs.Z
variable{Zp:Prop}
open Tryz Go.RowKit Flt
set_option maxRecDepth 1000000
set_option maxHeartbeats 0
section
attribute[local go_sem] eE eC eB
variable{P I a b Q cL g an m cap:Nat}{u1 u2 u3 u4:Value}{st:LSt}{bs:List Bc}{F:World}{af:Option Addr}{r:Rs (LSt×Nat)}{u:Loc}{ts:List Tok}
theorem WS.far{W}(h:WS W P I u1 u2 u3 u4 bs st):¬Mst P u1 u2 u3 u4 W.heap.size:=by
 exact xfy
theorem TrO.after{W0 aq bf bb bc C e}(k:Mv (Mst P u1 u2 u3 u4) W0 (Mst P bf bb bc C) aq)(h:TrO aq P I bf bb bc C bs r e F):TrO W0 P I u1 u2 u3 u4 bs r e F:=by
 rcases r with⟨c,p⟩|⟨st,v⟩
 ·obtain⟨B,N,h3,bp⟩:=h;exact⟨B,N,h3,k.bad bp⟩
 obtain⟨B,aK,ak,aM,bx,N,h3⟩:=h;exact⟨B,_,_,_,_,N,k.trans h3⟩
theorem TB.keepC{W p s k x}(h:TB W p s k x){S}(c:Chg S W F)(a5:¬S p):TB F p s k x:=
 ⟨yak h.lt c.size,(c.cell (p:=⟨p,0,none⟩) h.lt a5).trans h.c0,(c.cell (p:=⟨p,1,none⟩) h.lt a5).trans h.c1,(c.cell (p:=⟨p,2,none⟩) h.lt a5).trans h.c2,λo=>(c.frozen (p:=⟨p,o,none⟩) h.lt a5).trans (h.fr o)⟩
def N0(p:Nat)(r:Rs (LSt×Nat)):Rs (LSt×Nat):=match r with|.error f=>.error f|.ok (s,a)=>fQ s (eK 6 (eW s a) (a:Int) 0 0) p
theorem y.qak(h:Zp:=by
 change Code.wp _ _ _ _ (W.alloc (.cells #[eL _,.int _ _,eL _] 127));have ao:V _:=gY W [45] ps br;have HK:V _:=eA 0 0 W (.cells #[eL [45],ih ps,eL br] 127);generalize W.alloc _=aq at ao HK⊢;generalize W.heap.size=bP at ao aO⊢;have aw:V _:=Y.o _ HK.o;have bE:=ao.o.c0;clear c0 c1 c2 K bl Y;rcases ar with⟨c,p⟩|⟨s,a⟩
 ·exact xdz
 obtain⟨w,aB⟩:=bD.o s a rfl;go_upto_region 18 with (go_at_call 102;refine yaj aw.o ?_;rintro e ak ⟨rfl,bf,bb,bc,C,v,a7⟩);have y:V _:=ao.o.keepC a7.chg aO.o;obtain⟨b5,cv,be,cr,b4⟩:=v.lenc aB;have ce:=v.c1;subst be
 have ai:V (∀F,Kept 0 0 _ F->Calls _ _ _ _ λe z=>(∃x:Int,e=.returned _)/\V (TrO W P I _ _ _ _ _ r e _)):=λF al=>yaj (lV (v.keep al) w.g (eK 6 (eW s a) _ 0 0) (w.g.lenB aB) yah _) (λe z t=>⟨t.ret,by
  show TrO W P I u1 u2 u3 u4 bs r e z
  rw[HR.o]
  exact TrO.back HK.o (TrO.after (a7.keep al) t)⟩)
 have R:=y.o.c1;have bL:=w.g.n;generalize eW s a=l at b4 ai;generalize s.vs.length=aZ at*;clear v a7 aw ao HR bD w bE;go_upto_region 20 with fail;exact xdo):Zp:=h
theorem y.qeh(h:Zp:=by
 have aO:V _:=ab.ws.far;have Y:V _:=bi;have bD:V _:=bR;generalize ts.getD 0 _=t at*;clear ab aA bi bR;obtain⟨aW,ps,br⟩:=t;simp only at aj;subst aj;simp only[Nat.zero_mul,Nat.add_zero]at c0 c1 c2;obtain⟨r,au⟩:∃r,r=N0 ps ar:=⟨_,rfl⟩
 simp only;rw[<-au];have HR:V _:=au;clear au;exact qaj):Zp:=h
open y in
theorem Df{W}(ab:TrIn W P I u1 u2 u3 u4 bs st af Q u g an m cap ts){e}(aA:Pr 0 [e] ts)(aj:(ts.getD 0 i1).sym=[45])(N:2<=m)(ar)(bR:RsG st ar)
  (bi:∀F,Kept 0 0 W F->Calls prog 102 #[ge P,.slice af Q cL,.slice (some ⟨g,an+3,none⟩) (m-1) (cap-1)] F (TrO F P I u1 u2 u3 u4 bs ar)):
  Calls prog 102 #[ge P,.slice af Q cL,.slice (some ⟨g,an,none⟩) m cap] W (TrO W P I u1 u2 u3 u4 bs (N0 (ts.getD 0 i1).pos ar)):=by
 have K:V _:=fI W g _ m cap _ ab.tk ab.m5 [43] [45];have bl:V _:=fI W g _ m cap _ ab.tk ab.m5 [42] [47];exact qeg
def GE(o:Tok)(r1 r2:Rs (LSt×Nat)):Rs (LSt×Nat):=match r1 with
 |.error f=>.error f
 |.ok (_,x)=>match r2 with
  |.error f=>.error f
  |.ok (s2,y)=>qk s2 o x y
theorem zB{o f}(h:jN st [a,b] o.pos=.error f):qk st o a b=.error f:=by unfold qk;rw[h]
theorem BW{aT o f}(h:jN st [a,b] o.pos=.ok (aT,f)):qk st o a b=fQ aT (eK (qj o.sym) (eW aT (f.getD 0 0)) (f.getD 0 0:Nat) (f.getD 1 0:Nat) 0) o.pos:=by unfold qk;rw[h]
theorem TrO.chg{W e}(h:TrO W P I u1 u2 u3 u4 bs r e F):Chg (Mst P u1 u2 u3 u4) W F:=by
 rcases r with⟨c,p⟩|⟨st,v⟩
 ·exact h.2.2.2
 obtain⟨_,_,_,_,_,_,k⟩:=h;exact k.chg
theorem GF{W:World}{M}(br:¬M W.heap.size)(x y:Nat):XsR M (W.alloc (.cells #[ih x,ih y] 3)) (some ⟨W.heap.size,0,none⟩) 2 [x,y]:=by
 refine⟨rfl,λ_=>⟨_,0,rfl,br,by simp,λk J=>?_⟩⟩;grind[yav]
theorem bY.qcg(h:Zp:=by
 have c7:(0:Int)<=k:=xaa;go_upto_region 5 with (go_at_call 113;refine yaj K.o ?_;rintro e ak ⟨rfl,S⟩;obtain rfl:=S.symm);rcases ar with⟨c,p⟩|⟨av,x⟩
 ·exact xhf
 obtain⟨aq,aH⟩:=bD.o _ x rfl;have a6:¬((x:Int)<0):=xaa;go_upto_region 8 with (go_at_call 102;refine yaj Y.o ?_;rintro e ak ⟨rfl,bf,bb,bc,C,v,a7⟩);have cc:V _:=cD.o _ x rfl _ _ _ _ _ v a7;have ce:V _:=a7;clear Y cD v a7;rcases aQ with⟨c,p⟩|⟨aT,y⟩
 ·exact xgm
 obtain⟨bU,bK⟩:=cG.o _ x rfl _ y rfl;exact qgm):Zp:=h
theorem bY.qes(h:Zp:=by
 simp only at c1 aX ad aI;cases aG:jN aT [x,y] w with
 |error f=>
  obtain⟨c,p⟩:=f;rw[aG]at ad;have H:V _:=aI.o.trans (zB aG);clear aG aI;go_wp2_with (go_at_call 114;refine yaj ad.o ?_;rintro e bx ⟨rfl,bh⟩);go_ret;rw[H.o];exact⟨rfl,bh.1,bh.2.1,aO.o.bad bh.2.2⟩
 |ok q=>
  obtain⟨G,Z⟩:=q;rw[aG]at ad;have H:V _:=aI.o.trans (BW aG);obtain⟨aC,b2,nn,br⟩:=ll b8.o.g _ _ ao.o aG;clear aG aI
  obtain⟨d,U,rfl⟩:∃a b,Z=[a,b]:=by
   match Z,b2 with
   |[a,b],_=>exact⟨a,b,rfl⟩
  have aj:=(br d xac).1;have B:=(br U xac).1;go_upto_region 14 with (go_at_call 114;refine yaj ad.o ?_;rintro e bx ⟨db,dl,rfl,aJ,aP,bw,b3,aR,bX,cg⟩);have N:=R.o _ _ (aO.o.trans bX);obtain⟨b5,cv,be,cr,b4⟩:=aR.lenc aj;obtain⟨j,of,ah,b9,aK,cx⟩:=cg.at_ xac;subst be ah;have bk:V (∀F,Kept 0 0 _ F->F.cell? _=some (eL bG)/\F.cell? _=some (.int _ w)/\F.cell? _=some _/\F.cell? _=some _/\F.cell? ⟨_,of,_⟩=some (.int _ d)/\F.cell? _=some (.int _ U)):=λF al=>⟨(al.cell N.lt xaa).trans (by have:=N.c0 k J;rw[a5.o]at this;exact this),(al.cell N.lt xaa).trans (by have:=N.c1 k J;rw[a5.o]at this;exact this),(aR.keep al).c1,(al.cell cr xaa).trans b4,(al.cell aK xaa).trans (cx 0 xac),(al.cell aK xaa).trans (cx 1 xac)⟩
  have ai:V (∀F,Kept 0 0 _ _->Calls _ _ _ F λe z=>(∃x:Int,e=.returned _)/\V (TrO W P I _ _ _ _ _ r e _)):=λF al=>yaj (lV (aR.keep al) aC.g (eK _ (eW G _) d U 0) (aC.g.lenB aj) yah _) (λe z t=>⟨t.ret,by
   show TrO W P I u1 u2 u3 u4 bs r e z
   rw[H.o]
   exact TrO.after ((aO.o.trans bX).keep al) t⟩)
  have bL:=aC.g.n;have X:V _:=λF=>Fr bG F;generalize eW G _=l at bk ai;generalize qj _=eg at X ai;generalize G.vs.length=aZ at*;clear b4 cx N aR bX cg aC br ad H aO R b8 ao c1 aX K b2 b9 aK cr a5;have q:=λx:KW _=>bk.o _ x.k;refine uV (C:=λO=>∃x:KW bx,O=x.v) 30 (by kernel_rfl) (by kernel_rfl) ⟨⟨bx.drew,eD _⟩,rfl⟩ ?_;simp only[List.take_succ_cons,List.take_zero,List.drop_succ_cons,List.drop_zero]
  repeat (go_big_quiet_step (first
   |(go_at_call 115;exact yaj (X.o _) λe O h=>⟨h.1,⟨_,h.2⟩⟩)
   |(go_at_call 60;exact yaj (gq _ _ _ _ _ _) λe O h=>⟨h.1,⟨⟨_,(KW.k _).trans h.2⟩,rfl⟩⟩)))
  refine wpQuiet_nil ?_;rintro bz ⟨x,rfl⟩;go_wp2_with (go_at_call 105;refine yaj (ai.o _ x.k) ?_;rintro e ci ⟨⟨c9,rfl⟩,bh⟩);go_ret;exact bh.o):Zp:=h
theorem bY.qgn(h:Zp:=by
 have ag:=R.o _ _ ae;have bZ:=yak aH bU.n;have bj:=eA 0 0 aM (.cells #[ih x,ih y] 3);have ad:V _:=zw (a8.keep bj) bU.g _ 2 2 _ (GF a8.far x y) xaa (by intro i hi;simp at hi;rcases hi with rfl|rfl<;>assumption) (ts.getD k i1).pos;have aI:V (r=qk _ _ x y):=HR.o;have aO:V _:=ae.keep bj;have b8:V _:=bU;have ao:V (∀i∈[x,y],i<aT.vs.length):=by intro i hi;simp at hi;rcases hi with rfl|rfl<;>assumption
 have c1:=ag.c1 k J;have aX:(aM.alloc _).cell? _=_:=(bj.cell ag.lt xaa).trans c1;exact qer):Zp:=h
open bY in
theorem Dg{W}(ab:TrIn W P I u1 u2 u3 u4 bs st af Q u g an m cap ts)(k)(J:k<m)(bO:k+1<m)(co:opM [43] [45] ts=(k:Int))(ar aQ)(bR:RsG st ar)(ap:∀av x,ar=.ok (av,x)->RsG av aQ)
  (aw:Calls prog 102 #[ge P,.slice af Q cL,.slice (some ⟨g,an,none⟩) k cap] W (TrO W P I u1 u2 u3 u4 bs ar))
  (cC:∀av x,ar=.ok (av,x)->∀F bf bb bc C,WS F P I bf bb bc C bs av->Mv (Mst P u1 u2 u3 u4) W (Mst P bf bb bc C) F->Calls prog 102 #[ge P,.slice af Q cL,.slice (some ⟨g,an+(k+1)*3,none⟩) (m-(k+1)) (cap-(k+1))] F (TrO F P I bf bb bc C bs aQ)):
  Calls prog 102 #[ge P,.slice af Q cL,.slice (some ⟨g,an,none⟩) m cap] W (TrO W P I u1 u2 u3 u4 bs (GE (ts.getD k i1) ar aQ)):=by
 have K:V _:=fI W g _ m cap _ ab.tk ab.m5 [43] [45];have bl:V _:=fI W g _ m cap _ ab.tk ab.m5 [42] [47];rw[co]at K;clear bl co;have bJ:=ab.m5;have bn:=ab.mc;have R:V (∀F M',Mv _ W M' F->_):=λF M' al=>ab.tk.keepC al.chg ab.tg;exact qcf
theorem bZ.qcg(h:Zp:=by
 have c7:0<=(k:Int):=xaa;go_upto_region 3 with (go_at_call 113;refine yaj K.o ?_;rintro e ak ⟨rfl,S⟩;obtain rfl:=S.symm);go_upto_region 5 with (go_at_call 113;refine yaj bl.o ?_;rintro e ak ⟨rfl,S⟩;obtain rfl:=S.symm);clear bl;rcases ar with⟨c,p⟩|⟨av,x⟩
 ·exact xhf
 obtain⟨aq,aH⟩:=bD.o av x rfl;have a6:¬((x:Int)<0):=xaa;go_upto_region 8 with (go_at_call 102;refine yaj Y.o ?_;rintro e ak ⟨rfl,bf,bb,bc,C,v,a7⟩);have cc:V _:=cD.o av x rfl ak bf bb bc C v a7;have ce:V _:=a7;clear Y cD v a7;rcases aQ with⟨c,p⟩|⟨aT,y⟩
 ·exact xgm
 obtain⟨bU,bK⟩:=cG.o av x rfl aT y rfl;exact qgm):Zp:=h
theorem bZ.qes(h:Zp:=by
 simp only at c1 aX ad aI;cases aG:jN aT [x,y] w with
 |error f=>
  obtain⟨c,p⟩:=f;rw[aG]at ad;have H:V _:=aI.o.trans (zB aG);clear aG aI;go_wp2_with (go_at_call 114;refine yaj ad.o ?_;rintro e bx ⟨rfl,bh⟩);go_ret;rw[H.o];exact⟨rfl,bh.1,bh.2.1,aO.o.bad bh.2.2⟩
 |ok q=>
  obtain⟨G,Z⟩:=q;rw[aG]at ad;have H:V (r=_):=aI.o.trans (BW aG);obtain⟨aC,b2,nn,br⟩:=ll b8.o.g [x,y] w ao.o aG;clear aG aI
  obtain⟨d,U,rfl⟩:∃a b,Z=[a,b]:=by
   match Z,b2 with
   |[a,b],_=>exact⟨a,b,rfl⟩
  have aj:=(br d xac).1;have B:=(br U xac).1;go_upto_region 14 with (go_at_call 114;refine yaj ad.o ?_;rintro e bx ⟨db,dl,rfl,aJ,aP,bw,b3,aR,bX,cg⟩);have N:=R.o bx _ (aO.o.trans bX);obtain⟨b5,cv,be,cr,b4⟩:=aR.lenc aj;obtain⟨j,of,ah,b9,aK,cx⟩:=cg.at_ xac;subst be ah;have bk:V (∀F,Kept 0 0 bx F->F.cell? ⟨g,an+k*3,none⟩=some (eL bG)/\F.cell? ⟨g,an+k*3+1,none⟩=some (ih w)/\F.cell? ⟨P,1,none⟩=some (ia b5 G.vs.length cv)/\F.cell? ⟨b5,d*6+1,none⟩=some (ih (eW G d))/\F.cell? ⟨j,of,none⟩=some (ih (d:Nat))/\F.cell? ⟨j,of+1,none⟩=some (ih (U:Nat))):=λF al=>⟨(al.cell (p:=⟨g,an+k*3,none⟩) N.lt xaa).trans (by have:=N.c0 k J;rw[a5.o]at this;exact this),(al.cell (p:=⟨g,an+k*3+1,none⟩) N.lt xaa).trans (by have:=N.c1 k J;rw[a5.o]at this;exact this),(aR.keep al).c1,(al.cell (p:=⟨b5,d*6+1,none⟩) cr xaa).trans b4,(al.cell (p:=⟨j,of,none⟩) aK xaa).trans (cx 0 xac),(al.cell (p:=⟨j,of+1,none⟩) aK xaa).trans (cx 1 xac)⟩
  have ai:V (∀F,Kept 0 0 bx F->Calls prog 105 #[ge P,(eK (qj bG) (eW G d) (d:Nat) (U:Nat) 0).agg,ih w] F λe z=>(∃x:Int,e=.returned (ih x))/\V (TrO W P I u1 u2 u3 u4 bs r e z)):=λF al=>yaj (lV (aR.keep al) aC.g (eK (qj bG) (eW G d) (d:Nat) (U:Nat) 0) (aC.g.lenB aj) yah w) (λe z t=>⟨t.ret,by
   show TrO W P I u1 u2 u3 u4 bs r e z
   rw[H.o]
   exact TrO.after ((aO.o.trans bX).keep al) t⟩)
  have bL:=aC.g.n;have X:V _:=λF=>Fr bG F;generalize eW G d=l at bk ai;generalize qj bG=eg at X ai;generalize G.vs.length=aZ at*;clear b4 cx N aR bX cg aC br ad H aO R b8 ao c1 aX K b2 b9 aK cr a5;have q:=λx:KW bx=>bk.o _ x.k;refine uV (C:=λO=>∃x:KW bx,O=x.v) 30 (by kernel_rfl) (by kernel_rfl) ⟨⟨bx.drew,eD _⟩,rfl⟩ ?_;simp only[List.take_succ_cons,List.take_zero,List.drop_succ_cons,List.drop_zero]
  repeat (go_big_quiet_step (first
   |(go_at_call 115;exact yaj (X.o _) λe O h=>⟨h.1,⟨_,h.2⟩⟩)
   |(go_at_call 60;exact yaj (gq _ _ _ _ _ _) λe O h=>⟨h.1,⟨⟨O,(KW.k _).trans h.2⟩,rfl⟩⟩)))
  refine wpQuiet_nil ?_;rintro bz ⟨x,rfl⟩;go_wp2_with (go_at_call 105;refine yaj (ai.o _ x.k) ?_;rintro e ci ⟨⟨c9,rfl⟩,bh⟩);go_ret;exact bh.o):Zp:=h
theorem bZ.qgn(h:Zp:=by
 have ag:=R.o aM _ ae;have bZ:=yak aH bU.n;have bj:=eA 0 0 aM (.cells #[ih x,ih y] 3);have ad:V _:=zw (a8.keep bj) bU.g _ 2 2 [x,y] (GF a8.far x y) xaa (by intro i hi;simp at hi;rcases hi with rfl|rfl<;>assumption) (ts.getD k i1).pos;have aI:V (r=qk aT (ts.getD k i1) x y):=HR.o;have aO:V _:=ae.keep bj;have b8:V _:=bU;have ao:V (∀i∈[x,y],i<aT.vs.length):=by intro i hi;simp at hi;rcases hi with rfl|rfl<;>assumption
 have c1:=ag.c1 k J;have aX:(aM.alloc (.cells #[ih x,ih y] 3)).cell? ⟨g,an+k*3+1,none⟩=_:=(bj.cell (p:=⟨g,an+k*3+1,none⟩) ag.lt xaa).trans c1;exact qer):Zp:=h
open bZ in
theorem Dh{W}(ab:TrIn W P I u1 u2 u3 u4 bs st af Q u g an m cap ts)(k)(J:k<m)(bO:k+1<m)(ax:opM [43] [45] ts=-1)(co:opM [42] [47] ts=(k:Int))(ar aQ)(bR:RsG st ar)(ap:∀av x,ar=.ok (av,x)->RsG av aQ)
  (aw:Calls prog 102 #[ge P,.slice af Q cL,.slice (some ⟨g,an,none⟩) k cap] W (TrO W P I u1 u2 u3 u4 bs ar))
  (cC:∀av x,ar=.ok (av,x)->∀F bf bb bc C,WS F P I bf bb bc C bs av->Mv (Mst P u1 u2 u3 u4) W (Mst P bf bb bc C) F->Calls prog 102 #[ge P,.slice af Q cL,.slice (some ⟨g,an+(k+1)*3,none⟩) (m-(k+1)) (cap-(k+1))] F (TrO F P I bf bb bc C bs aQ)):
  Calls prog 102 #[ge P,.slice af Q cL,.slice (some ⟨g,an,none⟩) m cap] W (TrO W P I u1 u2 u3 u4 bs (GE (ts.getD k i1) ar aQ)):=by
 have K:V _:=fI W g an m cap ts ab.tk ab.m5 [43] [45];have bl:V _:=fI W g an m cap ts ab.tk ab.m5 [42] [47];rw[ax]at K;rw[co]at bl;clear co ax;have bJ:=ab.m5;have bn:=ab.mc;have R:V (∀F M',Mv (Mst P u1 u2 u3 u4) W M' F->_):=λF M' al=>ab.tk.keepC al.chg ab.tg;exact qcf
end
section
variable{r:Rs (LSt×Nat)}
theorem vp{f st u o a b}(h:eM (f+1) st u (.bin o a b)=some r):∃ar aQ,eM f st u a=some ar/\(∀av x,ar=.ok (av,x)->eM f av u b=some aQ)/\r=GE o ar aQ:=by
 rw[eM]at h;cases B:eM f st u a with
 |none=>rw[B]at h;cases h
 |some ar=>
  rw[B]at h;rcases ar with⟨c,p⟩|⟨av,x⟩
  ·cases h;exact⟨_,.error (c,p),rfl,λ_ _ e=>(by cases e),rfl⟩
  simp only[jo]at h;cases N:eM f av u b with
  |none=>grind
  |some aQ=>
   rw[N]at h;refine⟨.ok (av,x),aQ,rfl,λ_ _ e=>(by cases e;exact N),?_⟩;rcases aQ with⟨c,p⟩|⟨aT,y⟩
   ·cases h;rfl
   cases h;rfl
theorem GG(ts us o):(ts++o::us).getD ts.length i1=o:=by
 simp_all
theorem iW{n es ts}(h:Pr n es ts):0<ts.length:=by
 induction h<;>grind
section
variable{f:Nat}{W:World}{P I:Nat}{u1 u2 u3 u4:Value}{bs:List Bc}{st:LSt}{af:Option Addr}{Q cL:Nat}{u:Loc}{g an m cap:Nat}{ts us:List Tok}{o:Tok}{a b:Ex}{r:Rs (LSt×Nat)}
theorem vq(O:TrC f)(ab:TrIn W P I u1 u2 u3 u4 bs st af Q u g an m cap (ts++o::us)){Y ae}(aB:Pr Y [a] ts)(hb:Pr ae [b] us)(B:Y<=2)(N:ae<=2){ar aQ}(ad:eM f st u a=some ar)(be:∀av x,ar=.ok (av,x)->eM f av u b=some aQ):
  RsG st ar/\(∀av x,ar=.ok (av,x)->RsG av aQ)/\
  Calls prog 102 #[ge P,.slice af Q cL,.slice (some ⟨g,an,none⟩) ts.length cap] W (TrO W P I u1 u2 u3 u4 bs ar)/\
  (∀av x,ar=.ok (av,x)->∀F bf bb bc C,WS F P I bf bb bc C bs av->Mv (Mst P u1 u2 u3 u4) W (Mst P bf bb bc C) F->Calls prog 102 #[ge P,.slice af Q cL,.slice (some ⟨g,an+(ts.length+1)*3,none⟩) (m-(ts.length+1)) (cap-(ts.length+1))] F (TrO F P I bf bb bc C bs aQ)):=by
 have aD:=ab.tk.len;rw[yal,yaq]at aD;have bW:=ab.mc;have bU:=jf aB (λt ht=>ab.ti t (by simp[ht])) a xac;have bv:=jf hb (λt ht=>ab.ti t (by simp[ht])) b xac;have ca:=gc f st u a ab.gd ab.nm ab.lo bU ar ad;refine⟨ca,λav x e=>?_,?_,λav x e F bf bb bc C S bE=>?_⟩
 ·have w:=(ca av x e).1;exact gc f av u b w.g (ab.nm.gw w) (ab.lo.le w.n) bv aQ (be av x e)
 ·have h:=ab.sub ab.ws (Gw.refl ab.gd) (Mv.refl _ W) 0 ts.length xaa ts xac (cap':=cap) xaa;rw[Nat.zero_mul,Nat.add_zero,Nat.sub_zero]at h;exact O W P I u1 u2 u3 u4 bs st af Q cL u g an ts.length cap ts h Y a aB B ar ad
 have h:=ab.sub S (ca av x e).1 bE (ts.length+1) m yad us (by
  rw[List.drop_append,List.drop_of_length_le xaa,show ts.length+1-ts.length=1 by omega,List.nil_append,List.drop_succ_cons,List.drop_zero,yap xaa]) (cap':=cap-(ts.length+1)) xaa
 exact O F P I bf bb bc C bs av af Q cL u g _ _ _ us h ae b hb N aQ (be av x e)
theorem GH(O:TrC f)(ab:TrIn W P I u1 u2 u3 u4 bs st af Q u g an m cap (ts++o::us))(aB:Pr 2 [a] ts)(aR:o.sym=[43]\/o.sym=[45])(hb:Pr 1 [b] us)(h:eM (f+1) st u (.bin o a b)=some r):
  Calls prog 102 #[ge P,.slice af Q cL,.slice (some ⟨g,an,none⟩) m cap] W (TrO W P I u1 u2 u3 u4 bs r):=by
 obtain⟨ar,aQ,ad,be,rfl⟩:=vp h;obtain⟨bn,p2,bb,j⟩:=vq (cL:=cL) O ab aB hb xaa xaa ad be;have aD:=ab.tk.len;rw[yal,yaq]at aD;have ag:=iW hb;have t:=Dg ab _ xaa xaa (Mr aB aR hb) _ _ bn p2 bb j;rw[GG]at t;exact t
theorem GI(O:TrC f)(ab:TrIn W P I u1 u2 u3 u4 bs st af Q u g an m cap (ts++o::us))(aB:Pr 1 [a] ts)(aR:o.sym=[42]\/o.sym=[47])(hb:Pr 0 [b] us)(h:eM (f+1) st u (.bin o a b)=some r):
  Calls prog 102 #[ge P,.slice af Q cL,.slice (some ⟨g,an,none⟩) m cap] W (TrO W P I u1 u2 u3 u4 bs r):=by
 obtain⟨ar,aQ,ad,be,rfl⟩:=vp h;obtain⟨bn,p2,bb,j⟩:=vq (cL:=cL) O ab aB hb xaa xaa ad be;have aD:=ab.tk.len;rw[yal,yaq]at aD;have ag:=iW hb;have t:=Dh ab _ xaa xaa (EH (Pr.mul aB aR hb)) (Ms aB aR hb) _ _ bn p2 bb j;rw[GG]at t;exact t
end
theorem Di{f st u o a}(h:eM (f+1) st u (.neg o a)=some r):∃ar,eM f st u a=some ar/\r=N0 o.pos ar:=by
 exact xdb
section
variable{f:Nat}{W:World}{P I:Nat}{u1 u2 u3 u4:Value}{bs:List Bc}{st:LSt}{af:Option Addr}{Q cL:Nat}{u:Loc}{g an m cap:Nat}{ts:List Tok}{o t:Tok}{a:Ex}{r:Rs (LSt×Nat)}
theorem Dj(ab:TrIn W P I u1 u2 u3 u4 bs st af Q u g an m cap [t])(ht:t.sym=gz)(h:eM (f+1) st u (.name t)=some r):
  Calls prog 102 #[ge P,.slice af Q cL,.slice (some ⟨g,an,none⟩) m cap] W (TrO W P I u1 u2 u3 u4 bs r):=by
 rw[eM]at h;have e:r=GD st _:=(ix h).symm;have k:=AW (cL:=cL) ab (Pr.name ht) ht ab.tk.len.symm;rw[e];exact k
theorem GJ(O:TrC f)(ab:TrIn W P I u1 u2 u3 u4 bs st af Q u g an m cap (o::ts))(aR:o.sym=[45])(aB:Pr 0 [a] ts)(h:eM (f+1) st u (.neg o a)=some r):
  Calls prog 102 #[ge P,.slice af Q cL,.slice (some ⟨g,an,none⟩) m cap] W (TrO W P I u1 u2 u3 u4 bs r):=by
 obtain⟨ar,ad,rfl⟩:=Di h;have aD:=ab.tk.len;rw[yaq]at aD;have ag:=iW aB;have bW:=ab.mc;have bU:=jf aB (λt ht=>ab.ti t (by simp[ht])) a xac;refine Df ab (Pr.neg aR aB) aR xaa _ (gc f _ _ a ab.gd ab.nm ab.lo bU _ ad) (λF k=>?_)
 have aw:=ab.sub (ab.ws.keep k) (Gw.refl ab.gd) (Mv.of k) 1 m yad _ (by
  rw[List.drop_succ_cons,List.drop_zero,yap xaa]) (cap':=cap-1) xaa
 exact O _ P I _ _ _ _ _ _ _ _ _ _ g _ _ _ _ aw 0 a aB xaa _ ad
theorem GK{l q}(ab:TrIn W P I u1 u2 u3 u4 bs st af Q u g an m cap (l::(ts++[q])))(ag:l.sym=[40])(aB:Pr 2 [a] ts)(am:q.sym=[41])
  (O:∀F,TrIn F P I u1 u2 u3 u4 bs st af Q u g (an+3) (m-2) (cap-1) ts->Calls prog 102 #[ge P,.slice af Q cL,.slice (some ⟨g,an+3,none⟩) (m-2) (cap-1)] F (TrO F P I u1 u2 u3 u4 bs r)):
  Calls prog 102 #[ge P,.slice af Q cL,.slice (some ⟨g,an,none⟩) m cap] W (TrO W P I u1 u2 u3 u4 bs r):=by
 have aD:=ab.tk.len;rw[yaq,yal,List.length_singleton]at aD;have bW:=ab.mc;refine De ab (Pr.par ag aB am) ag xaa r (λF k=>?_)
 have aw:=ab.sub (ab.ws.keep k) (Gw.refl ab.gd) (Mv.of k) 1 (m-1) xaa _ (by
  rw[List.drop_succ_cons,List.drop_zero,List.take_append_of_le_length xaa,yap xaa]) (cap':=cap-1) xaa
 rw[show m-1-1=m-2 by omega]at aw;exact yaj (O _ aw) (λe z t=>TrO.back k t)
end
end
section
attribute[local go_sem] eE eC eB
variable{P I Q cL bu S ce q o ay c0:Nat}{u1 u2 u3 u4:Value}{bs:List Bc}{af:Option Addr}
def vr(op:Int)(one:Bool)(p:Nat)(r:Rs (LSt×Nat)):Rs (LSt×Nat):=match r with|.error f=>.error f|.ok (s,a)=>fQ s (eK op (if one then 1 else eW s a) (a:Int) 0 0) p
theorem bP.qcc(h:Zp:=by
 have ai:V (∀F,Kept 0 0 ak F->Calls prog 105 #[ge P,(eK 13 (eW s a) (a:Int) 0 0).agg,ih aS] F λe z=>(∃x:Int,e=.returned (ih x))/\V (TrO W P I u1 u2 u3 u4 bs r e z)):=λF al=>yaj (lV (v.keep al) w.g (eK 13 (eW s a) (a:Int) 0 0) (w.g.lenB aB) yah aS) (λe z t=>⟨t.ret,by
  show TrO W P I u1 u2 u3 u4 bs r e z
  rw[HR.o]
  exact TrO.back HK.o (TrO.after (a7.keep al) t)⟩)
 exact qff):Zp:=h
theorem bP.qfg(h:Zp:=by
 go_upto_region 11 with fail;exact xdo):Zp:=h
open bP in
theorem Dk{W st}(h:WS W P I u1 u2 u3 u4 bs st)(aS aa)(cj:1<=S)(cg:bu<W.heap.size)(a5:W.cell? ⟨bu,0,none⟩=some (.slice (some ⟨q,o,none⟩) ay c0))(ar)(bR:RsG st ar)
  (bi:∀F,Kept 0 0 W F->Calls prog 102 #[ge P,.slice af Q cL,.slice (some ⟨q,o,none⟩) ay c0] F (TrO F P I u1 u2 u3 u4 bs ar)):
  Calls prog 119 #[ge P,.slice af Q cL,iS ⟨[101,120,112],aS,aa⟩,ia bu S ce] W (TrO W P I u1 u2 u3 u4 bs (vr 13 false aS ar)):=by
 have ao:V _:=gY W [101,120,112] aS aa;have HK:V _:=eA 0 0 W (.cells #[eL [101,120,112],ih aS,eL aa] 127);have aO:V _:=h.far;have a0:=(HK.o.cell (p:=⟨bu,0,none⟩) cg xaa).trans a5;have Y:V _:=bi;have bD:V _:=bR;obtain⟨r,au⟩:∃r,r=vr 13 false aS ar:=⟨_,rfl⟩
 rw[<-au];have HR:V _:=au;clear au h bR bi a5;unfold iS;simp only;go_enter func119,ntmps119;go_upto_region 2 with fail;change Code.wp _ _ _ _ (W.alloc (.cells #[eL [101,120,112],ih aS,eL aa] 127));generalize W.alloc (.cells #[eL [101,120,112],ih aS,eL aa] 127)=aq at ao HK a0⊢;generalize W.heap.size=bP at ao aO⊢;have aw:V _:=Y.o aq HK.o;have bE:=ao.o.c0;clear Y;rcases ar with⟨c,p⟩|⟨s,a⟩
 ·exact xdz
 exact qcb
theorem bQ.qcc(h:Zp:=by
 have ai:V (∀F,Kept 0 0 _ F->Calls _ _ _ _ λe z=>(∃x:Int,e=.returned _)/\V (TrO W P I _ _ _ _ _ r e _)):=λF al=>yaj (lV (v.keep al) w.g (eK 9 1 _ 0 0) ⟨by show(1:Int)<=1;decide,by show(1:Int)<=1000;decide⟩ yah _) (λe z t=>⟨t.ret,by
  show TrO W P I u1 u2 u3 u4 bs r e z
  rw[HR.o]
  exact TrO.back HK.o (TrO.after (a7.keep al) t)⟩)
 exact qff):Zp:=h
theorem bQ.qfg(h:Zp:=by
 go_upto_region 13 with fail
 go_region_with (first
  |(go_at_call 60;refine yaj (gq _ _ _ _ _ _) ?_;rintro e aM ⟨rfl,a9⟩;have f:=(y.o.keep ((eD _).trans a9)).c1)
  |(go_at_call 105;refine yaj (ai.o _ ((eD _).trans a9)) ?_;rintro e bx ⟨⟨x,rfl⟩,bh⟩))
 all_goals (go_wp2_with fail;go_ret;exact bh.o)):Zp:=h
open bQ in
theorem Dl{W st}(h:WS W P I u1 u2 u3 u4 bs st)(aS aa)(cj:1<=S)(cg:bu<W.heap.size)(a5:W.cell? ⟨bu,0,none⟩=some (.slice (some ⟨q,o,none⟩) ay c0))(ar)(bR:RsG st ar)
  (bi:∀F,Kept 0 0 W F->Calls prog 102 #[ge P,.slice af Q cL,.slice (some ⟨q,o,none⟩) ay c0] F (TrO F P I u1 u2 u3 u4 bs ar)):
  Calls prog 119 #[ge P,.slice af Q cL,iS ⟨[115,117,109],aS,aa⟩,ia bu S ce] W (TrO W P I u1 u2 u3 u4 bs (vr 9 true aS ar)):=by
 have ao:V _:=gY W [115,117,109] aS aa;have HK:V _:=eA 0 0 W (.cells #[eL [115,117,109],ih aS,eL aa] 127);have aO:V _:=h.far;have a0:=(HK.o.cell cg xaa).trans a5;have Y:V _:=bi;have bD:V _:=bR;obtain⟨r,au⟩:∃r,r=vr 9 true aS ar:=⟨_,rfl⟩
 rw[<-au];have HR:V _:=au;clear au h bR bi a5;unfold iS;simp only;go_enter func119,ntmps119;go_upto_region 2 with fail;change Code.wp _ _ _ _ (W.alloc (.cells _ 127));generalize W.alloc _=aq at ao HK a0⊢;generalize W.heap.size=bP at ao aO⊢;have aw:V _:=Y.o _ HK.o;have bE:=ao.o.c0;clear Y;rcases ar with⟨c,p⟩|⟨s,a⟩
 ·exact xdz
 exact qcb
