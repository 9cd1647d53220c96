import Derived.Test.YtamokkcfibdghaaGreatP35
namespace Go.Proofs.Z
variable {Zp:Prop}
open Tryz Go.RowKit Flt
set_option maxRecDepth 1000000
set_option maxHeartbeats 0
section
attribute [local go_sem] eG eE eD
variable {P I Q cL b0 ah bR q o b5 c0:Nat}{am al ar X:Value}{bs:List Bc}{st:LSt}{bh:Option Addr}
def vP (op:Int)(one:Bool)(p:Nat)(r:Rs (LSt×Nat)):Rs (LSt×Nat):=match r with|.error f=>.error f|.ok (s,a)=>fZ s (eL op (if one then 1 else fg s a) (a:Int) 0 0) p
theorem bV.qce(h:Zp:=by
 have bM:V (∀W',Kept 0 0 af W'->Calls prog 96 #[hG P,(eL 13 (fg s a) (a:Int) 0 0).agg,hI K] W' λe aG=>(∃x:Int,e=.returned (hI x))/\V (TrO W P I am al ar X bs r e aG)):=λW' ap=>yai (mo (v.keep ap) w.g (eL 13 (fg s a) (a:Int) 0 0) (w.g.lenB G) yag K) (λe aG t=>⟨t.ret,by
  show TrO W P I am al ar X bs r e aG
  rw[HR.o]
  exact TrO.back HK.o (TrO.after (aH.keep ap) t)⟩)
 exact qfv):Zp:=h
theorem bV.qfw(h:Zp:=by
 go_upto_region 11 with fail;exact xeo):Zp:=h
open bV in
theorem Ed{W}(h:WS W P I am al ar X bs st)(K z)(cr:1<=ah)(aw:b0<W.heap.size)(aT:W.cell? ⟨b0,0,none⟩=some (.slice (some ⟨q,o,none⟩) b5 c0))(aC)(bq:RsG st aC)
  (bl:∀W',Kept 0 0 W W'->Calls prog 93 #[hG P,.slice bh Q cL,.slice (some ⟨q,o,none⟩) b5 c0] W' (TrO W' P I am al ar X bs aC)):
  Calls prog 128 #[hG P,.slice bh Q cL,jb ⟨[101,120,112],K,z⟩,hH b0 ah bR] W (TrO W P I am al ar X bs (vP 13 false K aC)):=by
 have aI:V _:=it W [101,120,112] K z;have HK:V _:=ez 0 0 W (.cells #[eN [101,120,112],hI K,eN z] 84);have aP:V _:=h.far;have s0:=(HK.o.cell (p:=⟨b0,0,none⟩) aw xaa).trans aT;have i:V _:=bl;have a5:V _:=bq;obtain⟨r,ay⟩:∃r,r=vP 13 false K aC:=⟨_,rfl⟩
 rw[<-ay];have HR:V _:=ay;clear ay h bq bl aT;unfold jb;simp only;go_enter func128,ntmps128;go_upto_region 2 with fail;change Code.wp _ _ _ _ (W.alloc (.cells #[eN [101,120,112],hI K,eN z] 84));generalize W.alloc (.cells #[eN [101,120,112],hI K,eN z] 84)=aD at aI HK s0⊢;generalize W.heap.size=bL at aI aP⊢;have av:V _:=i.o aD HK.o;have bb:=aI.o.c0;clear i;rcases aC with⟨c,p⟩|⟨s,a⟩
 ·exact xfc
 exact qcd
theorem bW.qce(h:Zp:=by
 have bM:V (∀W',Kept 0 0 _ W'->Calls _ _ _ _ λe aG=>(∃x:Int,e=.returned _)/\V (TrO W P I _ _ _ _ _ r e _)):=λW' ap=>yai (mo (v.keep ap) w.g (eL 9 1 _ 0 0) ⟨by show(1:Int)<=1;decide,by show(1:Int)<=1000;decide⟩ yag _) (λe aG t=>⟨t.ret,by
  show TrO W P I am al ar X bs r e aG
  rw[HR.o]
  exact TrO.back HK.o (TrO.after (aH.keep ap) t)⟩)
 exact qfv):Zp:=h
theorem bW.qfw(h:Zp:=by
 go_upto_region 13 with fail
 go_region_with (first
  |(go_at_call 34;refine yai (gQ _ _ _ _ _ _) ?_;rintro e aX ⟨rfl,aM⟩;have J:=(y.o.keep ((eF _).trans aM)).c1)
  |(go_at_call 96;refine yai (bM.o _ ((eF _).trans aM)) ?_;rintro e bm ⟨⟨x,rfl⟩,bi⟩))
 all_goals (go_wp2_with fail;go_ret;exact bi.o)):Zp:=h
open bW in
theorem Ee{W}(h:WS W P I am al ar X bs st)(K z)(cr:1<=ah)(aw:b0<W.heap.size)(aT:W.cell? ⟨b0,0,none⟩=some (.slice (some ⟨q,o,none⟩) b5 c0))(aC)(bq:RsG st aC)
  (bl:∀W',Kept 0 0 W W'->Calls prog 93 #[hG P,.slice bh Q cL,.slice (some ⟨q,o,none⟩) b5 c0] W' (TrO W' P I am al ar X bs aC)):
  Calls prog 128 #[hG P,.slice bh Q cL,jb ⟨[115,117,109],K,z⟩,hH b0 ah bR] W (TrO W P I am al ar X bs (vP 9 true K aC)):=by
 have aI:V _:=it W [115,117,109] K z;have HK:V _:=ez 0 0 W (.cells #[eN [115,117,109],hI K,eN z] 84);have aP:V _:=h.far;have s0:=(HK.o.cell aw xaa).trans aT;have i:V _:=bl;have a5:V _:=bq;obtain⟨r,ay⟩:∃r,r=vP 9 true K aC:=⟨_,rfl⟩
 rw[<-ay];have HR:V _:=ay;clear ay h bq bl aT;unfold jb;simp only;go_enter func128,ntmps128;go_upto_region 2 with fail;change Code.wp _ _ _ _ (W.alloc (.cells _ 84));generalize W.alloc _=aD at aI HK s0⊢;generalize W.heap.size=bL at aI aP⊢;have av:V _:=i.o _ HK.o;have bb:=aI.o.c0;clear i;rcases aC with⟨c,p⟩|⟨s,a⟩
 ·exact xfc
 exact qcd
def KQ (r1 r2:Rs (LSt×Nat)):Rs (LSt×Nat):=match r1 with|.error f=>.error f|.ok _=>r2
theorem uk{ak}(fv:ak=[102,105,108,108]\/ak=[112,105,99,107]\/ak=[112,117,116]){W}(h:WS W P I am al ar X bs st)(K z)(cr:1<=ah)(aw:b0<W.heap.size)(aT:W.cell? ⟨b0,0,none⟩=some (.slice (some ⟨q,o,none⟩) b5 c0))(aC a0)(bq:RsG st aC)
  (bl:∀W',Kept 0 0 W W'->Calls prog 93 #[hG P,.slice bh Q cL,.slice (some ⟨q,o,none⟩) b5 c0] W' (TrO W' P I am al ar X bs aC))
  (ce:∀s a,aC=.ok (s,a)->∀W' bc bd bg Z,WS W' P I bc bd bg Z bs s->Mv (Mst P am al ar X) W (Mst P bc bd bg Z) W'->Calls prog 138 #[hG P,jb ⟨ak,K,z⟩,hI a,hH b0 ah bR] W' (TrO W' P I bc bd bg Z bs a0)):
  Calls prog 128 #[hG P,.slice bh Q cL,jb ⟨ak,K,z⟩,hH b0 ah bR] W (TrO W P I am al ar X bs (KQ aC a0)):=by
 have aI:V _:=it W ak K z;have HK:V _:=ez 0 0 W (.cells #[eN ak,hI K,eN z] 84);have aP:V _:=h.far;have s0:=(HK.o.cell aw xaa).trans aT;have i:V _:=bl;have g:V _:=ce;have a5:V _:=bq;obtain⟨r,ay⟩:∃r,r=KQ aC a0:=⟨_,rfl⟩
 rw[<-ay];have HR:V _:=ay;clear ay h bq bl aT ce;unfold jb at g⊢;simp only at g⊢;obtain⟨aD,C⟩:∃aD,V (W.alloc (.cells #[eN ak,hI K,eN z] 84)=aD):=⟨_,rfl⟩
 rw[C.o]at aI HK s0;rcases fv with rfl|rfl|rfl
 all_goals
  go_enter func128,ntmps128
  go_upto_region 2 with fail
  change Code.wp _ _ _ _ (W.alloc (.cells _ 84))
  rw[C.o]
  clear C
  generalize W.heap.size=bL at aI aP⊢
  have av:V _:=i.o _ HK.o
  have bb:=aI.o.c0
  clear i
  rcases aC with⟨c,p⟩|⟨s,a⟩
  ·go_wp2_with (go_at_call 93;refine yai av.o ?_;rintro e af ⟨rfl,bi⟩)
   go_ret
   rw[HR.o]
   exact TrO.back HK.o ⟨rfl,bi⟩
  ·obtain⟨w,G⟩:=a5.o s a rfl
   have el:¬((a:Int)<0):=xaa
   go_upto_region 7 with (go_at_call 93;refine yai av.o ?_;rintro e af ⟨rfl,bc,bd,bg,Z,v,aH⟩)
   have y:V _:=aI.o.keepC aH.chg aP.o
   obtain⟨bu,cv,a9,b7,aV⟩:=v.lenc G
   have bY:=v.c1
   have ad:V _:=(Mv.of HK.o).trans aH
   have j:V _:=g.o s a rfl _ _ _ _ _ v ad.o
   have f:V _:=yai j.o (λe aG t=>(⟨TrO.ret t,by
    show TrO W P I am al ar X bs r e aG
    rw[HR.o]
    exact TrO.after ad.o t⟩:(∃x:Int,e=.returned _)/\V (TrO W P I _ _ _ _ _ r e _)))
   subst a9
   have bD:=y.o.c0
   have d1:=y.o.c1
   have d2:=y.o.c2
   have bF:=w.g.n
   generalize fg s a=l at aV
   generalize s.vs.length=bQ at*
   clear v aH av aI HR a5 w bb s0 g j ad
   go_wp2_with (go_at_call 138;refine yai f.o ?_;rintro e bm ⟨⟨x,rfl⟩,bi⟩)
   go_ret
   exact bi.o
theorem ll{W u g off m cap ts}(H:TrIn W P I am al ar X bs st bh Q u g off m cap ts){e}(aK:Pr 0 [e] ts)(B:((ts.getD 0 hN).sym==[45])=false)(h3:((ts.getD 0 hN).sym==[105,110,116])=false)(a8:((ts.getD 0 hN).sym==[100,101,99])=false)(bQ:((ts.getD 0 hN).sym==[40])=false)(bV:((ts.getD 0 hN).sym==[110,97,109,101])=false)(R:4<=m)(us)(aJ:us=(ts.drop 2).take (m-1-2))(bT:(spQ us (m-3)).cur≠[])(r)
  (bl:∀W' aW cc,Kept 0 0 W W'->SgR W' g W.heap.size aW (f9 us)->Calls prog 128 #[hG P,.slice bh Q cL,jb (ts.getD 0 hN),.slice aW (f9 us).length cc] W' (TrO W' P I am al ar X bs r)):
  Calls prog 93 #[hG P,.slice bh Q cL,.slice (some ⟨g,off,none⟩) m cap] W (TrO W P I am al ar X bs r):=by
 have z:V _:=fS W g _ m cap _ H.tk H.m5 [43] [45];have ai:V _:=fS W g _ m cap _ H.tk H.m5 [42] [47];rw[mB aK]at z ai;have c0:=H.tk.c0 0 xaa;have c1:=H.tk.c1 0 xaa;have c2:=H.tk.c2 0 xaa;have bn:=H.m5;have C:=H.mc
 have f:V (∀W',Kept 0 0 W W'->_):=λW' ap=>Ck _ g (off+6) _ (cap-2) _ (by
  have t:=(H.tk.keep ap).in_ 2 _ _ aJ xaa
  rw[show m-1-2=m-3 by omega]at t
  exact t) xaa xaa xaa bT
 have i:V _:=bl;generalize ts.getD 0 _=t at*;clear H aK bl bT aJ;obtain⟨a0,aS,bp⟩:=t;simp only at B h3 a8 bQ bV;simp only[Nat.zero_mul,Nat.add_zero]at c0 c1 c2;go_enter func93,ntmps93;go_upto_region 3 with (go_at_call 122;refine yai z.o ?_;rintro e af ⟨rfl,S⟩;obtain rfl:=S.symm);go_upto_region 15 with (go_at_call 122;refine yai ai.o ?_;rintro e af ⟨rfl,S⟩;obtain rfl:=S.symm);go_upto_region 16 with fail;change Code.wp _ _ _ _ (W.alloc (.cells #[eN _,.int _ aS,eN _] 84));have aI:V _:=it W a0 aS bp;have HK:V _:=ez 0 0 W (.cells #[eN a0,hI aS,eN bp] 84);generalize W.alloc _=aD at aI HK⊢;have cd:V _:=HK.o.size;generalize cf:W.heap.size=bL at aI⊢;have bv:V _:=cf;clear cf;obtain⟨bb,N,aA⟩:aD.cell? _=some _/\aD.cell? _=some _/\aD.cell? _=some _:=⟨aI.o.c0,aI.o.c1,aI.o.c2⟩
 have a7:V _:=f.o _ HK.o;clear c0 c1 c2 z ai f;generalize (f9 _).length=j at a7 i⊢;go_upto_region 29 with (go_at_call 126;refine yai a7.o ?_;rintro e af ⟨aW,cc,rfl,h,ao⟩);have y:V _:=aI.o.keep ao
 have aT:V (SgR _ g _ _ _):=⟨λb3=>by
  obtain⟨b0,aO,aR,b2⟩:=h.at_ b3
  exact⟨_,aO,yan cd.o aR,b2⟩⟩
 have av:V _:=yai (i.o _ _ cc (HK.o.trans ao) aT.o) (λe aG t=>(⟨TrO.ret t,TrO.back (HK.o.trans ao) t⟩:(∃x:Int,e=.returned _)/\V (TrO W P I _ _ _ _ _ r e _)));unfold jb at av;simp only at av;clear bb N aA aI h i a7 aT;have bb:=y.o.c0;have N:=y.o.c1;have aA:=y.o.c2;clear y ao;go_wp2_with (go_at_call 128;refine yai av.o ?_;rintro e bm ⟨⟨x,rfl⟩,bi⟩);go_ret;exact bi.o
end
section
variable {f:Nat}{u:Loc}{st:LSt}{k n:Tok}{a:Ex}{r:Rs (LSt×Nat)}
theorem Bl(h:eP (f+1) st u (.key1 k a)=some r):∃aC,eP f st u a=some aC/\r=(if k.sym=zd then vP 13 false k.pos aC else vP 9 true k.pos aC):=by
 rw[eP]at h;cases B:eP f st u a with
 |none=>rw[B]at h;cases h
 |some aC=>
  rw[B]at h;rcases aC with⟨c,p⟩|⟨ax,x⟩
  ·cases h;refine⟨_,rfl,?_⟩;split<;>rfl
  cases h;exact⟨_,rfl,rfl⟩
theorem Hs{ts}(h:cm 0 ts=some 0)(n)(hn:ts.length<=n):(spQ ts n).cur=ts:=by
 simp_all [spQ,List.take_of_length_le,qB]
section
variable {f:Nat}{W:World}{P I:Nat}{am al ar X:Value}{bs:List Bc}{st:LSt}{bh:Option Addr}{Q cL:Nat}{u:Loc}{g off m cap:Nat}{ts:List Tok}{a:Ex}{r:Rs (LSt×Nat)}
theorem Ef{k l q}(aj:TrC f)(H:TrIn W P I am al ar X bs st bh Q u g off m cap (k::l::(ts++[q])))(O:k.sym=zd\/k.sym=FL)(ah:l.sym=[40])(G:Pr 2 [a] ts)(aq:q.sym=[41])(h:eP (f+1) st u (.key1 k a)=some r):
  Calls prog 93 #[hG P,.slice bh Q cL,.slice (some ⟨g,off,none⟩) m cap] W (TrO W P I am al ar X bs r):=by
 obtain⟨aC,ae,rfl⟩:=Bl h;have az:=H.tk.len;simp only[yap,yak,List.length_nil]at az;have aK:=jg G;have y:=jS G yad;have bC:=H.mc;have bT:ts≠[]:=λc=>by grind
 have b1:=jB G (λt ht=>H.ti t (by simp[ht])) a xac;have aJ:ts=((k::l::(ts++[q])).drop 2).take (m-1-2):=by grind
 have aQ:∀x:List _,x≠zd->x≠FL->(k.sym==x)=false:=λx B R=>by
  grind
 refine ll H (Pr.key1 O ah G aq) (aQ _ xab xab) (aQ _ xab xab) (aQ _ xab xab) (aQ _ xab xab) (aQ _ xab xab) xaa _ aJ (by rw[Hs y _ xaa];exact bT) _ (λW' aW cc ap aT=>?_);rw[Ng bT y]at aT⊢;obtain⟨b0,rfl,_,aw,aA⟩:=aT.at_ xac;obtain⟨o,c,c1,c2,c3⟩:=aA 0 xac
 have bl:∀aG,Kept 0 0 _ aG->_:=λaG ao=>
  aj _ P I _ _ _ _ _ _ _ _ cL _ g o ts.length c ts ⟨H.ws.keep (ap.trans ao),H.gd,H.nm,H.lc.keep (ap.trans ao),H.ln,H.lo,c2.keep ao,H.tg,hR H.m5,c3,λt ht=>H.ti t (by simp[ht]),λt ht=>H.tn t (by simp[ht])⟩ 2 a G yad _ ae
 have bq:=gC f _ _ a H.gd H.nm H.lo b1 _ ae;obtain⟨ay,K,z⟩:=k;rcases O with O|O
 ·simp only at O;subst O;rw[hK rfl];exact Ed (H.ws.keep ap) _ _ xac aw c1 _ bq bl
 simp only at O;subst O;rw[hJ (show ¬(FL=zd) by decide)];exact Ee (H.ws.keep ap) _ _ xac aw c1 _ bq bl
end
theorem WS.far2{W P I am al ar X bs}(h:WS W P I am al ar X bs st){b}(hb:W.heap.size<=b):¬Mst P am al ar X b:=by
 exact xhb
def Ht (k n:Tok)(r1:Rs (LSt×Nat)):Rs (LSt×Nat):=match r1 with|.error f=>.error f|.ok (s,a)=>mj s k a n
theorem Bm(h:eP (f+1) st u (.keyN k a n)=some r):∃aC,eP f st u a=some aC/\r=KQ aC (Ht k n aC):=by
 exact xdu
theorem pe{us X y}(aj:us≠[])(h:f9 us=X++[y])(n)(hn:us.length<=n):(spQ us n).cur=y:=by
 simp_all [f9,spQ,List.take_of_length_le]
section
variable {f:Nat}{W:World}{P I:Nat}{am al ar X:Value}{bs:List Bc}{st:LSt}{bh:Option Addr}{Q cL:Nat}{u:Loc}{g off m cap:Nat}{ts:List Tok}{a:Ex}{r:Rs (LSt×Nat)}
theorem bF.qbs(h:Zp:=by
 have ce:∀s x,aC=.ok (s,x)->∀aG bc bd bg Z,WS aG P I bc bd bg Z bs s->Mv (Mst P am al ar X) W' (Mst P bc bd bg Z) aG->Calls prog 138 #[hG P,jb k,hI x,hH b0 2 cc] aG (TrO aG P I bc bd bg Z bs (Ht k n aC)):=λs x e aG bc bd bg Z S C=>by
  obtain⟨w,au⟩:=bq s x e
  subst e
  exact Hh S w.g k O x au n bf yad ⟨yaj aw C.chg.size,(C.chg.cell (p:=⟨b0,1,none⟩) aw v).trans ak,c2'.keepC C.chg H.tg⟩
 obtain⟨ay,K,z⟩:=k;rcases O with O|O
 ·simp only at O;subst O;exact uk (.inl rfl) (H.ws.keep ap) K z xac aw c1 aC _ bq bl ce
 simp only at O;subst O;exact uk (.inr (.inl rfl)) (H.ws.keep ap) K z xac aw c1 aC _ bq bl ce):Zp:=h
theorem bF.qen(h:Zp:=by
 exact qbr):Zp:=h
theorem bF.qgm(h:Zp:=by
 have bf:=H.ti n xac hn;exact qhw):Zp:=h
theorem bF.qhx(h:Zp:=by
 have aQ:∀x:List UInt8,x≠vn->x≠qA->(k.sym==x)=false:=λx B R=>by
  rw[beq_eq_false_iff_ne]
  rintro rfl
  exact O.elim B R
 refine ll H (Pr.keyN O ah G ai hn aq) (aQ _ xab xab) (aQ _ xab xab) (aQ _ xab xab) (aQ _ xab xab) (aQ _ xab xab) xaa (ts++c::[n]) aJ (by rw[pe (X:=[ts]) (y:=[n]) xac U _ yaf];simp) _ (λW' aW cc ap aT=>?_);exact qem):Zp:=h
open bF in
theorem Eg{k l c n q}(aj:TrC f)(H:TrIn W P I am al ar X bs st bh Q u g off m cap (k::l::(ts++[c,n,q])))(O:k.sym=vn\/k.sym=qA)(ah:l.sym=[40])(G:Pr 2 [a] ts)(ai:c.sym=[44])(hn:n.sym=iK)(aq:q.sym=[41])(h:eP (f+1) st u (.keyN k a n)=some r):
  Calls prog 93 #[hG P,.slice bh Q cL,.slice (some ⟨g,off,none⟩) m cap] W (TrO W P I am al ar X bs r):=by
 obtain⟨aC,ae,rfl⟩:=Bm h;exact qgl
end
def Cq (k i n:Tok)(r1:Rs (LSt×Nat)):Rs (LSt×Nat):=match r1 with|.error f=>.error f|.ok (s,a)=>ml s k a i n
theorem Eh{i}(h:eP (f+1) st u (.put k a i n)=some r):∃aC,eP f st u a=some aC/\r=KQ aC (Cq k i n aC):=by
 exact xdu
section
variable {f:Nat}{W:World}{P I:Nat}{am al ar X:Value}{bs:List Bc}{st:LSt}{bh:Option Addr}{Q cL:Nat}{u:Loc}{g off m cap:Nat}{ts:List Tok}{a:Ex}{r:Rs (LSt×Nat)}
theorem bG.qbs(h:Zp:=by
 have ce:∀s x,aC=.ok (s,x)->∀aG bc bd bg Z,WS aG P I bc bd bg Z bs s->Mv (Mst P am al ar X) W' (Mst P bc bd bg Z) aG->Calls prog 138 #[hG P,jb k,hI x,hH b0 3 cc] aG (TrO aG P I bc bd bg Z bs (Cq k i n aC)):=λs x e aG bc bd bg Z S C=>by
  obtain⟨w,au⟩:=bq s x e
  subst e
  exact Hi S w.g k O x au i J yad ⟨yaj aw C.chg.size,(C.chg.cell (p:=⟨b0,1,none⟩) aw v).trans ak,c2'.keepC C.chg H.tg⟩ n bf ⟨yaj aw C.chg.size,(C.chg.cell (p:=⟨b0,2,none⟩) aw v).trans Y,F.keepC C.chg H.tg⟩
 obtain⟨ay,K,z⟩:=k;simp only at O;subst O;exact uk (.inr (.inr rfl)) (H.ws.keep ap) K z xac aw c1 aC _ bq bl ce):Zp:=h
theorem bG.qen(h:Zp:=by
 obtain⟨bS,p,Y,F,R⟩:=aA 2 xac;exact qbr):Zp:=h
theorem bG.qgm(h:Zp:=by
 have bf:=H.ti n xac hn;have J:=H.ti i xac hi;have N:=tK (by rw[hi];decide) (by rw[hi];decide) (by rw[hi];decide);have cO:=tK (by rw[hn];decide) (by rw[hn];decide) (by rw[hn];decide);have U:=AY y ai N aV cO
 have aJ:ts++c::([i]++d::[n])=((k::l::(ts++[c,i,d,n,q])).drop 2).take (m-1-2):=by
  rw[List.drop_succ_cons,List.drop_succ_cons,List.drop_zero,show ts++[c,i,d,n,q]=(ts++c::([i]++d::[n]))++[q] by simp,List.take_append_of_le_length yaf,yao yaf]
 have aQ:∀x:List UInt8,x≠Dj->(k.sym==x)=false:=λx B=>by
  rw[beq_eq_false_iff_ne]
  rintro rfl
  exact B O
 refine ll H (Pr.put O ah G ai hi aV hn aq) (aQ _ xab) (aQ _ xab) (aQ _ xab) (aQ _ xab) (aQ _ xab) xaa (ts++c::([i]++d::[n])) aJ (by rw[pe (X:=[ts,[i]]) (y:=[n]) xac U _ yaf];simp) _ (λW' aW cc ap aT=>?_);exact qem):Zp:=h
open bG in
theorem Hu{k l c i d n q}(aj:TrC f)(H:TrIn W P I am al ar X bs st bh Q u g off m cap (k::l::(ts++[c,i,d,n,q])))(O:k.sym=Dj)(ah:l.sym=[40])(G:Pr 2 [a] ts)(ai:c.sym=[44])(hi:i.sym=iK)(aV:d.sym=[44])(hn:n.sym=iK)(aq:q.sym=[41])(h:eP (f+1) st u (.put k a i n)=some r):
  Calls prog 93 #[hG P,.slice bh Q cL,.slice (some ⟨g,off,none⟩) m cap] W (TrO W P I am al ar X bs r):=by
 obtain⟨aC,ae,rfl⟩:=Eh h;exact qgl
end
end
section
attribute [local go_sem] eG eE eD
variable {P I Q cL g off m cap:Nat}{am al ar X:Value}{bs:List Bc}{st:LSt}{bh:Option Addr}{u:Loc}{ts:List Tok}
theorem TrIn.seg{W}(h:TrIn W P I am al ar X bs st bh Q u g off m cap ts){W' bc bd bg Z N}(S:WS W' P I bc bd bg Z bs N)(w:Gw st N)(k:Mv (Mst P am al ar X) W (Mst P bc bd bg Z) W'){o n c us}(K:TkA W' g o n us)(hn:n<=m)(ai:n<=c)(aJ:∀t∈us,t∈ts):TrIn W' P I bc bd bg Z bs N bh Q u g o n c us where
 ws:=S
 gd:=w.g
 nm:=h.nm.gw w
 lc:=h.lc.mv k
 ln:=h.ln
 lo:=h.lo.le w.n
 tk:=K
 tg:=λc=>(k.new g c).elim h.tg (λc=>hR h.tk.lt)
 m5:=hR h.m5
 mc:=ai
 ti:=λt ht=>h.ti t (aJ t ht)
 tn:=λt ht=>h.tn t (aJ t ht)
theorem D.qal(h:Zp:=by
 change Code.wp _ _ _ _ (W.alloc (.cells #[eN [105,110,116],hI aS,eN bp] 84));have aI:V _:=it W [105,110,116] aS bp;have HK:V _:=ez 0 0 W (.cells #[eN [105,110,116],hI aS,eN bp] 84);generalize W.alloc (.cells #[eN [105,110,116],hI aS,eN bp] 84)=aD at aI HK⊢;exact xbm):Zp:=h
open D in
theorem Ei{W}(H:TrIn W P I am al ar X bs st bh Q u g off m cap ts){e}(aK:Pr 0 [e] ts)(aj:(ts.getD 0 hN).sym=[105,110,116])(R:1<=m)(bF:kP (ts.getD 0 hN).text):
  Calls prog 93 #[hG P,.slice bh Q cL,.slice (some ⟨g,off,none⟩) m cap] W (TrO W P I am al ar X bs (fZ st ⟨1,1,0,0,0,oB (ts.getD 0 hN).text⟩ (ts.getD 0 hN).pos)):=by
 exact qak
theorem E.qal(h:Zp:=by
 change Code.wp _ _ _ _ (W.alloc (.cells #[eN [100,101,99],hI aS,eN bp] 84));have aI:V _:=it W [100,101,99] aS bp;have HK:V _:=ez 0 0 W (.cells #[eN [100,101,99],hI aS,eN bp] 84);generalize W.alloc (.cells #[eN [100,101,99],hI aS,eN bp] 84)=aD at aI HK⊢;exact xbm):Zp:=h
open E in
theorem Ej{W}(H:TrIn W P I am al ar X bs st bh Q u g off m cap ts){e}(aK:Pr 0 [e] ts)(aj:(ts.getD 0 hN).sym=[100,101,99])(R:1<=m)(bF:kP (ts.getD 0 hN).text):
  Calls prog 93 #[hG P,.slice bh Q cL,.slice (some ⟨g,off,none⟩) m cap] W (TrO W P I am al ar X bs (fZ st ⟨1,1,0,0,0,oB (ts.getD 0 hN).text⟩ (ts.getD 0 hN).pos)):=by
 exact qak
section
variable {f:Nat}{W:World}{P I:Nat}{am al ar X:Value}{bs:List Bc}{st:LSt}{bh:Option Addr}{Q cL:Nat}{u:Loc}{g off m cap:Nat}{t:Tok}{r:Rs (LSt×Nat)}
theorem Hv(H:TrIn W P I am al ar X bs st bh Q u g off m cap [t])(ht:t.sym=iK\/t.sym=lg)(h:eP (f+1) st u (.num t)=some r):
  Calls prog 93 #[hG P,.slice bh Q cL,.slice (some ⟨g,off,none⟩) m cap] W (TrO W P I am al ar X bs r):=by
 rw[eP]at h;have e:=hL h;have bF:=H.tn t xac ht;have az:=H.tk.len;have bl:[t].getD 0 hN=t:=rfl;have B:1<=m:=by grind
 rcases ht with ht|ht
 ·have k:=Ei (cL:=cL) H (Pr.num (.inl ht)) (hU bl ht) B (by grind);rw[bl,e]at k;exact k
 have k:=Ej (cL:=cL) H (Pr.num (.inr ht)) (hU bl ht) B (by grind);rw[bl,e]at k;exact k
end
end
section
variable {f P I Q g b0:Nat}{am al ar X:Value}{st s:LSt}{r:Rs (LSt×Nat)}{u:Loc}{bs:List Bc}{bh:Option Addr}{es:List Ex}
theorem mF(J):∀(es:List Ex) (st:LSt) (aa:Rs (LSt×List Nat)),gm J st es=some aa->∀k,k<es.length->∀s xs,gm J st (es.take k)=some (.ok (s,xs))->∃r,J s (es.getD k (.num hN))=some r/\(∀f,r=.error f->aa=.error f)/\(∀aN a,r=.ok (aN,a)->gm J st (es.take (k+1))=some (.ok (aN,xs++[a])))
 |[],_,_,_,k,O,_,_,_=>by simp at O
 |e::es,st,aa,h,0,_,s,xs,ad=>by
  rw[List.take_zero,gm]at ad
  grind [gm]
 |e::es,st,aa,h,k+1,O,s,xs,ad=>by
  rw[List.take_succ_cons,gm]at ad
  rw[gm]at h
  cases B:J st e with
  |none=>grind
  |some bn=>
   rw[B]at h ad
   rcases bn with f|⟨ax,a⟩
   ·cases ad
   ·simp only at h ad
    cases R:gm J ax es with
    |none=>grind
    |some R'=>
     cases h3:gm J ax (es.take k) with
     |none=>grind
     |some R3=>
      rw[h3]at ad
      rcases R3 with f|⟨bC,bd⟩
      ·cases ad
      ·cases ad
       obtain⟨r,an,ao,aM⟩:=mF _ _ _ _ R k (by grind) s _ h3
       refine⟨r,an,λf ae=>?_,λaN b ae=>?_⟩
       ·simp_all
       ·simp_all [gm]
structure ArgS (f:Nat)(W:World)(P B:Nat)(u1 u2 u3 u4:Value)(bs:List Bc)(st:LSt)(aL:Option Addr)(nL cL:Nat)(loc:Loc)(g gr:Nat)(es:List Ex):Prop where
 lt:gr<W.heap.size
 nM:¬Mst P u1 u2 u3 u4 gr
 call:∀i,i<es.length->∃o n c,W.cell? ⟨gr,i,none⟩=some (.slice (some ⟨g,o,none⟩) n c)/\∀s r W' z1 z2 z3 z4,Gw st s->eP f s loc (es.getD i (.num hN))=some r->WS W' P B z1 z2 z3 z4 bs s->Mv (Mst P u1 u2 u3 u4) W (Mst P z1 z2 z3 z4) W'->RsG s r/\Calls prog 93 #[.pointer (some ⟨P,0,none⟩),.slice aL nL cL,.slice (some ⟨g,o,none⟩) n c] W' (TrO W' P B z1 z2 z3 z4 bs r)
theorem ArgS.cell{W cL}(h:ArgS f W P I am al ar X bs st bh Q cL u g b0 es){W'}(c:Chg (Mst P am al ar X) W W')(i):W'.cell? ⟨b0,i,none⟩=W.cell? ⟨b0,i,none⟩:=c.cell (p:=⟨b0,i,none⟩) h.lt h.nM
theorem ArgS.of(aj:TrC f){W0 W}(cL){off m cap ts}(H:TrIn W0 P I am al ar X bs st bh Q u g off m cap ts)(ap:Kept 0 0 W0 W){h:List (List Tok)}(cu:W0.heap.size<=b0)(aw:b0<W.heap.size)(aT:∀i,i<h.length->∃o c,W.cell? ⟨b0,i,none⟩=some (.slice (some ⟨g,o,none⟩) (h.getD i []).length c)/\TkA W g o (h.getD i []).length (h.getD i [])/\(h.getD i []).length<=c)(ah:h.length=es.length)(hP:∀i,i<es.length->Pr 2 [es.getD i (.num hN)] (h.getD i []))(hn:∀i,i<h.length->(h.getD i []).length<=m)(aJ:∀i,i<h.length->∀t∈h.getD i [],t∈ts):ArgS f W P I am al ar X bs st bh Q cL u g b0 es where
 lt:=aw
 nM:=H.ws.far2 cu
 call:=λi hi=>by
  obtain⟨o,c,c1,c2,c3⟩:=aT i xaa
  refine⟨o,_,c,c1,λs r W' aZ be bz bE w e S C=>?_⟩
  have j:=hP i hi
  have l:=aJ i xaa
  exact⟨gC f s _ _ w.g (H.nm.gw w) (H.lo.le w.n) (jB j (λt ht=>H.ti t (l t ht)) _ xac) r e,aj _ P I _ _ _ _ _ s _ _ _ _ g o _ c _ (H.seg S w ((Mv.of ap).trans C) (c2.keepC C.chg H.tg) (hn i xaa) c3 l) 2 _ j yad r e⟩
theorem FtI.lit{W aT bc bd bg Z}(U:WS aT P I bc bd bg Z bs s)(C:Mv (Mst P am al ar X) W (Mst P bc bd bg Z) aT)(a:Nat):FtI W (aT.alloc (.cells #[hI a] 3)) P I am al ar X bs s (hH aT.heap.size 1 1) [a]:=by
 have bH:=ez 0 0 aT (.cells #[hI a] 3);have ad:=C.chg.size;have ab:∀b,(hH aT.heap.size 1 1).ownBlock=some b->b=aT.heap.size:=λb hb=>by simp[Value.ownBlock]at hb;omega
 refine⟨⟨_,_,_,_,U.keep bH,⟨(C.keep bH).chg,λb hb=>?_⟩,λb hb c=>?_⟩,⟨rfl,.inr ⟨_,1,#[.int _ a],rfl,ad,?_,yad,by unfold maxLen;omega,rfl,rfl⟩⟩⟩
 ·rcases hb with c|c
  ·exact C.new b c
  grind
 ·rw[ab b hb]at c;exact U.far c
 simp[World.alloc,-World.alloc_eq]
theorem FtI.xs{W W' o ba}(h:FtI W W' P I am al ar X bs s o ba):∃a c bc bd bg Z,o=.slice a ba.length c/\WS W' P I bc bd bg Z bs s/\Mv (Mst P am al ar X) W (Mst P bc bd bg Z) W'/\XsR (Mst P bc bd bg Z) W' a ba.length ba:=by
 obtain⟨bc,bd,bg,Z,aC,an,bO⟩:=h.ex;obtain⟨cd,cD,av⟩:=ju h.row;refine⟨_,_,_,_,_,_,av,aC,⟨an.chg,λb hb=>an.new b (.inl hb)⟩,⟨rfl,λbB=>?_⟩⟩;have ad:=h.row;rcases ad.2 with⟨_,c⟩|⟨g,c,H,e,N,aA,ab,_,b9,cn⟩
 ·omega
 rw[av]at e;cases e;have aW:g<W'.heap.size:=by grind
 refine⟨g,0,rfl,bO g (by rw[av];simp[Value.ownBlock]),aW,λk O=>?_⟩;rw[Nat.zero_add,cell_of_row _ g _ _ _ _ aA,<-Array.getElem?_toList];have:(H.toList.take (ba.length*1))[k]? =(ba.map λj:Nat=>Value.int .i64 j)[k]?:=by rw[cn]
 grind
def mG (ks:List UInt8)(k:Tok)(s:LSt)(xs:List Nat):Rs (LSt×Nat):=
 match ko s xs k.pos with
 |.error f=>.error f
 |.ok (s2,f)=>
  if ks=ze then fZ s2 (eL 8 (fg s2 (f.getD 0 0)) (f.getD 0 0:Nat) (f.getD 1 0:Nat) (f.getD 2 0:Nat)) k.pos
  else if ks=AV then fZ s2 (eL 7 (fg s2 (f.getD 0 0)) (f.getD 0 0:Nat) (f.getD 1 0:Nat) 0) k.pos
  else match fZ s2 (eL 4 (fg s2 (f.getD 0 0)) (f.getD 0 0:Nat) (f.getD 1 0:Nat) 0) k.pos with
   |.error f=>.error f
   |.ok (s3,p)=>fZ s3 (eL 9 1 (p:Int) 0 0) k.pos
def r9 (ks:List UInt8)(k:Tok)(R:Rs (LSt×List Nat)):Rs (LSt×Nat):=match R with
 |.error f=>.error f
 |.ok (s,xs)=>mG ks k s xs
theorem Ek{k a b}(O:k.sym≠ze)(h:eP (f+1) st u (.key2 k a b)=some r):∃aa,gm (λs e=>eP f s u e) st [a,b]=some aa/\r=r9 k.sym k aa:=by
 rw[eP]at h;simp only[gm];cases B:eP f st u a with
 |none=>rw[B]at h;cases h
 |some aC=>
  rw[B]at h;rcases aC with f1|⟨ax,x⟩
  ·cases h;exact⟨_,rfl,rfl⟩
  simp only[jJ]at h⊢;cases R:eP f ax u b with
  |none=>grind
  |some a0=>
   rw[R]at h;rcases a0 with f2|⟨aN,y⟩
   ·cases h;exact⟨_,rfl,rfl⟩
   cases h;refine⟨_,rfl,?_⟩;show qM aN k x y=mG k.sym k aN [x,y];grind [qM,mG]
theorem El{k a b c}(O:k.sym=ze)(h:eP (f+1) st u (.key3 k a b c)=some r):∃aa,gm (λs e=>eP f s u e) st [a,b,c]=some aa/\r=r9 k.sym k aa:=by
 rw[eP]at h;simp only[gm];cases B:eP f st u a with
 |none=>rw[B]at h;cases h
 |some aC=>
  rw[B]at h;rcases aC with f1|⟨ax,x⟩
  ·cases h;exact⟨_,rfl,rfl⟩
  simp only[jJ]at h⊢;cases R:eP f ax u b with
  |none=>grind
  |some a0=>
   rw[R]at h;rcases a0 with f2|⟨aN,y⟩
   ·cases h;exact⟨_,rfl,rfl⟩
   simp only at h⊢;cases h3:eP f aN u c with
   |none=>grind
   |some ai=>
    rw[h3]at h;rcases ai with f3|⟨bC,z⟩
    ·cases h;exact⟨_,rfl,rfl⟩
    cases h;refine⟨_,rfl,?_⟩;show xU bC k x y z=mG k.sym k bC [x,y,z];grind [xU,mG]
end
section
attribute [local go_sem] eG eE eD
variable {f P I Q cL g b0 bR:Nat}{am al ar X:Value}{bs:List Bc}{bh:Option Addr}{es:List Ex}
theorem aQ.qbe(h:Zp:=by
 generalize R:ax.vs.length=bQ at aV a8 G bF;clear R;go_upto_region 34 with fail;clear aV a8 bD cd;go_wp2_with fail;go_loopw [18,19] (λdd cn W'=>∃(k:Nat) (s:LSt) (xs:List Nat),1<=k/\k<=2/\cn=hI k/\xs.length=k/\V (gm (λs e=>eP f s u e) st (es.take k)=some (.ok (s,xs)))/\V (FtI aD W' P I am al ar X bs s dd xs)/\V (Gw st s)/\V (∀i∈xs,i<s.vs.length)) (λ_ cn _=>2-(intOf cn).toNat)
 case atStart=>exact⟨1,ax,[a],yad,by decide,rfl,rfl,aW,S,aL,eb⟩
 case round=>
  obtain⟨k,s,xs,er,b4,rfl,(az:V _),bT,bG,v,O⟩:=hrel;clear aW S aL eb;by_cases aF:k<2
  ·exact xaq
  obtain rfl:k=2:=xaa;exact qhm):Zp:=h
theorem aQ.qdz(h:Zp:=by
 exact qid):Zp:=h
theorem aQ.qef(h:Zp:=by
 rcases bn with⟨c,p⟩|⟨ax,a⟩
 ·exact xdm
 exact qbd):Zp:=h
theorem aQ.qgc(h:Zp:=by
 obtain⟨bw,a1,a2,a3,a4,bU⟩:=ad.o bm (Kept.refl 0 0 bm);exact qhk):Zp:=h
theorem aQ.qgi(h:Zp:=by
 rcases q with⟨c,p⟩|⟨bC,U⟩
 ·exact xde
 obtain⟨ae,aT,nn,ah⟩:=cf.o bC U rfl;rw[az.o]at aT
 obtain⟨j,n,rfl⟩:∃j n,U=[j,n]:=by
  match U,aT with
  |[a,b],_=>exact⟨a,b,rfl⟩
 have aj:=(ah j xac).1
 have aH:V (r=fZ bC (eL 7 (fg bC j) (j:Nat) (n:Nat) 0) K):=by
  show _=_;rw[aJ.o];unfold mG;rw[<-ce.o];rfl
 exact qdy):Zp:=h
theorem aQ.qgx(h:Zp:=by
 change Code.wp _ _ _ _ (W.alloc (.cells #[eN [109,97,120],hI K,eN z] 84));generalize W.alloc (.cells #[eN [109,97,120],hI K,eN z] 84)=aD at aI HK⊢;exact qee):Zp:=h
theorem aQ.qhl(h:Zp:=by
 have bM:V (∀W',Kept 0 0 bm W'->Calls prog 96 #[hG P,(eL 7 (fg bC j) (j:Nat) (n:Nat) 0).agg,hI K] W' λe aG=>(∃x:Int,e=.returned (hI x))/\V (TrO W P I am al ar X bs r e aG)/\aG.cell? ⟨bL,1,none⟩=some (hI K)/\aG.cell? ⟨aS,of,none⟩=some (hI (j:Nat))/\aG.cell? ⟨aS,of+1,none⟩=some (hI (n:Nat))):=λW' ap=>yai (mo (ea.o.keep ap) dg.o (eL 7 (fg bC j) (j:Nat) (n:Nat) 0) ef yag K) (λe aG t=>⟨t.ret,by
  show TrO W P I am al ar X bs r e aG
  rw[aH.o]
  exact TrO.after (cH.o.keep ap) t,dv.o W' aG ap t.chg⟩)
 clear aH cH dv dg ea ef ae aB eg HK bx aP bw a1 a2 a3 a4 bU;generalize fg bC j=l at ad bM cN⊢;generalize bC.vs.length=bQ at*;generalize bm.drewN nq=bA at ai cN⊢;obtain⟨bw,a1,a2,a3,a4,bU⟩:=cN.o;go_upto_region 49 with fail
 go_region_held3 (λJ=>J.cell? ⟨bL,1,none⟩=some (hI K)/\J.cell? ⟨aS,of,none⟩=some (hI (j:Nat))/\J.cell? ⟨aS,of+1,none⟩=some (hI (n:Nat))) (go_keep)
  (first
   |(go_at_call 34;refine yai (gQ _ _ _ _ _ _) ?_;rintro e ck ⟨rfl,b6⟩;obtain⟨bj,aQ,a6,bK,b1,bY⟩:=ad.o ck (ai.o.trans ((eF bA).trans b6)))
   |(go_at_call 96;refine yai (bM.o _ (ai.o.trans ((eF bA).trans b6))) ?_;rintro e cc ⟨⟨cx,rfl⟩,bi,br,cg,ek⟩))
 all_goals (go_wp2_with fail;go_ret;exact bi.o)):Zp:=h
theorem aQ.qhn(h:Zp:=by
 have aJ:V (r=mG [109,97,120] ⟨[109,97,120],K,z⟩ s xs):=by show _=_;rw[HR.o,cF.o];rfl
 exact qif):Zp:=h
theorem aQ.qhz(h:Zp:=by
 obtain⟨r,ay⟩:∃r,r=r9 [109,97,120] ⟨[109,97,120],K,z⟩ aa:=⟨_,rfl⟩
 exact qgw):Zp:=h
theorem aQ.qie(h:Zp:=by
 have ad:V (∀W',Kept 0 0 bm W'->W'.cell? ⟨bL,0,none⟩=some (eN [109,97,120])/\W'.cell? ⟨bL,1,none⟩=some (hI K)/\W'.cell? ⟨P,1,none⟩=some (hH bu bC.vs.length cv)/\W'.cell? ⟨bu,j*6+1,none⟩=some (hI (fg bC j))/\W'.cell? ⟨aS,of,none⟩=some (hI (j:Nat))/\W'.cell? ⟨aS,of+1,none⟩=some (hI (n:Nat))):=λW' ap=>⟨(aB.o.keep ap).c0,(aB.o.keep ap).c1,(bv.keep ap).c1,(ap.cell (p:=⟨bu,j*6+1,none⟩) b7 xaa).trans aV,(ap.cell (p:=⟨aS,of,none⟩) ao xaa).trans (ch 0 xac),(ap.cell (p:=⟨aS,of+1,none⟩) ao xaa).trans (ch 1 xac)⟩
 exact qgb):Zp:=h
open aQ in
theorem Em{W st u}(h:WS W P I am al ar X bs st)(H:Gd st)(K z)(cG:es.length=2)(bf:ArgS f W P I am al ar X bs st bh Q cL u g b0 es)(aa)(C:gm (λs e=>eP f s u e) st es=some aa):
  Calls prog 128 #[hG P,.slice bh Q cL,jb ⟨[109,97,120],K,z⟩,hH b0 2 bR] W (TrO W P I am al ar X bs (r9 [109,97,120] ⟨[109,97,120],K,z⟩ aa)):=by
 have aI:V _:=it W [109,97,120] K z;have HK:V _:=ez 0 0 W (.cells #[eN [109,97,120],hI K,eN z] 84);exact qhy
theorem aR.qbe(h:Zp:=by
 generalize h3:ax.vs.length=bQ at aV a8 G bF;clear h3;go_upto_region 34 with fail;clear aV a8 bD cd;go_wp2_with fail;go_loopw [18,19] (λdd cn W'=>∃(k:Nat) (s:LSt) (xs:List Nat),1<=k/\k<=3/\cn=hI k/\xs.length=k/\V (gm (λs e=>eP f s u e) st (es.take k)=some (.ok (s,xs)))/\V (FtI aD W' P I am al ar X bs s dd xs)/\V (Gw st s)/\V (∀i∈xs,i<s.vs.length)) (λ_ cn _=>3-(intOf cn).toNat)
 case atStart=>exact⟨1,ax,[a],yad,by decide,rfl,rfl,aW,S,aL,eb⟩
 case round=>
  obtain⟨k,s,xs,er,b4,rfl,(az:V _),bT,bG,v,O⟩:=hrel;clear aW S aL eb;by_cases aF:k<3
  ·exact xaq
  obtain rfl:k=3:=xaa;exact qhm):Zp:=h
theorem aR.qdz(h:Zp:=by
 exact qid):Zp:=h
theorem aR.qef(h:Zp:=by
 rcases bn with⟨c,p⟩|⟨ax,a⟩
 ·exact xdm
 exact qbd):Zp:=h
theorem aR.qgi(h:Zp:=by
 rcases q with⟨c,p⟩|⟨bC,U⟩
 ·exact xde
 obtain⟨ae,aT,nn,ah⟩:=cf.o bC U rfl;rw[az.o]at aT
 obtain⟨j,n,N,rfl⟩:∃j n N,U=[j,n,N]:=by
  match U,aT with
  |[a,b,c],_=>exact⟨a,b,c,rfl⟩
 have aj:=(ah j xac).1
 have aH:V (r=fZ bC (eL 8 (fg bC j) (j:Nat) (n:Nat) (N:Nat)) K):=by
  show _=_;rw[aJ.o];unfold mG;rw[<-ce.o];rfl
 exact qdy):Zp:=h
theorem aR.qgx(h:Zp:=by
 change Code.wp _ _ _ _ (W.alloc (.cells #[eN [115,101,108],hI K,eN z] 84));generalize W.alloc (.cells #[eN [115,101,108],hI K,eN z] 84)=aD at aI HK⊢;exact qee):Zp:=h
theorem aR.qhl(h:Zp:=by
 have bM:V (∀W',Kept 0 0 bm W'->Calls prog 96 #[hG P,(eL 8 (fg bC j) (j:Nat) (n:Nat) (N:Nat)).agg,hI K] W' λe aG=>(∃x:Int,e=.returned (hI x))/\V (TrO W P I am al ar X bs r e aG)/\aG.cell? ⟨bL,1,none⟩=some (hI K)/\aG.cell? ⟨aS,of,none⟩=some (hI (j:Nat))/\aG.cell? ⟨aS,of+1,none⟩=some (hI (n:Nat))/\aG.cell? ⟨aS,of+2,none⟩=some (hI (N:Nat))):=λW' ap=>yai (mo (ea.o.keep ap) dg.o (eL 8 (fg bC j) (j:Nat) (n:Nat) (N:Nat)) ef yag K) (λe aG t=>⟨t.ret,by
  show TrO W P I am al ar X bs r e aG
  rw[aH.o]
  exact TrO.after (cH.o.keep ap) t,dv.o W' aG ap t.chg⟩)
 clear aH cH dv dg ea ef ae aB eg HK bx aP bw a1 a2 a3 a4 bU ci;generalize fg bC j=l at ad bM cN⊢;generalize bC.vs.length=bQ at*;generalize bm.drewN nq=bA at ai cN⊢;obtain⟨bw,a1,a2,a3,a4,bU,ci⟩:=cN.o;go_upto_region 47 with fail
 go_region_held3 (λJ=>J.cell? ⟨bL,1,none⟩=some (hI K)/\J.cell? ⟨aS,of,none⟩=some (hI (j:Nat))/\J.cell? ⟨aS,of+1,none⟩=some (hI (n:Nat))/\J.cell? ⟨aS,of+2,none⟩=some (hI (N:Nat))) (go_keep)
  (first
   |(go_at_call 34;refine yai (gQ _ _ _ _ _ _) ?_;rintro e ck ⟨rfl,b6⟩;obtain⟨bj,aQ,a6,bK,b1,bY,a7⟩:=ad.o ck (ai.o.trans ((eF bA).trans b6)))
   |(go_at_call 96;refine yai (bM.o _ (ai.o.trans ((eF bA).trans b6))) ?_;rintro e cc ⟨⟨cx,rfl⟩,bi,br,cg,ek,cI⟩))
 all_goals (go_wp2_with fail;go_ret;exact bi.o)):Zp:=h
theorem aR.qhn(h:Zp:=by
 have aJ:V (r=mG [115,101,108] ⟨[115,101,108],K,z⟩ s xs):=by show _=_;rw[HR.o,cF.o];rfl
 exact qif):Zp:=h
theorem aR.qhz(h:Zp:=by
 obtain⟨r,ay⟩:∃r,r=r9 [115,101,108] ⟨[115,101,108],K,z⟩ aa:=⟨_,rfl⟩
 exact qgw):Zp:=h
theorem aR.qie(h:Zp:=by
 have ad:V (∀W',Kept 0 0 bm W'->W'.cell? ⟨bL,0,none⟩=some (eN [115,101,108])/\W'.cell? ⟨bL,1,none⟩=some (hI K)/\W'.cell? ⟨P,1,none⟩=some (hH bu bC.vs.length cv)/\W'.cell? ⟨bu,j*6+1,none⟩=some (hI (fg bC j))/\W'.cell? ⟨aS,of,none⟩=some (hI (j:Nat))/\W'.cell? ⟨aS,of+1,none⟩=some (hI (n:Nat))/\W'.cell? ⟨aS,of+2,none⟩=some (hI (N:Nat))):=λW' ap=>⟨(aB.o.keep ap).c0,(aB.o.keep ap).c1,(bv.keep ap).c1,(ap.cell (p:=⟨bu,j*6+1,none⟩) b7 xaa).trans aV,(ap.cell (p:=⟨aS,of,none⟩) ao xaa).trans (ch 0 xac),(ap.cell (p:=⟨aS,of+1,none⟩) ao xaa).trans (ch 1 xac),(ap.cell (p:=⟨aS,of+2,none⟩) ao xaa).trans (ch 2 xac)⟩
 have dv:V (∀W' aG,Kept 0 0 bm W'->Chg (Mst P aU (hH bu bC.vs.length cv) bW b9) W' aG->aG.cell? ⟨bL,1,none⟩=some (hI K)/\aG.cell? ⟨aS,of,none⟩=some (hI (j:Nat))/\aG.cell? ⟨aS,of+1,none⟩=some (hI (n:Nat))/\aG.cell? ⟨aS,of+2,none⟩=some (hI (N:Nat))):=λW' aG ap b3=>by
  obtain⟨ba,aO,_,_,a0,cz,m⟩:=ad.o W' ap
  have F:=(aB.o.keep ap).lt
  have dp:=yaj ao ap.size
  exact⟨(b3.cell (p:=⟨bL,1,none⟩) F cw).trans aO,(b3.cell (p:=⟨aS,of,none⟩) dp b8).trans a0,(b3.cell (p:=⟨aS,of+1,none⟩) dp b8).trans cz,(b3.cell (p:=⟨aS,of+2,none⟩) dp b8).trans m⟩
 have bF:=ae.g.n;have ef:=ae.g.lenB aj;have dg:V _:=ae.g;have ea:V _:=bv;have eg:V _:=cw;obtain⟨bw,a1,a2,a3,a4,bU,ci⟩:=ad.o bm (Kept.refl 0 0 bm);exact qhk):Zp:=h
open aR in
theorem Eo{W st u}(h:WS W P I am al ar X bs st)(H:Gd st)(K z)(cG:es.length=3)(bf:ArgS f W P I am al ar X bs st bh Q cL u g b0 es)(aa)(C:gm (λs e=>eP f s u e) st es=some aa):
  Calls prog 128 #[hG P,.slice bh Q cL,jb ⟨[115,101,108],K,z⟩,hH b0 3 bR] W (TrO W P I am al ar X bs (r9 [115,101,108] ⟨[115,101,108],K,z⟩ aa)):=by
 have aI:V _:=it W [115,101,108] K z;have HK:V _:=ez 0 0 W (.cells #[eN [115,101,108],hI K,eN z] 84);exact qhy
