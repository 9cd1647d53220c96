import Derived.Test.YtcjhlkdleojbjaaGreatP25
namespace Go.Proofs.Z
variable{Zp:Prop}
open Tryz Go.RowKit Flt
set_option maxRecDepth 1000000
set_option maxHeartbeats 0
section
attribute[local go_sem] eF eE eD
variable{P J Q cL bQ al ce q o cf c0:Nat}{u1 u2 u3 u4:Value}{bs:List Bc}{st:LSt}{aT:Option Addr}
def vR(op:Int)(one:Bool)(p:Nat)(r:Rs (LSt×Nat)):Rs (LSt×Nat):=match r with|.error f=>.error f|.ok (s,a)=>fN s (eK op (if one then 1 else eX s a) (a:Int) 0 0) p
theorem bC.qcb(h:Zp:=by
 have ah:E (∀I,Kept 0 0 ag I->Calls prog 104 #[hy P,(eK 13 (eX s a) (a:Int) 0 0).agg,hA S] I λe ab=>(∃x:Int,e=.returned (hA x))/\E (TrO W P J u1 u2 u3 u4 bs r e ab)):=λI aj=>yaj (lY (v.keep aj) w.g (eK 13 (eX s a) (a:Int) 0 0) (w.g.lenB ar) yah S) (λe ab t=>⟨t.ret,by
  show TrO W P J u1 u2 u3 u4 bs r e ab
  rw[HR.o]
  exact TrO.back HK.o (TrO.after (aI.keep aj) t)⟩)
 exact qfa):Zp:=h
theorem bC.qfb(h:Zp:=by
 go_upto_region 11 with fail;exact xcy):Zp:=h
open bC in
theorem EF{W}(h:WS W P J u1 u2 u3 u4 bs st)(S C)(cq:1<=al)(bO:bQ<W.heap.size)(aW:W.cell? ⟨bQ,0,none⟩=some (.slice (some ⟨q,o,none⟩) cf c0))(ay)(bg:RsG st ay)
  (HC:∀I,Kept 0 0 W I->Calls prog 101 #[hy P,.slice aT Q cL,.slice (some ⟨q,o,none⟩) cf c0] I (TrO I P J u1 u2 u3 u4 bs ay)):
  Calls prog 125 #[hy P,.slice aT Q cL,iR ⟨[101,120,112],S,C⟩,hz bQ al ce] W (TrO W P J u1 u2 u3 u4 bs (vR 13 false S ay)):=by
 have av:E _:=gW W [101,120,112] S C;have HK:E _:=ez 0 0 W (.cells #[eN [101,120,112],hA S,eN C] 119);have HF:E _:=h.far;have aZ:=(HK.o.cell (p:=⟨bQ,0,none⟩) bO xaa).trans aW;have i:E _:=HC;have be:E _:=bg;obtain⟨r,aD⟩:∃r,r=vR 13 false S ay:=⟨_,rfl⟩
 rw[<-aD];have HR:E _:=aD;clear aD h bg HC aW;unfold iR;simp only;go_enter func125,ntmps125;go_upto_region 2 with fail;change Code.wp _ _ _ _ (W.alloc (.cells #[eN [101,120,112],hA S,eN C] 119));generalize W.alloc (.cells #[eN [101,120,112],hA S,eN C] 119)=az at av HK aZ⊢;generalize W.heap.size=aJ at av HF⊢;have bZ:E _:=i.o az HK.o;have bE:=av.o.c0;clear i;rcases ay with⟨c,p⟩|⟨s,a⟩
 ·exact xdl
 exact qca
theorem bD.qcb(h:Zp:=by
 have ah:E (∀I,Kept 0 0 _ I->Calls _ _ _ _ λe ab=>(∃x:Int,e=.returned _)/\E (TrO W P J _ _ _ _ _ r e _)):=λI aj=>yaj (lY (v.keep aj) w.g (eK 9 1 _ 0 0) ⟨by show(1:Int)<=1;decide,by show(1:Int)<=1000;decide⟩ yah _) (λe ab t=>⟨t.ret,by
  show TrO W P J u1 u2 u3 u4 bs r e ab
  rw[HR.o]
  exact TrO.back HK.o (TrO.after (aI.keep aj) t)⟩)
 exact qfa):Zp:=h
theorem bD.qfb(h:Zp:=by
 go_upto_region 13 with fail
 go_region_with (first
  |(go_at_call 46;refine yaj (ij _ _ _ _ _ _) ?_;rintro e aF ⟨rfl,aR⟩;have f:=(y.o.keep ((eG _).trans aR)).c1)
  |(go_at_call 104;refine yaj (ah.o _ ((eG _).trans aR)) ?_;rintro e bc ⟨⟨x,rfl⟩,bd⟩))
 all_goals (go_wp2_with fail;go_ret;exact bd.o)):Zp:=h
open bD in
theorem EG{W}(h:WS W P J u1 u2 u3 u4 bs st)(S C)(cq:1<=al)(bO:bQ<W.heap.size)(aW:W.cell? ⟨bQ,0,none⟩=some (.slice (some ⟨q,o,none⟩) cf c0))(ay)(bg:RsG st ay)
  (HC:∀I,Kept 0 0 W I->Calls prog 101 #[hy P,.slice aT Q cL,.slice (some ⟨q,o,none⟩) cf c0] I (TrO I P J u1 u2 u3 u4 bs ay)):
  Calls prog 125 #[hy P,.slice aT Q cL,iR ⟨[115,117,109],S,C⟩,hz bQ al ce] W (TrO W P J u1 u2 u3 u4 bs (vR 9 true S ay)):=by
 have av:E _:=gW W [115,117,109] S C;have HK:E _:=ez 0 0 W (.cells #[eN [115,117,109],hA S,eN C] 119);have HF:E _:=h.far;have aZ:=(HK.o.cell bO xaa).trans aW;have i:E _:=HC;have be:E _:=bg;obtain⟨r,aD⟩:∃r,r=vR 9 true S ay:=⟨_,rfl⟩
 rw[<-aD];have HR:E _:=aD;clear aD h bg HC aW;unfold iR;simp only;go_enter func125,ntmps125;go_upto_region 2 with fail;change Code.wp _ _ _ _ (W.alloc (.cells _ 119));generalize W.alloc _=az at av HK aZ⊢;generalize W.heap.size=aJ at av HF⊢;have bZ:E _:=i.o _ HK.o;have bE:=av.o.c0;clear i;rcases ay with⟨c,p⟩|⟨s,a⟩
 ·exact xdl
 exact qca
def K7(r1 r2:Rs (LSt×Nat)):Rs (LSt×Nat):=match r1 with|.error f=>.error f|.ok _=>r2
theorem uu{f}(fo:f=[102,105,108,108]\/f=[112,105,99,107]\/f=[112,117,116]){W}(h:WS W P J u1 u2 u3 u4 bs st)(S C)(cq:1<=al)(bO:bQ<W.heap.size)(aW:W.cell? ⟨bQ,0,none⟩=some (.slice (some ⟨q,o,none⟩) cf c0))(ay a0)(bg:RsG st ay)
  (HC:∀I,Kept 0 0 W I->Calls prog 101 #[hy P,.slice aT Q cL,.slice (some ⟨q,o,none⟩) cf c0] I (TrO I P J u1 u2 u3 u4 bs ay))
  (bY:∀s a,ay=.ok (s,a)->∀I a5 a7 z G,WS I P J a5 a7 z G bs s->Mv (Mst P u1 u2 u3 u4) W (Mst P a5 a7 z G) I->Calls prog 133 #[hy P,iR ⟨f,S,C⟩,hA a,hz bQ al ce] I (TrO I P J a5 a7 z G bs a0)):
  Calls prog 125 #[hy P,.slice aT Q cL,iR ⟨f,S,C⟩,hz bQ al ce] W (TrO W P J u1 u2 u3 u4 bs (K7 ay a0)):=by
 have av:E _:=gW W f S C;have HK:E _:=ez 0 0 W (.cells #[eN f,hA S,eN C] 119);have HF:E _:=h.far;have aZ:=(HK.o.cell bO xaa).trans aW;have i:E _:=HC;have g:E _:=bY;have be:E _:=bg;obtain⟨r,aD⟩:∃r,r=K7 ay a0:=⟨_,rfl⟩
 rw[<-aD];have HR:E _:=aD;clear aD h bg HC aW bY;unfold iR at g⊢;simp only at g⊢;obtain⟨az,F⟩:∃az,E (W.alloc (.cells #[eN f,hA S,eN C] 119)=az):=⟨_,rfl⟩
 rw[F.o]at av HK aZ;rcases fo with rfl|rfl|rfl
 all_goals
  go_enter func125,ntmps125
  go_upto_region 2 with fail
  change Code.wp _ _ _ _ (W.alloc (.cells _ 119))
  rw[F.o]
  clear F
  generalize W.heap.size=aJ at av HF⊢
  have bZ:E _:=i.o _ HK.o
  have bE:=av.o.c0
  clear i
  rcases ay with⟨c,p⟩|⟨s,a⟩
  ·go_wp2_with (go_at_call 101;refine yaj bZ.o ?_;rintro e ag ⟨rfl,bd⟩)
   go_ret
   rw[HR.o]
   exact TrO.back HK.o ⟨rfl,bd⟩
  ·obtain⟨w,ar⟩:=be.o s a rfl
   have d5:¬((a:Int)<0):=xaa
   go_upto_region 7 with (go_at_call 101;refine yaj bZ.o ?_;rintro e ag ⟨rfl,a5,a7,z,G,v,aI⟩)
   have y:E _:=av.o.keepC aI.chg HF.o
   obtain⟨bJ,cv,a9,b3,b2⟩:=v.lenc ar
   have bP:=v.c1
   have HM:E _:=(Mv.of HK.o).trans aI
   have aq:E _:=g.o s a rfl _ _ _ _ _ v HM.o
   have aX:E _:=yaj aq.o (λe ab t=>(⟨TrO.ret t,by
    show TrO W P J u1 u2 u3 u4 bs r e ab
    rw[HR.o]
    exact TrO.after HM.o t⟩:(∃x:Int,e=.returned _)/\E (TrO W P J _ _ _ _ _ r e _)))
   subst a9
   have bS:=y.o.c0
   have aH:=y.o.c1
   have bf:=y.o.c2
   have bC:=w.g.n
   generalize eX s a=l at b2
   generalize s.vs.length=aV at*
   clear v aI bZ av HR be w bE aZ g aq HM
   go_wp2_with (go_at_call 133;refine yaj aX.o ?_;rintro e bc ⟨⟨x,rfl⟩,bd⟩)
   go_ret
   exact bd.o
theorem kO{W u g off m cap ts}(Y:TrIn W P J u1 u2 u3 u4 bs st aT Q u g off m cap ts){e}(aM:Pr 0 [e] ts)(F:((ts.getD 0 hG).sym==[45])=false)(h3:((ts.getD 0 hG).sym==[105,110,116])=false)(a6:((ts.getD 0 hG).sym==[100,101,99])=false)(bF:((ts.getD 0 hG).sym==[40])=false)(bp:((ts.getD 0 hG).sym==[110,97,109,101])=false)(N:4<=m)(us)(aB:us=(ts.drop 2).take (m-1-2))(bL:(spQ us (m-3)).cur≠[])(r)
  (HC:∀I bf bB,Kept 0 0 W I->SgR I g W.heap.size bf (fQ us)->Calls prog 125 #[hy P,.slice aT Q cL,iR (ts.getD 0 hG),.slice bf (fQ us).length bB] I (TrO I P J u1 u2 u3 u4 bs r)):
  Calls prog 101 #[hy P,.slice aT Q cL,.slice (some ⟨g,off,none⟩) m cap] W (TrO W P J u1 u2 u3 u4 bs r):=by
 have K:E _:=fE W g _ m cap _ Y.tk Y.m5 [43] [45];have ae:E _:=fE W g _ m cap _ Y.tk Y.m5 [42] [47];rw[mi aM]at K ae;have c0:=Y.tk.c0 0 xaa;have c1:=Y.tk.c1 0 xaa;have c2:=Y.tk.c2 0 xaa;have cp:=Y.m5;have S:=Y.mc
 have f:E (∀I,Kept 0 0 W I->_):=λI aj=>Cw _ g (off+6) _ (cap-2) _ (by
  have t:=(Y.tk.keep aj).in_ 2 _ _ aB xaa
  rw[show m-1-2=m-3 by omega]at t
  exact t) xaa xaa xaa bL
 have i:E _:=HC;generalize ts.getD 0 _=t at*;clear Y aM HC bL aB;obtain⟨aO,ps,bv⟩:=t;simp only at F h3 a6 bF bp;simp only[Nat.zero_mul,Nat.add_zero]at c0 c1 c2;go_enter func101,ntmps101;go_upto_region 3 with (go_at_call 119;refine yaj K.o ?_;rintro e ag ⟨rfl,X⟩;obtain rfl:=X.symm);go_upto_region 15 with (go_at_call 119;refine yaj ae.o ?_;rintro e ag ⟨rfl,X⟩;obtain rfl:=X.symm);go_upto_region 16 with fail;change Code.wp _ _ _ _ (W.alloc (.cells #[eN _,.int _ ps,eN _] 119));have av:E _:=gW W aO ps bv;have HK:E _:=ez 0 0 W (.cells #[eN aO,hA ps,eN bv] 119);generalize W.alloc _=az at av HK⊢;have b2:E _:=HK.o.size;generalize bq:W.heap.size=aJ at av⊢;have ar:E _:=bq;clear bq;obtain⟨bE,R,aS⟩:az.cell? _=some _/\az.cell? _=some _/\az.cell? _=some _:=⟨av.o.c0,av.o.c1,av.o.c2⟩
 have au:E _:=f.o _ HK.o;clear c0 c1 c2 K ae f;generalize (fQ _).length=j at au i⊢;go_upto_region 29 with (go_at_call 123;refine yaj au.o ?_;rintro e ag ⟨bf,bB,rfl,h,ak⟩);have y:E _:=av.o.keep ak
 have O:E (SgR _ g _ _ _):=⟨λcj=>by
  obtain⟨bQ,aC,aL,b1⟩:=h.at_ cj
  exact⟨_,aC,yao b2.o aL,b1⟩⟩
 have bZ:E _:=yaj (i.o _ _ bB (HK.o.trans ak) O.o) (λe ab t=>(⟨TrO.ret t,TrO.back (HK.o.trans ak) t⟩:(∃x:Int,e=.returned _)/\E (TrO W P J _ _ _ _ _ r e _)));unfold iR at bZ;simp only at bZ;clear bE R aS av h i au O;have bE:=y.o.c0;have R:=y.o.c1;have aS:=y.o.c2;clear y ak;go_wp2_with (go_at_call 125;refine yaj bZ.o ?_;rintro e bc ⟨⟨x,rfl⟩,bd⟩);go_ret;exact bd.o
end
section
variable{f:Nat}{u:Loc}{st:LSt}{k n:Tok}{a:Ex}{r:Rs (LSt×Nat)}
theorem Bw(h:eM (f+1) st u (.key1 k a)=some r):∃ay,eM f st u a=some ay/\r=(if k.sym=yX then vR 13 false k.pos ay else vR 9 true k.pos ay):=by
 rw[eM]at h;cases F:eM f st u a with
 |none=>rw[F]at h;cases h
 |some ay=>
  rw[F]at h;rcases ay with⟨c,p⟩|⟨ax,x⟩
  ·cases h;refine⟨_,rfl,?_⟩;split<;>rfl
  cases h;exact⟨_,rfl,rfl⟩
theorem Ij{ts}(h:cm 0 ts=some 0)(n)(ad:ts.length<=n):(spQ ts n).cur=ts:=by
 simp_all[spQ,List.take_of_length_le,qo]
section
variable{f:Nat}{W:World}{P J:Nat}{u1 u2 u3 u4:Value}{bs:List Bc}{st:LSt}{aT:Option Addr}{Q cL:Nat}{u:Loc}{g off m cap:Nat}{ts:List Tok}{a:Ex}{r:Rs (LSt×Nat)}
theorem EH{k l q}(al:TrC f)(Y:TrIn W P J u1 u2 u3 u4 bs st aT Q u g off m cap (k::l::(ts++[q])))(O:k.sym=yX\/k.sym=Gi)(af:l.sym=[40])(ar:Pr 2 [a] ts)(ap:q.sym=[41])(h:eM (f+1) st u (.key1 k a)=some r):
  Calls prog 101 #[hy P,.slice aT Q cL,.slice (some ⟨g,off,none⟩) m cap] W (TrO W P J u1 u2 u3 u4 bs r):=by
 obtain⟨ay,ae,rfl⟩:=Bw h;have am:=Y.tk.len;simp only[yaq,yal,List.length_nil]at am;have aM:=iS ar;have R:=jw ar yad;have bu:=Y.mc;have bL:ts≠[]:=λc=>by grind
 have b5:=je ar (λt ht=>Y.ti t (by simp[ht])) a xac;have aB:ts=((k::l::(ts++[q])).drop 2).take (m-1-2):=by grind
 have aX:∀x:List _,x≠yX->x≠Gi->(k.sym==x)=false:=λx F N=>by
  grind
 refine kO Y (Pr.key1 O af ar ap) (aX _ xab xab) (aX _ xab xab) (aX _ xab xab) (aX _ xab xab) (aX _ xab xab) xaa _ aB (by rw[Ij R _ xaa];exact bL) _ (λI bf bB aj aW=>?_);rw[Nu bL R]at aW⊢;obtain⟨bQ,rfl,_,bO,aS⟩:=aW.at_ xac;obtain⟨o,c,c1,c2,c3⟩:=aS 0 xac
 have HC:∀ab,Kept 0 0 _ ab->_:=λab ak=>
  al _ P J _ _ _ _ _ _ _ _ cL _ g o ts.length c ts ⟨Y.ws.keep (aj.trans ak),Y.gd,Y.nm,Y.lc.keep (aj.trans ak),Y.ln,Y.lo,c2.keep ak,Y.tg,hJ Y.m5,c3,λt ht=>Y.ti t (by simp[ht]),λt ht=>Y.tn t (by simp[ht])⟩ 2 a ar yad _ ae
 have bg:=gn f _ _ a Y.gd Y.nm Y.lo b5 _ ae;obtain⟨aa,S,C⟩:=k;rcases O with O|O
 ·simp only at O;subst O;rw[hD rfl];exact EF (Y.ws.keep aj) _ _ xac bO c1 _ bg HC
 simp only at O;subst O;rw[hC (show ¬(Gi=yX) by decide)];exact EG (Y.ws.keep aj) _ _ xac bO c1 _ bg HC
end
theorem WS.far2{W P J u1 u2 u3 u4 bs}(h:WS W P J u1 u2 u3 u4 bs st){b}(hb:W.heap.size<=b):¬Mst P u1 u2 u3 u4 b:=by
 exact xfe
def Ik(k n:Tok)(r1:Rs (LSt×Nat)):Rs (LSt×Nat):=match r1 with|.error f=>.error f|.ok (s,a)=>lV s k a n
theorem Bx(h:eM (f+1) st u (.keyN k a n)=some r):∃ay,eM f st u a=some ay/\r=K7 ay (Ik k n ay):=by
 exact xcq
theorem oY{us X y}(al:us≠[])(h:fQ us=X++[y])(n)(ad:us.length<=n):(spQ us n).cur=y:=by
 simp_all[fQ,spQ,List.take_of_length_le]
section
variable{f:Nat}{W:World}{P J:Nat}{u1 u2 u3 u4:Value}{bs:List Bc}{st:LSt}{aT:Option Addr}{Q cL:Nat}{u:Loc}{g off m cap:Nat}{ts:List Tok}{a:Ex}{r:Rs (LSt×Nat)}
theorem aL.qbo(h:Zp:=by
 have bY:∀s x,ay=.ok (s,x)->∀ab a5 a7 z G,WS ab P J a5 a7 z G bs s->Mv (Mst P u1 u2 u3 u4) I (Mst P a5 a7 z G) ab->Calls prog 133 #[hy P,iR k,hA x,hz bQ 2 bB] ab (TrO ab P J a5 a7 z G bs (Ik k n ay)):=λs x e ab a5 a7 z G X bx=>by
  obtain⟨w,an⟩:=bg s x e
  subst e
  exact Hn X w.g k O x an n bl yad ⟨yak bO bx.chg.size,(bx.chg.cell (p:=⟨bQ,1,none⟩) bO v).trans ai,p.keepC bx.chg Y.tg⟩
 obtain⟨aa,S,C⟩:=k;rcases O with O|O
 ·simp only at O;subst O;exact uu (.inl rfl) (Y.ws.keep aj) S C xac bO c1 ay _ bg HC bY
 simp only at O;subst O;exact uu (.inr (.inl rfl)) (Y.ws.keep aj) S C xac bO c1 ay _ bg HC bY):Zp:=h
theorem aL.qdx(h:Zp:=by
 exact qbn):Zp:=h
theorem aL.qfp(h:Zp:=by
 have bl:=Y.ti n xac ad;exact qgn):Zp:=h
theorem aL.qgo(h:Zp:=by
 have aX:∀x:List UInt8,x≠vh->x≠ql->(k.sym==x)=false:=λx F N=>by
  rw[beq_eq_false_iff_ne]
  rintro rfl
  exact O.elim F N
 refine kO Y (Pr.keyN O af ar ah ad ap) (aX _ xab xab) (aX _ xab xab) (aX _ xab xab) (aX _ xab xab) (aX _ xab xab) xaa (ts++c::[n]) aB (by rw[oY (X:=[ts]) (y:=[n]) xac y _ yag];simp) _ (λI bf bB aj aW=>?_);exact qdw):Zp:=h
open aL in
theorem EI{k l c n q}(al:TrC f)(Y:TrIn W P J u1 u2 u3 u4 bs st aT Q u g off m cap (k::l::(ts++[c,n,q])))(O:k.sym=vh\/k.sym=ql)(af:l.sym=[40])(ar:Pr 2 [a] ts)(ah:c.sym=[44])(ad:n.sym=iK)(ap:q.sym=[41])(h:eM (f+1) st u (.keyN k a n)=some r):
  Calls prog 101 #[hy P,.slice aT Q cL,.slice (some ⟨g,off,none⟩) m cap] W (TrO W P J u1 u2 u3 u4 bs r):=by
 obtain⟨ay,ae,rfl⟩:=Bx h;exact qfo
end
def CH(k i n:Tok)(r1:Rs (LSt×Nat)):Rs (LSt×Nat):=match r1 with|.error f=>.error f|.ok (s,a)=>lW s k a i n
theorem EJ{i}(h:eM (f+1) st u (.put k a i n)=some r):∃ay,eM f st u a=some ay/\r=K7 ay (CH k i n ay):=by
 exact xcq
section
variable{f:Nat}{W:World}{P J:Nat}{u1 u2 u3 u4:Value}{bs:List Bc}{st:LSt}{aT:Option Addr}{Q cL:Nat}{u:Loc}{g off m cap:Nat}{ts:List Tok}{a:Ex}{r:Rs (LSt×Nat)}
theorem aM.qbo(h:Zp:=by
 have bY:∀s x,ay=.ok (s,x)->∀ab a5 a7 z G,WS ab P J a5 a7 z G bs s->Mv (Mst P u1 u2 u3 u4) I (Mst P a5 a7 z G) ab->Calls prog 133 #[hy P,iR k,hA x,hz bQ 3 bB] ab (TrO ab P J a5 a7 z G bs (CH k i n ay)):=λs x e ab a5 a7 z G X bx=>by
  obtain⟨w,an⟩:=bg s x e
  subst e
  exact H9 X w.g k O x an i B yad ⟨yak bO bx.chg.size,(bx.chg.cell (p:=⟨bQ,1,none⟩) bO v).trans ai,p.keepC bx.chg Y.tg⟩ n bl ⟨yak bO bx.chg.size,(bx.chg.cell (p:=⟨bQ,2,none⟩) bO v).trans N,H.keepC bx.chg Y.tg⟩
 obtain⟨aa,S,C⟩:=k;simp only at O;subst O;exact uu (.inr (.inr rfl)) (Y.ws.keep aj) S C xac bO c1 ay _ bg HC bY):Zp:=h
theorem aM.qdx(h:Zp:=by
 obtain⟨bT,j,N,H,Z⟩:=aS 2 xac;exact qbn):Zp:=h
theorem aM.qfp(h:Zp:=by
 have bl:=Y.ti n xac ad;have B:=Y.ti i xac hi;have av:=tD (by rw[hi];decide) (by rw[hi];decide) (by rw[hi];decide);have d0:=tD (by rw[ad];decide) (by rw[ad];decide) (by rw[ad];decide);have y:=A3 R ah av aK d0
 have aB:ts++c::([i]++d::[n])=((k::l::(ts++[c,i,d,n,q])).drop 2).take (m-1-2):=by
  rw[List.drop_succ_cons,List.drop_succ_cons,List.drop_zero,show ts++[c,i,d,n,q]=(ts++c::([i]++d::[n]))++[q] by simp,List.take_append_of_le_length yag,yap yag]
 have aX:∀x:List UInt8,x≠Dz->(k.sym==x)=false:=λx F=>by
  rw[beq_eq_false_iff_ne]
  rintro rfl
  exact F O
 refine kO Y (Pr.put O af ar ah hi aK ad ap) (aX _ xab) (aX _ xab) (aX _ xab) (aX _ xab) (aX _ xab) xaa (ts++c::([i]++d::[n])) aB (by rw[oY (X:=[ts,[i]]) (y:=[n]) xac y _ yag];simp) _ (λI bf bB aj aW=>?_);exact qdw):Zp:=h
open aM in
theorem Il{k l c i d n q}(al:TrC f)(Y:TrIn W P J u1 u2 u3 u4 bs st aT Q u g off m cap (k::l::(ts++[c,i,d,n,q])))(O:k.sym=Dz)(af:l.sym=[40])(ar:Pr 2 [a] ts)(ah:c.sym=[44])(hi:i.sym=iK)(aK:d.sym=[44])(ad:n.sym=iK)(ap:q.sym=[41])(h:eM (f+1) st u (.put k a i n)=some r):
  Calls prog 101 #[hy P,.slice aT Q cL,.slice (some ⟨g,off,none⟩) m cap] W (TrO W P J u1 u2 u3 u4 bs r):=by
 obtain⟨ay,ae,rfl⟩:=EJ h;exact qfo
end
end
section
attribute[local go_sem] eF eE eD
variable{P J Q cL g off m cap:Nat}{u1 u2 u3 u4:Value}{bs:List Bc}{st:LSt}{aT:Option Addr}{u:Loc}{ts:List Tok}
theorem TrIn.seg{W}(h:TrIn W P J u1 u2 u3 u4 bs st aT Q u g off m cap ts){I a5 a7 z G R}(X:WS I P J a5 a7 z G bs R)(w:Gw st R)(k:Mv (Mst P u1 u2 u3 u4) W (Mst P a5 a7 z G) I){o n c us}(C:TkA I g o n us)(ad:n<=m)(ah:n<=c)(aB:∀t∈us,t∈ts):TrIn I P J a5 a7 z G bs R aT Q u g o n c us where
 ws:=X
 gd:=w.g
 nm:=h.nm.gw w
 lc:=h.lc.mv k
 ln:=h.ln
 lo:=h.lo.le w.n
 tk:=C
 tg:=λc=>(k.new g c).elim h.tg (λc=>hJ h.tk.lt)
 m5:=hJ h.m5
 mc:=ah
 ti:=λt ht=>h.ti t (aB t ht)
 tn:=λt ht=>h.tn t (aB t ht)
theorem i.qaf(h:Zp:=by
 change Code.wp _ _ _ _ (W.alloc (.cells #[eN [105,110,116],hA ps,eN bv] 119));have av:E _:=gW W [105,110,116] ps bv;have HK:E _:=ez 0 0 W (.cells #[eN [105,110,116],hA ps,eN bv] 119);generalize W.alloc (.cells #[eN [105,110,116],hA ps,eN bv] 119)=az at av HK⊢;exact xav):Zp:=h
open i in
theorem EK{W}(Y:TrIn W P J u1 u2 u3 u4 bs st aT Q u g off m cap ts){e}(aM:Pr 0 [e] ts)(al:(ts.getD 0 hG).sym=[105,110,116])(N:1<=m)(bC:ki (ts.getD 0 hG).text):
  Calls prog 101 #[hy P,.slice aT Q cL,.slice (some ⟨g,off,none⟩) m cap] W (TrO W P J u1 u2 u3 u4 bs (fN st ⟨1,1,0,0,0,oB (ts.getD 0 hG).text⟩ (ts.getD 0 hG).pos)):=by
 exact qae
theorem j.qaf(h:Zp:=by
 change Code.wp _ _ _ _ (W.alloc (.cells #[eN [100,101,99],hA ps,eN bv] 119));have av:E _:=gW W [100,101,99] ps bv;have HK:E _:=ez 0 0 W (.cells #[eN [100,101,99],hA ps,eN bv] 119);generalize W.alloc (.cells #[eN [100,101,99],hA ps,eN bv] 119)=az at av HK⊢;exact xav):Zp:=h
open j in
theorem EL{W}(Y:TrIn W P J u1 u2 u3 u4 bs st aT Q u g off m cap ts){e}(aM:Pr 0 [e] ts)(al:(ts.getD 0 hG).sym=[100,101,99])(N:1<=m)(bC:ki (ts.getD 0 hG).text):
  Calls prog 101 #[hy P,.slice aT Q cL,.slice (some ⟨g,off,none⟩) m cap] W (TrO W P J u1 u2 u3 u4 bs (fN st ⟨1,1,0,0,0,oB (ts.getD 0 hG).text⟩ (ts.getD 0 hG).pos)):=by
 exact qae
section
variable{f:Nat}{W:World}{P J:Nat}{u1 u2 u3 u4:Value}{bs:List Bc}{st:LSt}{aT:Option Addr}{Q cL:Nat}{u:Loc}{g off m cap:Nat}{t:Tok}{r:Rs (LSt×Nat)}
theorem Im(Y:TrIn W P J u1 u2 u3 u4 bs st aT Q u g off m cap [t])(ht:t.sym=iK\/t.sym=lk)(h:eM (f+1) st u (.num t)=some r):
  Calls prog 101 #[hy P,.slice aT Q cL,.slice (some ⟨g,off,none⟩) m cap] W (TrO W P J u1 u2 u3 u4 bs r):=by
 rw[eM]at h;have e:=hE h;have bC:=Y.tn t xac ht;have am:=Y.tk.len;have b9:[t].getD 0 hG=t:=rfl;have F:1<=m:=by grind
 rcases ht with ht|ht
 ·have k:=EK (cL:=cL) Y (Pr.num (.inl ht)) (hL b9 ht) F (by grind);rw[b9,e]at k;exact k
 have k:=EL (cL:=cL) Y (Pr.num (.inr ht)) (hL b9 ht) F (by grind);rw[b9,e]at k;exact k
end
end
section
variable{f P J Q g bQ:Nat}{u1 u2 u3 u4:Value}{st s:LSt}{r:Rs (LSt×Nat)}{u:Loc}{bs:List Bc}{aT:Option Addr}{es:List Ex}
theorem mw(ao):∀(es:List Ex) (st:LSt) (H:Rs (LSt×List Nat)),fY ao st es=some H->∀k,k<es.length->∀s xs,fY ao st (es.take k)=some (.ok (s,xs))->∃r,ao s (es.getD k (.num hG))=some r/\(∀f,r=.error f->H=.error f)/\(∀aU a,r=.ok (aU,a)->fY ao st (es.take (k+1))=some (.ok (aU,xs++[a])))
 |[],_,_,_,k,O,_,_,_=>by simp at O
 |e::es,st,H,h,0,_,s,xs,au=>by
  rw[List.take_zero,fY]at au
  grind[fY]
 |e::es,st,H,h,k+1,O,s,xs,au=>by
  rw[List.take_succ_cons,fY]at au
  rw[fY]at h
  cases F:ao st e with
  |none=>grind
  |some br=>
   rw[F]at h au
   rcases br with f|⟨ax,a⟩
   ·cases au
   ·simp only at h au
    cases N:fY ao ax es with
    |none=>grind
    |some R'=>
     cases h3:fY ao ax (es.take k) with
     |none=>grind
     |some R3=>
      rw[h3]at au
      rcases R3 with f|⟨bx,bJ⟩
      ·cases au
      ·cases au
       obtain⟨r,aw,ak,aR⟩:=mw _ _ _ _ N k (by grind) s _ h3
       refine⟨r,aw,λf ae=>?_,λaU b ae=>?_⟩
       ·simp_all
       ·simp_all[fY]
structure ArgS(f:Nat)(W:World)(P B:Nat)(u1 u2 u3 u4:Value)(bs:List Bc)(st:LSt)(aL:Option Addr)(nL cL:Nat)(loc:Loc)(g gr:Nat)(es:List Ex):Prop where
 lt:gr<W.heap.size
 nM:¬Mst P u1 u2 u3 u4 gr
 call:∀i,i<es.length->∃o n c,W.cell? ⟨gr,i,none⟩=some (.slice (some ⟨g,o,none⟩) n c)/\∀s r W' z1 z2 z3 z4,Gw st s->eM f s loc (es.getD i (.num hG))=some r->WS W' P B z1 z2 z3 z4 bs s->Mv (Mst P u1 u2 u3 u4) W (Mst P z1 z2 z3 z4) W'->RsG s r/\Calls prog 101 #[.pointer (some ⟨P,0,none⟩),.slice aL nL cL,.slice (some ⟨g,o,none⟩) n c] W' (TrO W' P B z1 z2 z3 z4 bs r)
theorem ArgS.cell{W cL}(h:ArgS f W P J u1 u2 u3 u4 bs st aT Q cL u g bQ es){I}(c:Chg (Mst P u1 u2 u3 u4) W I)(i):I.cell? ⟨bQ,i,none⟩=W.cell? ⟨bQ,i,none⟩:=c.cell (p:=⟨bQ,i,none⟩) h.lt h.nM
theorem ArgS.of(al:TrC f){W0 W}(cL){off m cap ts}(Y:TrIn W0 P J u1 u2 u3 u4 bs st aT Q u g off m cap ts)(aj:Kept 0 0 W0 W){h:List (List Tok)}(aq:W0.heap.size<=bQ)(bO:bQ<W.heap.size)(aW:∀i,i<h.length->∃o c,W.cell? ⟨bQ,i,none⟩=some (.slice (some ⟨g,o,none⟩) (h.getD i []).length c)/\TkA W g o (h.getD i []).length (h.getD i [])/\(h.getD i []).length<=c)(af:h.length=es.length)(hP:∀i,i<es.length->Pr 2 [es.getD i (.num hG)] (h.getD i []))(ad:∀i,i<h.length->(h.getD i []).length<=m)(aB:∀i,i<h.length->∀t∈h.getD i [],t∈ts):ArgS f W P J u1 u2 u3 u4 bs st aT Q cL u g bQ es where
 lt:=bO
 nM:=Y.ws.far2 aq
 call:=λi hi=>by
  obtain⟨o,c,c1,c2,c3⟩:=aW i xaa
  refine⟨o,_,c,c1,λs r I aQ a8 bi bk w e X bx=>?_⟩
  have j:=hP i hi
  have l:=aB i xaa
  exact⟨gn f s _ _ w.g (Y.nm.gw w) (Y.lo.le w.n) (je j (λt ht=>Y.ti t (l t ht)) _ xac) r e,al _ P J _ _ _ _ _ s _ _ _ _ g o _ c _ (Y.seg X w ((Mv.of aj).trans bx) (c2.keepC bx.chg Y.tg) (ad i xaa) c3 l) 2 _ j yad r e⟩
theorem FtI.lit{W aB a5 a7 z G}(ai:WS aB P J a5 a7 z G bs s)(bx:Mv (Mst P u1 u2 u3 u4) W (Mst P a5 a7 z G) aB)(a:Nat):FtI W (aB.alloc (.cells #[hA a] 3)) P J u1 u2 u3 u4 bs s (hz aB.heap.size 1 1) [a]:=by
 have bh:=ez 0 0 aB (.cells #[hA a] 3);have au:=bx.chg.size;have bU:∀b,(hz aB.heap.size 1 1).ownBlock=some b->b=aB.heap.size:=λb hb=>by simp[Value.ownBlock]at hb;omega
 refine⟨⟨_,_,_,_,ai.keep bh,⟨(bx.keep bh).chg,λb hb=>?_⟩,λb hb c=>?_⟩,⟨rfl,.inr ⟨_,1,#[.int _ a],rfl,au,?_,yad,by unfold maxLen;omega,rfl,rfl⟩⟩⟩
 ·rcases hb with c|c
  ·exact bx.new b c
  grind
 ·rw[bU b hb]at c;exact ai.far c
 simp[World.alloc,-World.alloc_eq]
theorem FtI.xs{W I o aY}(h:FtI W I P J u1 u2 u3 u4 bs s o aY):∃a c a5 a7 z G,o=.slice a aY.length c/\WS I P J a5 a7 z G bs s/\Mv (Mst P u1 u2 u3 u4) W (Mst P a5 a7 z G) I/\XsR (Mst P a5 a7 z G) I a aY.length aY:=by
 obtain⟨a5,a7,z,G,aL,am,bG⟩:=h.ex;obtain⟨b1,cl,ho⟩:=ja h.row;refine⟨_,_,_,_,_,_,ho,aL,⟨am.chg,λb hb=>am.new b (.inl hb)⟩,⟨rfl,λab=>?_⟩⟩;have X:=h.row;rcases X.2 with⟨_,c⟩|⟨g,c,av,e,R,aS,aa,_,b7,ba⟩
 ·omega
 rw[ho]at e;cases e;have aJ:g<I.heap.size:=by grind
 refine⟨g,0,rfl,bG g (by rw[ho];simp[Value.ownBlock]),aJ,λk O=>?_⟩;rw[Nat.zero_add,cell_of_row _ g _ _ _ _ aS,<-Array.getElem?_toList];have:(av.toList.take (aY.length*1))[k]? =(aY.map λj:Nat=>Value.int .i64 j)[k]?:=by rw[ba]
 grind
def mx(ks:List UInt8)(k:Tok)(s:LSt)(xs:List Nat):Rs (LSt×Nat):=
 match jJ s xs k.pos with
 |.error f=>.error f
 |.ok (s2,f)=>
  if ks=yY then fN s2 (eK 8 (eX s2 (f.getD 0 0)) (f.getD 0 0:Nat) (f.getD 1 0:Nat) (f.getD 2 0:Nat)) k.pos
  else if ks=AY then fN s2 (eK 7 (eX s2 (f.getD 0 0)) (f.getD 0 0:Nat) (f.getD 1 0:Nat) 0) k.pos
  else match fN s2 (eK 4 (eX s2 (f.getD 0 0)) (f.getD 0 0:Nat) (f.getD 1 0:Nat) 0) k.pos with
   |.error f=>.error f
   |.ok (s3,p)=>fN s3 (eK 9 1 (p:Int) 0 0) k.pos
def rR(ks:List UInt8)(k:Tok)(R:Rs (LSt×List Nat)):Rs (LSt×Nat):=match R with
 |.error f=>.error f
 |.ok (s,xs)=>mx ks k s xs
theorem EM{k a b}(O:k.sym≠yY)(h:eM (f+1) st u (.key2 k a b)=some r):∃H,fY (λs e=>eM f s u e) st [a,b]=some H/\r=rR k.sym k H:=by
 rw[eM]at h;simp only[fY];cases F:eM f st u a with
 |none=>rw[F]at h;cases h
 |some ay=>
  rw[F]at h;rcases ay with f1|⟨ax,x⟩
  ·cases h;exact⟨_,rfl,rfl⟩
  simp only[jp]at h⊢;cases N:eM f ax u b with
  |none=>grind
  |some a0=>
   rw[N]at h;rcases a0 with f2|⟨aU,y⟩
   ·cases h;exact⟨_,rfl,rfl⟩
   cases h;refine⟨_,rfl,?_⟩;show qE aU k x y=mx k.sym k aU [x,y];grind[qE,mx]
theorem EN{k a b c}(O:k.sym=yY)(h:eM (f+1) st u (.key3 k a b c)=some r):∃H,fY (λs e=>eM f s u e) st [a,b,c]=some H/\r=rR k.sym k H:=by
 rw[eM]at h;simp only[fY];cases F:eM f st u a with
 |none=>rw[F]at h;cases h
 |some ay=>
  rw[F]at h;rcases ay with f1|⟨ax,x⟩
  ·cases h;exact⟨_,rfl,rfl⟩
  simp only[jp]at h⊢;cases N:eM f ax u b with
  |none=>grind
  |some a0=>
   rw[N]at h;rcases a0 with f2|⟨aU,y⟩
   ·cases h;exact⟨_,rfl,rfl⟩
   simp only at h⊢;cases h3:eM f aU u c with
   |none=>grind
   |some ch=>
    rw[h3]at h;rcases ch with f3|⟨bx,z⟩
    ·cases h;exact⟨_,rfl,rfl⟩
    cases h;refine⟨_,rfl,?_⟩;show xQ bx k x y z=mx k.sym k bx [x,y,z];grind[xQ,mx]
end
section
attribute[local go_sem] eF eE eD
variable{f P J Q cL g bQ ce:Nat}{u1 u2 u3 u4:Value}{bs:List Bc}{aT:Option Addr}{es:List Ex}
theorem T.qay(h:Zp:=by
 generalize N:ax.vs.length=aV at b2 bu ar bC;clear N;go_upto_region 34 with fail;clear b2 bu bS cj;go_wp2_with fail;go_loopw [18,19] (λcW cp I=>∃(k:Nat) (s:LSt) (xs:List Nat),1<=k/\k<=2/\cp=hA k/\xs.length=k/\E (fY (λs e=>eM f s u e) st (es.take k)=some (.ok (s,xs)))/\E (FtI az I P J u1 u2 u3 u4 bs s cW xs)/\E (Gw st s)/\E (∀i∈xs,i<s.vs.length)) (λ_ cp _=>2-(intOf cp).toNat)
 case atStart=>exact⟨1,ax,[a],yad,by decide,rfl,rfl,cd,b7,aW,cH⟩
 case round=>
  obtain⟨k,s,xs,ca,bK,rfl,(ay:E _),aI,bh,v,O⟩:=hrel;clear cd b7 aW cH;by_cases aG:k<2
  ·exact xaj
  obtain rfl:k=2:=xaa;exact qgh):Zp:=h
theorem T.qdn(h:Zp:=by
 exact qgs):Zp:=h
theorem T.qdr(h:Zp:=by
 rcases br with⟨c,p⟩|⟨ax,a⟩
 ·exact xck
 exact qax):Zp:=h
theorem T.qff(h:Zp:=by
 obtain⟨b0,a1,U,a3,a4,bN⟩:=bA.o bc (Kept.refl 0 0 bc);exact qgf):Zp:=h
theorem T.qfn(h:Zp:=by
 rcases q with⟨c,p⟩|⟨bx,aa⟩
 ·exact xcc
 obtain⟨ao,aB,nn,aO⟩:=ct.o bx aa rfl;rw[ay.o]at aB
 obtain⟨j,n,rfl⟩:∃j n,aa=[j,n]:=by
  match aa,aB with
  |[a,b],_=>exact⟨a,b,rfl⟩
 have al:=(aO j xac).1
 have X:E (r=fN bx (eK 7 (eX bx j) (j:Nat) (n:Nat) 0) S):=by
  show _=_;rw[bI.o];unfold mx;rw[<-bY.o];rfl
 exact qdm):Zp:=h
theorem T.qfu(h:Zp:=by
 change Code.wp _ _ _ _ (W.alloc (.cells #[eN [109,97,120],hA S,eN C] 119));generalize W.alloc (.cells #[eN [109,97,120],hA S,eN C] 119)=az at av HK⊢;exact qdq):Zp:=h
theorem T.qgg(h:Zp:=by
 have ah:E (∀I,Kept 0 0 bc I->Calls prog 104 #[hy P,(eK 7 (eX bx j) (j:Nat) (n:Nat) 0).agg,hA S] I λe ab=>(∃x:Int,e=.returned (hA x))/\E (TrO W P J u1 u2 u3 u4 bs r e ab)/\ab.cell? ⟨aJ,1,none⟩=some (hA S)/\ab.cell? ⟨au,of,none⟩=some (hA (j:Nat))/\ab.cell? ⟨au,of+1,none⟩=some (hA (n:Nat))):=λI aj=>yaj (lY (dg.o.keep aj) c6.o (eK 7 (eX bx j) (j:Nat) (n:Nat) 0) d0 yah S) (λe ab t=>⟨t.ret,by
  show TrO W P J u1 u2 u3 u4 bs r e ab
  rw[X.o]
  exact TrO.after (cy.o.keep aj) t,df.o I ab aj t.chg⟩)
 clear X cy df c6 dg d0 ao bO d1 HK bq HF b0 a1 U a3 a4 bN;generalize eX bx j=l at bA ah cF⊢;generalize bx.vs.length=aV at*;generalize bc.drewN nq=bp at Y cF⊢;obtain⟨b0,a1,U,a3,a4,bN⟩:=cF.o;go_upto_region 49 with fail
 go_region_held3 (λB=>B.cell? ⟨aJ,1,none⟩=some (hA S)/\B.cell? ⟨au,of,none⟩=some (hA (j:Nat))/\B.cell? ⟨au,of+1,none⟩=some (hA (n:Nat))) (go_keep)
  (first
   |(go_at_call 46;refine yaj (ij _ _ _ _ _ _) ?_;rintro e cl ⟨rfl,bU⟩;obtain⟨bn,aX,bb,co,cg,ag⟩:=bA.o cl (Y.o.trans ((eG bp).trans bU)))
   |(go_at_call 104;refine yaj (ah.o _ (Y.o.trans ((eG bp).trans bU))) ?_;rintro e ci ⟨⟨cX,rfl⟩,bd,aq,bz,cD⟩))
 all_goals (go_wp2_with fail;go_ret;exact bd.o)):Zp:=h
theorem T.qgi(h:Zp:=by
 have bI:E (r=mx [109,97,120] ⟨[109,97,120],S,C⟩ s xs):=by show _=_;rw[HR.o,cu.o];rfl
 exact qgu):Zp:=h
theorem T.qgq(h:Zp:=by
 obtain⟨r,aD⟩:∃r,r=rR [109,97,120] ⟨[109,97,120],S,C⟩ H:=⟨_,rfl⟩
 exact qft):Zp:=h
theorem T.qgt(h:Zp:=by
 have bA:E (∀I,Kept 0 0 bc I->I.cell? ⟨aJ,0,none⟩=some (eN [109,97,120])/\I.cell? ⟨aJ,1,none⟩=some (hA S)/\I.cell? ⟨P,1,none⟩=some (hz bJ bx.vs.length cv)/\I.cell? ⟨bJ,j*6+1,none⟩=some (hA (eX bx j))/\I.cell? ⟨au,of,none⟩=some (hA (j:Nat))/\I.cell? ⟨au,of+1,none⟩=some (hA (n:Nat))):=λI aj=>⟨(bO.o.keep aj).c0,(bO.o.keep aj).c1,(a6.keep aj).c1,(aj.cell (p:=⟨bJ,j*6+1,none⟩) b3 xaa).trans b2,(aj.cell (p:=⟨au,of,none⟩) ak xaa).trans (bH 0 xac),(aj.cell (p:=⟨au,of+1,none⟩) ak xaa).trans (bH 1 xac)⟩
 exact qfe):Zp:=h
open T in
theorem EO{W st u}(h:WS W P J u1 u2 u3 u4 bs st)(an:Gd st)(S C)(cx:es.length=2)(bl:ArgS f W P J u1 u2 u3 u4 bs st aT Q cL u g bQ es)(H)(K:fY (λs e=>eM f s u e) st es=some H):
  Calls prog 125 #[hy P,.slice aT Q cL,iR ⟨[109,97,120],S,C⟩,hz bQ 2 ce] W (TrO W P J u1 u2 u3 u4 bs (rR [109,97,120] ⟨[109,97,120],S,C⟩ H)):=by
 have av:E _:=gW W [109,97,120] S C;have HK:E _:=ez 0 0 W (.cells #[eN [109,97,120],hA S,eN C] 119);exact qgp
theorem U.qay(h:Zp:=by
 generalize h3:ax.vs.length=aV at b2 bu ar bC;clear h3;go_upto_region 34 with fail;clear b2 bu bS cj;go_wp2_with fail;go_loopw [18,19] (λcW cp I=>∃(k:Nat) (s:LSt) (xs:List Nat),1<=k/\k<=3/\cp=hA k/\xs.length=k/\E (fY (λs e=>eM f s u e) st (es.take k)=some (.ok (s,xs)))/\E (FtI az I P J u1 u2 u3 u4 bs s cW xs)/\E (Gw st s)/\E (∀i∈xs,i<s.vs.length)) (λ_ cp _=>3-(intOf cp).toNat)
 case atStart=>exact⟨1,ax,[a],yad,by decide,rfl,rfl,cd,b7,aW,cH⟩
 case round=>
  obtain⟨k,s,xs,ca,bK,rfl,(ay:E _),aI,bh,v,O⟩:=hrel;clear cd b7 aW cH;by_cases aG:k<3
  ·exact xaj
  obtain rfl:k=3:=xaa;exact qgh):Zp:=h
theorem U.qdn(h:Zp:=by
 exact qgs):Zp:=h
theorem U.qdr(h:Zp:=by
 rcases br with⟨c,p⟩|⟨ax,a⟩
 ·exact xck
 exact qax):Zp:=h
theorem U.qfn(h:Zp:=by
 rcases q with⟨c,p⟩|⟨bx,aa⟩
 ·exact xcc
 obtain⟨ao,aB,nn,aO⟩:=ct.o bx aa rfl;rw[ay.o]at aB
 obtain⟨j,n,N,rfl⟩:∃j n N,aa=[j,n,N]:=by
  match aa,aB with
  |[a,b,c],_=>exact⟨a,b,c,rfl⟩
 have al:=(aO j xac).1
 have X:E (r=fN bx (eK 8 (eX bx j) (j:Nat) (n:Nat) (N:Nat)) S):=by
  show _=_;rw[bI.o];unfold mx;rw[<-bY.o];rfl
 exact qdm):Zp:=h
theorem U.qfu(h:Zp:=by
 change Code.wp _ _ _ _ (W.alloc (.cells #[eN [115,101,108],hA S,eN C] 119));generalize W.alloc (.cells #[eN [115,101,108],hA S,eN C] 119)=az at av HK⊢;exact qdq):Zp:=h
theorem U.qgg(h:Zp:=by
 have ah:E (∀I,Kept 0 0 bc I->Calls prog 104 #[hy P,(eK 8 (eX bx j) (j:Nat) (n:Nat) (N:Nat)).agg,hA S] I λe ab=>(∃x:Int,e=.returned (hA x))/\E (TrO W P J u1 u2 u3 u4 bs r e ab)/\ab.cell? ⟨aJ,1,none⟩=some (hA S)/\ab.cell? ⟨au,of,none⟩=some (hA (j:Nat))/\ab.cell? ⟨au,of+1,none⟩=some (hA (n:Nat))/\ab.cell? ⟨au,of+2,none⟩=some (hA (N:Nat))):=λI aj=>yaj (lY (dg.o.keep aj) c6.o (eK 8 (eX bx j) (j:Nat) (n:Nat) (N:Nat)) d0 yah S) (λe ab t=>⟨t.ret,by
  show TrO W P J u1 u2 u3 u4 bs r e ab
  rw[X.o]
  exact TrO.after (cy.o.keep aj) t,df.o I ab aj t.chg⟩)
 clear X cy df c6 dg d0 ao bO d1 HK bq HF b0 a1 U a3 a4 bN cz;generalize eX bx j=l at bA ah cF⊢;generalize bx.vs.length=aV at*;generalize bc.drewN nq=bp at Y cF⊢;obtain⟨b0,a1,U,a3,a4,bN,cz⟩:=cF.o;go_upto_region 47 with fail
 go_region_held3 (λB=>B.cell? ⟨aJ,1,none⟩=some (hA S)/\B.cell? ⟨au,of,none⟩=some (hA (j:Nat))/\B.cell? ⟨au,of+1,none⟩=some (hA (n:Nat))/\B.cell? ⟨au,of+2,none⟩=some (hA (N:Nat))) (go_keep)
  (first
   |(go_at_call 46;refine yaj (ij _ _ _ _ _ _) ?_;rintro e cl ⟨rfl,bU⟩;obtain⟨bn,aX,bb,co,cg,ag,R⟩:=bA.o cl (Y.o.trans ((eG bp).trans bU)))
   |(go_at_call 104;refine yaj (ah.o _ (Y.o.trans ((eG bp).trans bU))) ?_;rintro e ci ⟨⟨cX,rfl⟩,bd,aq,bz,cD,bR⟩))
 all_goals (go_wp2_with fail;go_ret;exact bd.o)):Zp:=h
theorem U.qgi(h:Zp:=by
 have bI:E (r=mx [115,101,108] ⟨[115,101,108],S,C⟩ s xs):=by show _=_;rw[HR.o,cu.o];rfl
 exact qgu):Zp:=h
theorem U.qgq(h:Zp:=by
 obtain⟨r,aD⟩:∃r,r=rR [115,101,108] ⟨[115,101,108],S,C⟩ H:=⟨_,rfl⟩
 exact qft):Zp:=h
theorem U.qgt(h:Zp:=by
 have bA:E (∀I,Kept 0 0 bc I->I.cell? ⟨aJ,0,none⟩=some (eN [115,101,108])/\I.cell? ⟨aJ,1,none⟩=some (hA S)/\I.cell? ⟨P,1,none⟩=some (hz bJ bx.vs.length cv)/\I.cell? ⟨bJ,j*6+1,none⟩=some (hA (eX bx j))/\I.cell? ⟨au,of,none⟩=some (hA (j:Nat))/\I.cell? ⟨au,of+1,none⟩=some (hA (n:Nat))/\I.cell? ⟨au,of+2,none⟩=some (hA (N:Nat))):=λI aj=>⟨(bO.o.keep aj).c0,(bO.o.keep aj).c1,(a6.keep aj).c1,(aj.cell (p:=⟨bJ,j*6+1,none⟩) b3 xaa).trans b2,(aj.cell (p:=⟨au,of,none⟩) ak xaa).trans (bH 0 xac),(aj.cell (p:=⟨au,of+1,none⟩) ak xaa).trans (bH 1 xac),(aj.cell (p:=⟨au,of+2,none⟩) ak xaa).trans (bH 2 xac)⟩
 have df:E (∀I ab,Kept 0 0 bc I->Chg (Mst P aP (hz bJ bx.vs.length cv) y3 y4) I ab->ab.cell? ⟨aJ,1,none⟩=some (hA S)/\ab.cell? ⟨au,of,none⟩=some (hA (j:Nat))/\ab.cell? ⟨au,of+1,none⟩=some (hA (n:Nat))/\ab.cell? ⟨au,of+2,none⟩=some (hA (N:Nat))):=λI ab aj bV=>by
  obtain⟨aY,aC,_,_,ba,cn,bF⟩:=bA.o I aj
  have bf:=(bO.o.keep aj).lt
  have c8:=yak ak aj.size
  exact⟨(bV.cell (p:=⟨aJ,1,none⟩) bf cq).trans aC,(bV.cell (p:=⟨au,of,none⟩) c8 bX).trans ba,(bV.cell (p:=⟨au,of+1,none⟩) c8 bX).trans cn,(bV.cell (p:=⟨au,of+2,none⟩) c8 bX).trans bF⟩
 have bC:=ao.g.n;have d0:=ao.g.lenB al;have c6:E _:=ao.g;have dg:E _:=a6;have d1:E _:=cq;obtain⟨b0,a1,U,a3,a4,bN,cz⟩:=bA.o bc (Kept.refl 0 0 bc);exact qgf):Zp:=h
open U in
theorem EP{W st u}(h:WS W P J u1 u2 u3 u4 bs st)(an:Gd st)(S C)(cx:es.length=3)(bl:ArgS f W P J u1 u2 u3 u4 bs st aT Q cL u g bQ es)(H)(K:fY (λs e=>eM f s u e) st es=some H):
  Calls prog 125 #[hy P,.slice aT Q cL,iR ⟨[115,101,108],S,C⟩,hz bQ 3 ce] W (TrO W P J u1 u2 u3 u4 bs (rR [115,101,108] ⟨[115,101,108],S,C⟩ H)):=by
 have av:E _:=gW W [115,101,108] S C;have HK:E _:=ez 0 0 W (.cells #[eN [115,101,108],hA S,eN C] 119);exact qgp
