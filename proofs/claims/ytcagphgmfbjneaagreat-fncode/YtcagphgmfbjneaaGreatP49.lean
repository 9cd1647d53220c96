import Derived.Test.YtcagphgmfbjneaaGreatP48
namespace Go.Proofs.Z
variable{Zp:Prop}
open Tryz Go.RowKit Flt
set_option maxRecDepth 1000000
set_option maxHeartbeats 0
section
attribute[local go_sem] eE eD eC
variable{P I Q cL b4 Z b7 q o ci c0:Nat}{u1 u2 u3 u4:Value}{bs:List Bc}{st:LSt}{a5:Option Addr}
def wR(op:Int)(one:Bool)(p:Nat)(r:Rs (LSt×Nat)):Rs (LSt×Nat):=match r with|.error f=>.error f|.ok (s,a)=>fI s (eJ op (if one then 1 else eW s a) (a:Int) 0 0) p
theorem bS.qcf(h:Zp:=by
 have al:V (∀H,Kept 0 0 am H->Calls prog 115 #[hZ P,(eJ 13 (eW s a) (a:Int) 0 0).agg,h1 aX] H λe z=>(∃x:Int,e=.returned (h1 x))/\V (TrO W P I u1 u2 u3 u4 bs r e z)):=λH aj=>yaj (mn (J.keep aj) w.g (eJ 13 (eW s a) (a:Int) 0 0) (w.g.lenB az) yah aX) (λe z t=>⟨t.ret,by
  show TrO W P I u1 u2 u3 u4 bs r e z
  rw[HR.o]
  exact TrO.back HK.o (TrO.after (aG.keep aj) t)⟩)
 exact qfi):Zp:=h
theorem bS.qfj(h:Zp:=by
 go_upto_region 11 with fail;exact xdi):Zp:=h
open bS in
theorem E6{W}(h:WS W P I u1 u2 u3 u4 bs st)(aX C)(bS:1<=Z)(cc:b4<W.heap.size)(a2:W.cell? ⟨b4,0,none⟩=some (.slice (some ⟨q,o,none⟩) ci c0))(aq)(br:RsG st aq)
  (bf:∀H,Kept 0 0 W H->Calls prog 112 #[hZ P,.slice a5 Q cL,.slice (some ⟨q,o,none⟩) ci c0] H (TrO H P I u1 u2 u3 u4 bs aq)):
  Calls prog 129 #[hZ P,.slice a5 Q cL,iT ⟨[101,120,112],aX,C⟩,h0 b4 Z b7] W (TrO W P I u1 u2 u3 u4 bs (wR 13 false aX aq)):=by
 have T:V _:=gV W [101,120,112] aX C;have HK:V _:=eA 0 0 W (.cells #[eK [101,120,112],h1 aX,eK C] 137);have aD:V _:=h.far;have aY:=(HK.o.cell (p:=⟨b4,0,none⟩) cc xaa).trans a2;have K:V _:=bf;have bv:V _:=br;obtain⟨r,aF⟩:∃r,r=wR 13 false aX aq:=⟨_,rfl⟩
 rw[<-aF];have HR:V _:=aF;clear aF h br bf a2;unfold iT;simp only;go_enter func129,ntmps129;go_upto_region 2 with fail;change Code.wp _ _ _ _ (W.alloc (.cells #[eK [101,120,112],h1 aX,eK C] 137));generalize W.alloc (.cells #[eK [101,120,112],h1 aX,eK C] 137)=ax at T HK aY⊢;generalize W.heap.size=a7 at T aD⊢;have b2:V _:=K.o ax HK.o;have bL:=T.o.c0;clear K;rcases aq with⟨c,p⟩|⟨s,a⟩
 ·exact xdt
 exact qce
theorem bT.qcf(h:Zp:=by
 have al:V (∀H,Kept 0 0 _ H->Calls _ _ _ _ λe z=>(∃x:Int,e=.returned _)/\V (TrO W P I _ _ _ _ _ r e _)):=λH aj=>yaj (mn (J.keep aj) w.g (eJ 9 1 _ 0 0) ⟨by show(1:Int)<=1;decide,by show(1:Int)<=1000;decide⟩ yah _) (λe z t=>⟨t.ret,by
  show TrO W P I u1 u2 u3 u4 bs r e z
  rw[HR.o]
  exact TrO.back HK.o (TrO.after (aG.keep aj) t)⟩)
 exact qfi):Zp:=h
theorem bT.qfj(h:Zp:=by
 go_upto_region 13 with fail
 go_region_with (first
  |(go_at_call 79;refine yaj (gG _ _ _ _ _ _) ?_;rintro e aU ⟨rfl,aZ⟩;have b:=(y.o.keep ((eF _).trans aZ)).c1)
  |(go_at_call 115;refine yaj (al.o _ ((eF _).trans aZ)) ?_;rintro e bA ⟨⟨x,rfl⟩,bm⟩))
 all_goals (go_wp2_with fail;go_ret;exact bm.o)):Zp:=h
open bT in
theorem E7{W}(h:WS W P I u1 u2 u3 u4 bs st)(aX C)(bS:1<=Z)(cc:b4<W.heap.size)(a2:W.cell? ⟨b4,0,none⟩=some (.slice (some ⟨q,o,none⟩) ci c0))(aq)(br:RsG st aq)
  (bf:∀H,Kept 0 0 W H->Calls prog 112 #[hZ P,.slice a5 Q cL,.slice (some ⟨q,o,none⟩) ci c0] H (TrO H P I u1 u2 u3 u4 bs aq)):
  Calls prog 129 #[hZ P,.slice a5 Q cL,iT ⟨[115,117,109],aX,C⟩,h0 b4 Z b7] W (TrO W P I u1 u2 u3 u4 bs (wR 9 true aX aq)):=by
 have T:V _:=gV W [115,117,109] aX C;have HK:V _:=eA 0 0 W (.cells #[eK [115,117,109],h1 aX,eK C] 137);have aD:V _:=h.far;have aY:=(HK.o.cell cc xaa).trans a2;have K:V _:=bf;have bv:V _:=br;obtain⟨r,aF⟩:∃r,r=wR 9 true aX aq:=⟨_,rfl⟩
 rw[<-aF];have HR:V _:=aF;clear aF h br bf a2;unfold iT;simp only;go_enter func129,ntmps129;go_upto_region 2 with fail;change Code.wp _ _ _ _ (W.alloc (.cells _ 137));generalize W.alloc _=ax at T HK aY⊢;generalize W.heap.size=a7 at T aD⊢;have b2:V _:=K.o _ HK.o;have bL:=T.o.c0;clear K;rcases aq with⟨c,p⟩|⟨s,a⟩
 ·exact xdt
 exact qce
def Mp(r1 r2:Rs (LSt×Nat)):Rs (LSt×Nat):=match r1 with|.error f=>.error f|.ok _=>r2
theorem vn{d}(e3:d=[102,105,108,108]\/d=[112,105,99,107]\/d=[112,117,116]){W}(h:WS W P I u1 u2 u3 u4 bs st)(aX C)(bS:1<=Z)(cc:b4<W.heap.size)(a2:W.cell? ⟨b4,0,none⟩=some (.slice (some ⟨q,o,none⟩) ci c0))(aq aT)(br:RsG st aq)
  (bf:∀H,Kept 0 0 W H->Calls prog 112 #[hZ P,.slice a5 Q cL,.slice (some ⟨q,o,none⟩) ci c0] H (TrO H P I u1 u2 u3 u4 bs aq))
  (HQ:∀s a,aq=.ok (s,a)->∀H ba bb bc bo,WS H P I ba bb bc bo bs s->Mv (Mst P u1 u2 u3 u4) W (Mst P ba bb bc bo) H->Calls prog 133 #[hZ P,iT ⟨d,aX,C⟩,h1 a,h0 b4 Z b7] H (TrO H P I ba bb bc bo bs aT)):
  Calls prog 129 #[hZ P,.slice a5 Q cL,iT ⟨d,aX,C⟩,h0 b4 Z b7] W (TrO W P I u1 u2 u3 u4 bs (Mp aq aT)):=by
 have T:V _:=gV W d aX C;have HK:V _:=eA 0 0 W (.cells #[eK d,h1 aX,eK C] 137);have aD:V _:=h.far;have aY:=(HK.o.cell cc xaa).trans a2;have K:V _:=bf;have b:V _:=HQ;have bv:V _:=br;obtain⟨r,aF⟩:∃r,r=Mp aq aT:=⟨_,rfl⟩
 rw[<-aF];have HR:V _:=aF;clear aF h br bf a2 HQ;unfold iT at b⊢;simp only at b⊢;obtain⟨ax,X⟩:∃ax,V (W.alloc (.cells #[eK d,h1 aX,eK C] 137)=ax):=⟨_,rfl⟩
 rw[X.o]at T HK aY;rcases e3 with rfl|rfl|rfl
 all_goals
  go_enter func129,ntmps129
  go_upto_region 2 with fail
  change Code.wp _ _ _ _ (W.alloc (.cells _ 137))
  rw[X.o]
  clear X
  generalize W.heap.size=a7 at T aD⊢
  have b2:V _:=K.o _ HK.o
  have bL:=T.o.c0
  clear K
  rcases aq with⟨c,p⟩|⟨s,a⟩
  ·go_wp2_with (go_at_call 112;refine yaj b2.o ?_;rintro e am ⟨rfl,bm⟩)
   go_ret
   rw[HR.o]
   exact TrO.back HK.o ⟨rfl,bm⟩
  ·obtain⟨w,az⟩:=bv.o s a rfl
   have d0:¬((a:Int)<0):=xaa
   go_upto_region 7 with (go_at_call 112;refine yaj b2.o ?_;rintro e am ⟨rfl,ba,bb,bc,bo,J,aG⟩)
   have y:V _:=T.o.keepC aG.chg aD.o
   obtain⟨b0,cv,bg,ck,a6⟩:=J.lenc az
   have b3:=J.c1
   have Y:V _:=(Mv.of HK.o).trans aG
   have f:V _:=b.o s a rfl _ _ _ _ _ J Y.o
   have S:V _:=yaj f.o (λe z t=>(⟨TrO.ret t,by
    show TrO W P I u1 u2 u3 u4 bs r e z
    rw[HR.o]
    exact TrO.after Y.o t⟩:(∃x:Int,e=.returned _)/\V (TrO W P I _ _ _ _ _ r e _)))
   subst bg
   have bR:=y.o.c0
   have aM:=y.o.c1
   have bi:=y.o.c2
   have bI:=w.g.n
   generalize eW s a=l at a6
   generalize s.vs.length=N at*
   clear J aG b2 T HR bv w bL aY b f Y
   go_wp2_with (go_at_call 133;refine yaj S.o ?_;rintro e bA ⟨⟨x,rfl⟩,bm⟩)
   go_ret
   exact bm.o
theorem lj{W u g off m cap ts}(ad:TrIn W P I u1 u2 u3 u4 bs st a5 Q u g off m cap ts){e}(aQ:Pr 0 [e] ts)(F:((ts.getD 0 ih).sym==[45])=false)(h3:((ts.getD 0 ih).sym==[105,110,116])=false)(h4:((ts.getD 0 ih).sym==[100,101,99])=false)(bK:((ts.getD 0 ih).sym==[40])=false)(b3:((ts.getD 0 ih).sym==[110,97,109,101])=false)(h2:4<=m)(us)(a6:us=(ts.drop 2).take (m-1-2))(bc:(spQ us (m-3)).cur≠[])(r)
  (bf:∀H bi bj,Kept 0 0 W H->SgR H g W.heap.size bi (fL us)->Calls prog 129 #[hZ P,.slice a5 Q cL,iT (ts.getD 0 ih),.slice bi (fL us).length bj] H (TrO H P I u1 u2 u3 u4 bs r)):
  Calls prog 112 #[hZ P,.slice a5 Q cL,.slice (some ⟨g,off,none⟩) m cap] W (TrO W P I u1 u2 u3 u4 bs r):=by
 have j:V _:=fC W g _ m cap _ ad.tk ad.m5 [43] [45];have af:V _:=fC W g _ m cap _ ad.tk ad.m5 [42] [47];rw[mB aQ]at j af;have c0:=ad.tk.c0 0 xaa;have c1:=ad.tk.c1 0 xaa;have c2:=ad.tk.c2 0 xaa;have cl:=ad.m5;have ae:=ad.mc
 have b:V (∀H,Kept 0 0 W H->_):=λH aj=>CN _ g (off+6) _ (cap-2) _ (by
  have t:=(ad.tk.keep aj).in_ 2 _ _ a6 xaa
  rw[show m-1-2=m-3 by omega]at t
  exact t) xaa xaa xaa bc
 have K:V _:=bf;generalize ts.getD 0 _=t at*;clear ad aQ bf bc a6;obtain⟨aT,ps,a8⟩:=t;simp only at F h3 h4 bK b3;simp only[Nat.zero_mul,Nat.add_zero]at c0 c1 c2;go_enter func112,ntmps112;go_upto_region 3 with (go_at_call 123;refine yaj j.o ?_;rintro e am ⟨rfl,X⟩;obtain rfl:=X.symm);go_upto_region 15 with (go_at_call 123;refine yaj af.o ?_;rintro e am ⟨rfl,X⟩;obtain rfl:=X.symm);go_upto_region 16 with fail;change Code.wp _ _ _ _ (W.alloc (.cells #[eK _,.int _ ps,eK _] 137));have T:V _:=gV W aT ps a8;have HK:V _:=eA 0 0 W (.cells #[eK aT,h1 ps,eK a8] 137);generalize W.alloc _=ax at T HK⊢;have HZ:V _:=HK.o.size;generalize a2:W.heap.size=a7 at T⊢;have HX:V _:=a2;clear a2;obtain⟨bL,U,aV⟩:ax.cell? _=some _/\ax.cell? _=some _/\ax.cell? _=some _:=⟨T.o.c0,T.o.c1,T.o.c2⟩
 have b1:V _:=b.o _ HK.o;clear c0 c1 c2 j af b;generalize (fL _).length=d at b1 K⊢;go_upto_region 29 with (go_at_call 127;refine yaj b1.o ?_;rintro e am ⟨bi,bj,rfl,a,av⟩);have y:V _:=T.o.keep av
 have ab:V (SgR _ g _ _ _):=⟨λbx=>by
  obtain⟨b4,ay,aB,bz⟩:=a.at_ bx
  exact⟨_,ay,yao HZ.o aB,bz⟩⟩
 have b2:V _:=yaj (K.o _ _ bj (HK.o.trans av) ab.o) (λe z t=>(⟨TrO.ret t,TrO.back (HK.o.trans av) t⟩:(∃x:Int,e=.returned _)/\V (TrO W P I _ _ _ _ _ r e _)));unfold iT at b2;simp only at b2;clear bL U aV T a K b1 ab;have bL:=y.o.c0;have U:=y.o.c1;have aV:=y.o.c2;clear y av;go_wp2_with (go_at_call 129;refine yaj b2.o ?_;rintro e bA ⟨⟨x,rfl⟩,bm⟩);go_ret;exact bm.o
end
section
variable{f:Nat}{u:Loc}{st:LSt}{k n:Tok}{a:Ex}{r:Rs (LSt×Nat)}
theorem B8(h:eM (f+1) st u (.key1 k a)=some r):∃aq,eM f st u a=some aq/\r=(if k.sym=zi then wR 13 false k.pos aq else wR 9 true k.pos aq):=by
 rw[eM]at h;cases F:eM f st u a with
 |none=>rw[F]at h;cases h
 |some aq=>
  rw[F]at h;rcases aq with⟨c,p⟩|⟨ar,x⟩
  ·cases h;refine⟨_,rfl,?_⟩;split<;>rfl
  cases h;exact⟨_,rfl,rfl⟩
theorem Jd{ts}(h:cm 0 ts=some 0)(n)(ag:ts.length<=n):(spQ ts n).cur=ts:=by
 simp_all[spQ,List.take_of_length_le,qB]
section
variable{f:Nat}{W:World}{P I:Nat}{u1 u2 u3 u4:Value}{bs:List Bc}{st:LSt}{a5:Option Addr}{Q cL:Nat}{u:Loc}{g off m cap:Nat}{ts:List Tok}{a:Ex}{r:Rs (LSt×Nat)}
theorem E8{k l q}(N:TrC f)(ad:TrIn W P I u1 u2 u3 u4 bs st a5 Q u g off m cap (k::l::(ts++[q])))(O:k.sym=zi\/k.sym=FJ)(ai:l.sym=[40])(az:Pr 2 [a] ts)(aA:q.sym=[41])(h:eM (f+1) st u (.key1 k a)=some r):
  Calls prog 112 #[hZ P,.slice a5 Q cL,.slice (some ⟨g,off,none⟩) m cap] W (TrO W P I u1 u2 u3 u4 bs r):=by
 obtain⟨aq,af,rfl⟩:=B8 h;have ao:=ad.tk.len;simp only[yaq,yal,List.length_nil]at ao;have aQ:=iZ az;have y:=jF az yad;have bX:=ad.mc;have bc:ts≠[]:=λc=>by grind
 have bS:=jm az (λt ht=>ad.ti t (by simp[ht])) a xac;have a6:ts=((k::l::(ts++[q])).drop 2).take (m-1-2):=by grind
 have aS:∀x:List _,x≠zi->x≠FJ->(k.sym==x)=false:=λx F h2=>by
  grind
 refine lj ad (Pr.key1 O ai az aA) (aS _ xab xab) (aS _ xab xab) (aS _ xab xab) (aS _ xab xab) (aS _ xab xab) xaa _ a6 (by rw[Jd y _ xaa];exact bc) _ (λH bi bj aj a2=>?_);rw[Nu bc y]at a2⊢;obtain⟨b4,rfl,_,cc,bU⟩:=a2.at_ xac;obtain⟨o,c,c1,c2,c3⟩:=bU 0 xac
 have bf:∀z,Kept 0 0 _ z->_:=λz av=>
  N _ P I _ _ _ _ _ _ _ _ cL _ g o ts.length c ts ⟨ad.ws.keep (aj.trans av),ad.gd,ad.nm,ad.lc.keep (aj.trans av),ad.ln,ad.lo,c2.keep av,ad.tg,ix ad.m5,c3,λt ht=>ad.ti t (by simp[ht]),λt ht=>ad.tn t (by simp[ht])⟩ 2 a az yad _ af
 have br:=fX f _ _ a ad.gd ad.nm ad.lo bS _ af;obtain⟨a9,aX,C⟩:=k;rcases O with O|O
 ·simp only at O;subst O;rw[h7 rfl];exact E6 (ad.ws.keep aj) _ _ xac cc c1 _ br bf
 simp only at O;subst O;rw[h6 (show ¬(FJ=zi) by decide)];exact E7 (ad.ws.keep aj) _ _ xac cc c1 _ br bf
end
theorem WS.far2{W P I u1 u2 u3 u4 bs}(h:WS W P I u1 u2 u3 u4 bs st){b}(hb:W.heap.size<=b):¬Mst P u1 u2 u3 u4 b:=by
 exact xfp
def Je(k n:Tok)(r1:Rs (LSt×Nat)):Rs (LSt×Nat):=match r1 with|.error f=>.error f|.ok (s,a)=>mi s k a n
theorem B9(h:eM (f+1) st u (.keyN k a n)=some r):∃aq,eM f st u a=some aq/\r=Mp aq (Je k n aq):=by
 exact xcy
theorem pE{us X y}(ak:us≠[])(h:fL us=X++[y])(n)(ag:us.length<=n):(spQ us n).cur=y:=by
 simp_all[fL,spQ,List.take_of_length_le]
section
variable{f:Nat}{W:World}{P I:Nat}{u1 u2 u3 u4:Value}{bs:List Bc}{st:LSt}{a5:Option Addr}{Q cL:Nat}{u:Loc}{g off m cap:Nat}{ts:List Tok}{a:Ex}{r:Rs (LSt×Nat)}
theorem bA.qbq(h:Zp:=by
 have HQ:∀s x,aq=.ok (s,x)->∀z ba bb bc bo,WS z P I ba bb bc bo bs s->Mv (Mst P u1 u2 u3 u4) H (Mst P ba bb bc bo) z->Calls prog 133 #[hZ P,iT k,h1 x,h0 b4 2 bj] z (TrO z P I ba bb bc bo bs (Je k n aq)):=λs x e z ba bb bc bo X bJ=>by
  obtain⟨w,ap⟩:=br s x e
  subst e
  exact Hi X w.g k O x ap n bx yad ⟨yak cc bJ.chg.size,(bJ.chg.cell (p:=⟨b4,1,none⟩) cc b).trans G,j.keepC bJ.chg ad.tg⟩
 obtain⟨a9,aX,C⟩:=k;rcases O with O|O
 ·simp only at O;subst O;exact vn (.inl rfl) (ad.ws.keep aj) aX C xac cc c1 aq _ br bf HQ
 simp only at O;subst O;exact vn (.inr (.inl rfl)) (ad.ws.keep aj) aX C xac cc c1 aq _ br bf HQ):Zp:=h
theorem bA.qeg(h:Zp:=by
 exact qbp):Zp:=h
theorem bA.qfv(h:Zp:=by
 have bx:=ad.ti n xac ag;exact qhb):Zp:=h
theorem bA.qhc(h:Zp:=by
 have aS:∀x:List UInt8,x≠vO->x≠qy->(k.sym==x)=false:=λx F h2=>by
  rw[beq_eq_false_iff_ne]
  rintro rfl
  exact O.elim F h2
 refine lj ad (Pr.keyN O ai az al ag aA) (aS _ xab xab) (aS _ xab xab) (aS _ xab xab) (aS _ xab xab) (aS _ xab xab) xaa (ts++c::[n]) a6 (by rw[pE (X:=[ts]) (y:=[n]) xac S _ yag];simp) _ (λH bi bj aj a2=>?_);exact qef):Zp:=h
open bA in
theorem E9{k l c n q}(N:TrC f)(ad:TrIn W P I u1 u2 u3 u4 bs st a5 Q u g off m cap (k::l::(ts++[c,n,q])))(O:k.sym=vO\/k.sym=qy)(ai:l.sym=[40])(az:Pr 2 [a] ts)(al:c.sym=[44])(ag:n.sym=ik)(aA:q.sym=[41])(h:eM (f+1) st u (.keyN k a n)=some r):
  Calls prog 112 #[hZ P,.slice a5 Q cL,.slice (some ⟨g,off,none⟩) m cap] W (TrO W P I u1 u2 u3 u4 bs r):=by
 obtain⟨aq,af,rfl⟩:=B9 h;exact qfu
end
def Df(k i n:Tok)(r1:Rs (LSt×Nat)):Rs (LSt×Nat):=match r1 with|.error f=>.error f|.ok (s,a)=>mj s k a i n
theorem Fa{i}(h:eM (f+1) st u (.put k a i n)=some r):∃aq,eM f st u a=some aq/\r=Mp aq (Df k i n aq):=by
 exact xcy
section
variable{f:Nat}{W:World}{P I:Nat}{u1 u2 u3 u4:Value}{bs:List Bc}{st:LSt}{a5:Option Addr}{Q cL:Nat}{u:Loc}{g off m cap:Nat}{ts:List Tok}{a:Ex}{r:Rs (LSt×Nat)}
theorem bB.qbq(h:Zp:=by
 have HQ:∀s x,aq=.ok (s,x)->∀z ba bb bc bo,WS z P I ba bb bc bo bs s->Mv (Mst P u1 u2 u3 u4) H (Mst P ba bb bc bo) z->Calls prog 133 #[hZ P,iT k,h1 x,h0 b4 3 bj] z (TrO z P I ba bb bc bo bs (Df k i n aq)):=λs x e z ba bb bc bo X bJ=>by
  obtain⟨w,ap⟩:=br s x e
  subst e
  exact I2 X w.g k O x ap i B yad ⟨yak cc bJ.chg.size,(bJ.chg.cell (p:=⟨b4,1,none⟩) cc b).trans G,j.keepC bJ.chg ad.tg⟩ n bx ⟨yak cc bJ.chg.size,(bJ.chg.cell (p:=⟨b4,2,none⟩) cc b).trans b6,U.keepC bJ.chg ad.tg⟩
 obtain⟨a9,aX,C⟩:=k;simp only at O;subst O;exact vn (.inr (.inr rfl)) (ad.ws.keep aj) aX C xac cc c1 aq _ br bf HQ):Zp:=h
theorem bB.qeg(h:Zp:=by
 obtain⟨b9,K,b6,U,Y⟩:=bU 2 xac;exact qbp):Zp:=h
theorem bB.qfv(h:Zp:=by
 have bx:=ad.ti n xac ag;have B:=ad.ti i xac hi;have v:=tX (by rw[hi];decide) (by rw[hi];decide) (by rw[hi];decide);have d1:=tX (by rw[ag];decide) (by rw[ag];decide) (by rw[ag];decide);have S:=Bk y al v aO d1
 have a6:ts++c::([i]++d::[n])=((k::l::(ts++[c,i,d,n,q])).drop 2).take (m-1-2):=by
  rw[List.drop_succ_cons,List.drop_succ_cons,List.drop_zero,show ts++[c,i,d,n,q]=(ts++c::([i]++d::[n]))++[q] by simp,List.take_append_of_le_length yag,yap yag]
 have aS:∀x:List UInt8,x≠Du->(k.sym==x)=false:=λx F=>by
  rw[beq_eq_false_iff_ne]
  rintro rfl
  exact F O
 refine lj ad (Pr.put O ai az al hi aO ag aA) (aS _ xab) (aS _ xab) (aS _ xab) (aS _ xab) (aS _ xab) xaa (ts++c::([i]++d::[n])) a6 (by rw[pE (X:=[ts,[i]]) (y:=[n]) xac S _ yag];simp) _ (λH bi bj aj a2=>?_);exact qef):Zp:=h
open bB in
theorem Jf{k l c i d n q}(N:TrC f)(ad:TrIn W P I u1 u2 u3 u4 bs st a5 Q u g off m cap (k::l::(ts++[c,i,d,n,q])))(O:k.sym=Du)(ai:l.sym=[40])(az:Pr 2 [a] ts)(al:c.sym=[44])(hi:i.sym=ik)(aO:d.sym=[44])(ag:n.sym=ik)(aA:q.sym=[41])(h:eM (f+1) st u (.put k a i n)=some r):
  Calls prog 112 #[hZ P,.slice a5 Q cL,.slice (some ⟨g,off,none⟩) m cap] W (TrO W P I u1 u2 u3 u4 bs r):=by
 obtain⟨aq,af,rfl⟩:=Fa h;exact qfu
end
end
section
attribute[local go_sem] eE eD eC
variable{P I Q cL g off m cap:Nat}{u1 u2 u3 u4:Value}{bs:List Bc}{st:LSt}{a5:Option Addr}{u:Loc}{ts:List Tok}
theorem TrIn.seg{W}(h:TrIn W P I u1 u2 u3 u4 bs st a5 Q u g off m cap ts){H ba bb bc bo N}(X:WS H P I ba bb bc bo bs N)(w:Gw st N)(k:Mv (Mst P u1 u2 u3 u4) W (Mst P ba bb bc bo) H){o n c us}(C:TkA H g o n us)(ag:n<=m)(al:n<=c)(a6:∀t∈us,t∈ts):TrIn H P I ba bb bc bo bs N a5 Q u g o n c us where
 ws:=X
 gd:=w.g
 nm:=h.nm.gw w
 lc:=h.lc.mv k
 ln:=h.ln
 lo:=h.lo.le w.n
 tk:=C
 tg:=λc=>(k.new g c).elim h.tg (λc=>ix h.tk.lt)
 m5:=ix h.m5
 mc:=al
 ti:=λt ht=>h.ti t (a6 t ht)
 tn:=λt ht=>h.tn t (a6 t ht)
theorem u.qah(h:Zp:=by
 change Code.wp _ _ _ _ (W.alloc (.cells #[eK [105,110,116],h1 ps,eK a8] 137));have T:V _:=gV W [105,110,116] ps a8;have HK:V _:=eA 0 0 W (.cells #[eK [105,110,116],h1 ps,eK a8] 137);generalize W.alloc (.cells #[eK [105,110,116],h1 ps,eK a8] 137)=ax at T HK⊢;exact xbb):Zp:=h
open u in
theorem Fb{W}(ad:TrIn W P I u1 u2 u3 u4 bs st a5 Q u g off m cap ts){e}(aQ:Pr 0 [e] ts)(ak:(ts.getD 0 ih).sym=[105,110,116])(h2:1<=m)(bI:kD (ts.getD 0 ih).text):
  Calls prog 112 #[hZ P,.slice a5 Q cL,.slice (some ⟨g,off,none⟩) m cap] W (TrO W P I u1 u2 u3 u4 bs (fI st ⟨1,1,0,0,0,oL (ts.getD 0 ih).text⟩ (ts.getD 0 ih).pos)):=by
 exact qag
theorem v.qah(h:Zp:=by
 change Code.wp _ _ _ _ (W.alloc (.cells #[eK [100,101,99],h1 ps,eK a8] 137));have T:V _:=gV W [100,101,99] ps a8;have HK:V _:=eA 0 0 W (.cells #[eK [100,101,99],h1 ps,eK a8] 137);generalize W.alloc (.cells #[eK [100,101,99],h1 ps,eK a8] 137)=ax at T HK⊢;exact xbb):Zp:=h
open v in
theorem Fc{W}(ad:TrIn W P I u1 u2 u3 u4 bs st a5 Q u g off m cap ts){e}(aQ:Pr 0 [e] ts)(ak:(ts.getD 0 ih).sym=[100,101,99])(h2:1<=m)(bI:kD (ts.getD 0 ih).text):
  Calls prog 112 #[hZ P,.slice a5 Q cL,.slice (some ⟨g,off,none⟩) m cap] W (TrO W P I u1 u2 u3 u4 bs (fI st ⟨1,1,0,0,0,oL (ts.getD 0 ih).text⟩ (ts.getD 0 ih).pos)):=by
 exact qag
section
variable{f:Nat}{W:World}{P I:Nat}{u1 u2 u3 u4:Value}{bs:List Bc}{st:LSt}{a5:Option Addr}{Q cL:Nat}{u:Loc}{g off m cap:Nat}{t:Tok}{r:Rs (LSt×Nat)}
theorem Jg(ad:TrIn W P I u1 u2 u3 u4 bs st a5 Q u g off m cap [t])(ht:t.sym=ik\/t.sym=kO)(h:eM (f+1) st u (.num t)=some r):
  Calls prog 112 #[hZ P,.slice a5 Q cL,.slice (some ⟨g,off,none⟩) m cap] W (TrO W P I u1 u2 u3 u4 bs r):=by
 rw[eM]at h;have e:=h8 h;have bI:=ad.tn t xac ht;have ao:=ad.tk.len;have cj:[t].getD 0 ih=t:=rfl;have F:1<=m:=by grind
 rcases ht with ht|ht
 ·have k:=Fb (cL:=cL) ad (Pr.num (.inl ht)) (i1 cj ht) F (by grind);rw[cj,e]at k;exact k
 have k:=Fc (cL:=cL) ad (Pr.num (.inr ht)) (i1 cj ht) F (by grind);rw[cj,e]at k;exact k
end
end
section
variable{f P I Q g b4:Nat}{u1 u2 u3 u4:Value}{st s:LSt}{r:Rs (LSt×Nat)}{u:Loc}{bs:List Bc}{a5:Option Addr}{es:List Ex}
theorem mJ(ba):∀(es:List Ex) (st:LSt) (R:Rs (LSt×List Nat)),fQ ba st es=some R->∀k,k<es.length->∀s xs,fQ ba st (es.take k)=some (.ok (s,xs))->∃r,ba s (es.getD k (.num ih))=some r/\(∀f,r=.error f->R=.error f)/\(∀aW a,r=.ok (aW,a)->fQ ba st (es.take (k+1))=some (.ok (aW,xs++[a])))
 |[],_,_,_,k,O,_,_,_=>by simp at O
 |e::es,st,R,h,0,_,s,xs,aw=>by
  rw[List.take_zero,fQ]at aw
  grind[fQ]
 |e::es,st,R,h,k+1,O,s,xs,aw=>by
  rw[List.take_succ_cons,fQ]at aw
  rw[fQ]at h
  cases F:ba st e with
  |none=>grind
  |some bq=>
   rw[F]at h aw
   rcases bq with f|⟨ar,a⟩
   ·cases aw
   ·simp only at h aw
    cases h2:fQ ba ar es with
    |none=>grind
    |some R'=>
     cases h3:fQ ba ar (es.take k) with
     |none=>grind
     |some R3=>
      rw[h3]at aw
      rcases R3 with f|⟨bJ,ys⟩
      ·cases aw
      ·cases aw
       obtain⟨r,an,av,aZ⟩:=mJ _ _ _ _ h2 k (by grind) s _ h3
       refine⟨r,an,λf af=>?_,λaW b af=>?_⟩
       ·simp_all
       ·simp_all[fQ]
structure ArgS(f:Nat)(W:World)(P B:Nat)(u1 u2 u3 u4:Value)(bs:List Bc)(st:LSt)(aL:Option Addr)(nL cL:Nat)(loc:Loc)(g gr:Nat)(es:List Ex):Prop where
 lt:gr<W.heap.size
 nM:¬Mst P u1 u2 u3 u4 gr
 call:∀i,i<es.length->∃o n c,W.cell? ⟨gr,i,none⟩=some (.slice (some ⟨g,o,none⟩) n c)/\∀s r W' z1 z2 z3 z4,Gw st s->eM f s loc (es.getD i (.num ih))=some r->WS W' P B z1 z2 z3 z4 bs s->Mv (Mst P u1 u2 u3 u4) W (Mst P z1 z2 z3 z4) W'->RsG s r/\Calls prog 112 #[.pointer (some ⟨P,0,none⟩),.slice aL nL cL,.slice (some ⟨g,o,none⟩) n c] W' (TrO W' P B z1 z2 z3 z4 bs r)
theorem ArgS.cell{W cL}(h:ArgS f W P I u1 u2 u3 u4 bs st a5 Q cL u g b4 es){H}(c:Chg (Mst P u1 u2 u3 u4) W H)(i):H.cell? ⟨b4,i,none⟩=W.cell? ⟨b4,i,none⟩:=c.cell (p:=⟨b4,i,none⟩) h.lt h.nM
theorem ArgS.of(N:TrC f){W0 W}(cL){off m cap ts}(ad:TrIn W0 P I u1 u2 u3 u4 bs st a5 Q u g off m cap ts)(aj:Kept 0 0 W0 W){a:List (List Tok)}(aD:W0.heap.size<=b4)(cc:b4<W.heap.size)(a2:∀i,i<a.length->∃o c,W.cell? ⟨b4,i,none⟩=some (.slice (some ⟨g,o,none⟩) (a.getD i []).length c)/\TkA W g o (a.getD i []).length (a.getD i [])/\(a.getD i []).length<=c)(ai:a.length=es.length)(hP:∀i,i<es.length->Pr 2 [es.getD i (.num ih)] (a.getD i []))(ag:∀i,i<a.length->(a.getD i []).length<=m)(a6:∀i,i<a.length->∀t∈a.getD i [],t∈ts):ArgS f W P I u1 u2 u3 u4 bs st a5 Q cL u g b4 es where
 lt:=cc
 nM:=ad.ws.far2 aD
 call:=λi hi=>by
  obtain⟨o,c,c1,c2,c3⟩:=a2 i xaa
  refine⟨o,_,c,c1,λs r H aR bd bu bC w e X bJ=>?_⟩
  have b:=hP i hi
  have d:=a6 i xaa
  exact⟨fX f s _ _ w.g (ad.nm.gw w) (ad.lo.le w.n) (jm b (λt ht=>ad.ti t (d t ht)) _ xac) r e,N _ P I _ _ _ _ _ s _ _ _ _ g o _ c _ (ad.seg X w ((Mv.of aj).trans bJ) (c2.keepC bJ.chg ad.tg) (ag i xaa) c3 d) 2 _ b yad r e⟩
theorem FtI.lit{W aU ba bb bc bo}(G:WS aU P I ba bb bc bo bs s)(bJ:Mv (Mst P u1 u2 u3 u4) W (Mst P ba bb bc bo) aU)(a:Nat):FtI W (aU.alloc (.cells #[h1 a] 3)) P I u1 u2 u3 u4 bs s (h0 aU.heap.size 1 1) [a]:=by
 have bj:=eA 0 0 aU (.cells #[h1 a] 3);have aw:=bJ.chg.size;have aZ:∀b,(h0 aU.heap.size 1 1).ownBlock=some b->b=aU.heap.size:=λb hb=>by simp[Value.ownBlock]at hb;omega
 refine⟨⟨_,_,_,_,G.keep bj,⟨(bJ.keep bj).chg,λb hb=>?_⟩,λb hb c=>?_⟩,⟨rfl,.inr ⟨_,1,#[.int _ a],rfl,aw,?_,yad,by unfold maxLen;omega,rfl,rfl⟩⟩⟩
 ·rcases hb with c|c
  ·exact bJ.new b c
  grind
 ·rw[aZ b hb]at c;exact G.far c
 simp[World.alloc,-World.alloc_eq]
theorem FtI.xs{W H o bw}(h:FtI W H P I u1 u2 u3 u4 bs s o bw):∃a c ba bb bc bo,o=.slice a bw.length c/\WS H P I ba bb bc bo bs s/\Mv (Mst P u1 u2 u3 u4) W (Mst P ba bb bc bo) H/\XsR (Mst P ba bb bc bo) H a bw.length bw:=by
 obtain⟨ba,bb,bc,bo,aq,ae,bh⟩:=h.ex;obtain⟨bA,cy,ho⟩:=je h.row;refine⟨_,_,_,_,_,_,ho,aq,⟨ae.chg,λb hb=>ae.new b (.inl hb)⟩,⟨rfl,λbN=>?_⟩⟩;have a8:=h.row;rcases a8.2 with⟨_,c⟩|⟨g,c,ad,e,U,aV,aa,_,ct,bX⟩
 ·omega
 rw[ho]at e;cases e;have aK:g<H.heap.size:=by grind
 refine⟨g,0,rfl,bh g (by rw[ho];simp[Value.ownBlock]),aK,λk O=>?_⟩;rw[Nat.zero_add,cell_of_row _ g _ _ _ _ aV,<-Array.getElem?_toList];have:(ad.toList.take (bw.length*1))[k]? =(bw.map λj:Nat=>Value.int .i64 j)[k]?:=by rw[bX]
 grind
def mK(ks:List UInt8)(k:Tok)(s:LSt)(xs:List Nat):Rs (LSt×Nat):=
 match jT s xs k.pos with
 |.error f=>.error f
 |.ok (s2,f)=>
  if ks=zj then fI s2 (eJ 8 (eW s2 (f.getD 0 0)) (f.getD 0 0:Nat) (f.getD 1 0:Nat) (f.getD 2 0:Nat)) k.pos
  else if ks=Bf then fI s2 (eJ 7 (eW s2 (f.getD 0 0)) (f.getD 0 0:Nat) (f.getD 1 0:Nat) 0) k.pos
  else match fI s2 (eJ 4 (eW s2 (f.getD 0 0)) (f.getD 0 0:Nat) (f.getD 1 0:Nat) 0) k.pos with
   |.error f=>.error f
   |.ok (s3,p)=>fI s3 (eJ 9 1 (p:Int) 0 0) k.pos
def sC(ks:List UInt8)(k:Tok)(R:Rs (LSt×List Nat)):Rs (LSt×Nat):=match R with
 |.error f=>.error f
 |.ok (s,xs)=>mK ks k s xs
theorem Fd{k a b}(O:k.sym≠zj)(h:eM (f+1) st u (.key2 k a b)=some r):∃R,fQ (λs e=>eM f s u e) st [a,b]=some R/\r=sC k.sym k R:=by
 rw[eM]at h;simp only[fQ];cases F:eM f st u a with
 |none=>rw[F]at h;cases h
 |some aq=>
  rw[F]at h;rcases aq with f1|⟨ar,x⟩
  ·cases h;exact⟨_,rfl,rfl⟩
  simp only[ju]at h⊢;cases h2:eM f ar u b with
  |none=>grind
  |some aT=>
   rw[h2]at h;rcases aT with f2|⟨aW,y⟩
   ·cases h;exact⟨_,rfl,rfl⟩
   cases h;refine⟨_,rfl,?_⟩;show qN aW k x y=mK k.sym k aW [x,y];grind[qN,mK]
theorem Fe{k a b c}(O:k.sym=zj)(h:eM (f+1) st u (.key3 k a b c)=some r):∃R,fQ (λs e=>eM f s u e) st [a,b,c]=some R/\r=sC k.sym k R:=by
 rw[eM]at h;simp only[fQ];cases F:eM f st u a with
 |none=>rw[F]at h;cases h
 |some aq=>
  rw[F]at h;rcases aq with f1|⟨ar,x⟩
  ·cases h;exact⟨_,rfl,rfl⟩
  simp only[ju]at h⊢;cases h2:eM f ar u b with
  |none=>grind
  |some aT=>
   rw[h2]at h;rcases aT with f2|⟨aW,y⟩
   ·cases h;exact⟨_,rfl,rfl⟩
   simp only at h⊢;cases h3:eM f aW u c with
   |none=>grind
   |some b8=>
    rw[h3]at h;rcases b8 with f3|⟨bJ,z⟩
    ·cases h;exact⟨_,rfl,rfl⟩
    cases h;refine⟨_,rfl,?_⟩;show ye bJ k x y z=mK k.sym k bJ [x,y,z];grind[ye,mK]
end
section
attribute[local go_sem] eE eD eC
variable{f P I Q cL g b4 b7:Nat}{u1 u2 u3 u4:Value}{bs:List Bc}{a5:Option Addr}{es:List Ex}
theorem aF.qba(h:Zp:=by
 generalize h2:ar.vs.length=N at a6 bk az bI;clear h2;go_upto_region 34 with fail;clear a6 bk bR ca;go_wp2_with fail;go_loopw [18,19] (λcT bX H=>∃(k:Nat) (s:LSt) (xs:List Nat),1<=k/\k<=2/\bX=h1 k/\xs.length=k/\V (fQ (λs e=>eM f s u e) st (es.take k)=some (.ok (s,xs)))/\V (FtI ax H P I u1 u2 u3 u4 bs s cT xs)/\V (Gw st s)/\V (∀i∈xs,i<s.vs.length)) (λ_ bX _=>2-(intOf bX).toNat)
 case atStart=>exact⟨1,ar,[a],yad,by decide,rfl,rfl,aZ,bw,aI,da⟩
 case round=>
  obtain⟨k,s,xs,bU,cc,rfl,(ao:V _),bz,bf,j,O⟩:=hrel;clear aZ bw aI da;by_cases hlt:k<2
  ·exact xal
  obtain rfl:k=2:=xaa;exact qgv):Zp:=h
theorem aF.qdv(h:Zp:=by
 exact qhg):Zp:=h
theorem aF.qdz(h:Zp:=by
 rcases bq with⟨c,p⟩|⟨ar,a⟩
 ·exact xcr
 exact qaz):Zp:=h
theorem aF.qfp(h:Zp:=by
 obtain⟨cg,a1,J,a3,a4,bp⟩:=aw.o bA (Kept.refl 0 0 bA);exact qgt):Zp:=h
theorem aF.qfx(h:Zp:=by
 rcases q with⟨c,p⟩|⟨bJ,Y⟩
 ·exact xcj
 obtain⟨G,b8,nn,au⟩:=bj.o bJ Y rfl;rw[ao.o]at b8
 obtain⟨d,n,rfl⟩:∃d n,Y=[d,n]:=by
  match Y,b8 with
  |[a,b],_=>exact⟨a,b,rfl⟩
 have ak:=(au d xac).1
 have aG:V (r=fI bJ (eJ 7 (eW bJ d) (d:Nat) (n:Nat) 0) aX):=by
  show _=_;rw[aC.o];unfold mK;rw[<-HQ.o];rfl
 exact qdu):Zp:=h
theorem aF.qgi(h:Zp:=by
 change Code.wp _ _ _ _ (W.alloc (.cells #[eK [109,97,120],h1 aX,eK C] 137));generalize W.alloc (.cells #[eK [109,97,120],h1 aX,eK C] 137)=ax at T HK⊢;exact qdy):Zp:=h
theorem aF.qgu(h:Zp:=by
 have al:V (∀H,Kept 0 0 bA H->Calls prog 115 #[hZ P,(eJ 7 (eW bJ d) (d:Nat) (n:Nat) 0).agg,h1 aX] H λe z=>(∃x:Int,e=.returned (h1 x))/\V (TrO W P I u1 u2 u3 u4 bs r e z)/\z.cell? ⟨a7,1,none⟩=some (h1 aX)/\z.cell? ⟨be,of,none⟩=some (h1 (d:Nat))/\z.cell? ⟨be,of+1,none⟩=some (h1 (n:Nat))):=λH aj=>yaj (mn (c9.o.keep aj) cV.o (eJ 7 (eW bJ d) (d:Nat) (n:Nat) 0) ds yah aX) (λe z t=>⟨t.ret,by
  show TrO W P I u1 u2 u3 u4 bs r e z
  rw[aG.o]
  exact TrO.after (cB.o.keep aj) t,c8.o H z aj t.chg⟩)
 clear aG cB c8 cV c9 ds G ag dv HK bE aD cg a1 J a3 a4 bp;generalize eW bJ d=l at aw al aT⊢;generalize bJ.vs.length=N at*;generalize bA.drewN nq=bD at am aT⊢;obtain⟨cg,a1,J,a3,a4,bp⟩:=aT.o;go_upto_region 49 with fail
 go_region_held3 (λB=>B.cell? ⟨a7,1,none⟩=some (h1 aX)/\B.cell? ⟨be,of,none⟩=some (h1 (d:Nat))/\B.cell? ⟨be,of+1,none⟩=some (h1 (n:Nat))) (go_keep)
  (first
   |(go_at_call 79;refine yaj (gG _ _ _ _ _ _) ?_;rintro e cn ⟨rfl,bY⟩;obtain⟨bl,aS,a9,bV,cj,cC⟩:=aw.o cn (am.o.trans ((eF bD).trans bY)))
   |(go_at_call 115;refine yaj (al.o _ (am.o.trans ((eF bD).trans bY))) ?_;rintro e cd ⟨⟨cU,rfl⟩,bm,b5,bN,cz⟩))
 all_goals (go_wp2_with fail;go_ret;exact bm.o)):Zp:=h
theorem aF.qgw(h:Zp:=by
 have aC:V (r=mK [109,97,120] ⟨[109,97,120],aX,C⟩ s xs):=by show _=_;rw[HR.o,bZ.o];rfl
 exact qhi):Zp:=h
theorem aF.qhe(h:Zp:=by
 obtain⟨r,aF⟩:∃r,r=sC [109,97,120] ⟨[109,97,120],aX,C⟩ R:=⟨_,rfl⟩
 exact qgh):Zp:=h
theorem aF.qhh(h:Zp:=by
 have aw:V (∀H,Kept 0 0 bA H->H.cell? ⟨a7,0,none⟩=some (eK [109,97,120])/\H.cell? ⟨a7,1,none⟩=some (h1 aX)/\H.cell? ⟨P,1,none⟩=some (h0 b0 bJ.vs.length cv)/\H.cell? ⟨b0,d*6+1,none⟩=some (h1 (eW bJ d))/\H.cell? ⟨be,of,none⟩=some (h1 (d:Nat))/\H.cell? ⟨be,of+1,none⟩=some (h1 (n:Nat))):=λH aj=>⟨(ag.o.keep aj).c0,(ag.o.keep aj).c1,(ab.keep aj).c1,(aj.cell (p:=⟨b0,d*6+1,none⟩) ck xaa).trans a6,(aj.cell (p:=⟨be,of,none⟩) ai xaa).trans (co 0 xac),(aj.cell (p:=⟨be,of+1,none⟩) ai xaa).trans (co 1 xac)⟩
 exact qfo):Zp:=h
open aF in
theorem Ff{W st u}(h:WS W P I u1 u2 u3 u4 bs st)(ad:Gd st)(aX C)(cA:es.length=2)(bO:ArgS f W P I u1 u2 u3 u4 bs st a5 Q cL u g b4 es)(R)(K:fQ (λs e=>eM f s u e) st es=some R):
  Calls prog 129 #[hZ P,.slice a5 Q cL,iT ⟨[109,97,120],aX,C⟩,h0 b4 2 b7] W (TrO W P I u1 u2 u3 u4 bs (sC [109,97,120] ⟨[109,97,120],aX,C⟩ R)):=by
 have T:V _:=gV W [109,97,120] aX C;have HK:V _:=eA 0 0 W (.cells #[eK [109,97,120],h1 aX,eK C] 137);exact qhd
theorem aG.qba(h:Zp:=by
 generalize h3:ar.vs.length=N at a6 bk az bI;clear h3;go_upto_region 34 with fail;clear a6 bk bR ca;go_wp2_with fail;go_loopw [18,19] (λcT bX H=>∃(k:Nat) (s:LSt) (xs:List Nat),1<=k/\k<=3/\bX=h1 k/\xs.length=k/\V (fQ (λs e=>eM f s u e) st (es.take k)=some (.ok (s,xs)))/\V (FtI ax H P I u1 u2 u3 u4 bs s cT xs)/\V (Gw st s)/\V (∀i∈xs,i<s.vs.length)) (λ_ bX _=>3-(intOf bX).toNat)
 case atStart=>exact⟨1,ar,[a],yad,by decide,rfl,rfl,aZ,bw,aI,da⟩
 case round=>
  obtain⟨k,s,xs,bU,cc,rfl,(ao:V _),bz,bf,j,O⟩:=hrel;clear aZ bw aI da;by_cases hlt:k<3
  ·exact xal
  obtain rfl:k=3:=xaa;exact qgv):Zp:=h
theorem aG.qdv(h:Zp:=by
 exact qhg):Zp:=h
theorem aG.qdz(h:Zp:=by
 rcases bq with⟨c,p⟩|⟨ar,a⟩
 ·exact xcr
 exact qaz):Zp:=h
theorem aG.qfx(h:Zp:=by
 rcases q with⟨c,p⟩|⟨bJ,Y⟩
 ·exact xcj
 obtain⟨G,b8,nn,au⟩:=bj.o bJ Y rfl;rw[ao.o]at b8
 obtain⟨d,n,U,rfl⟩:∃d n U,Y=[d,n,U]:=by
  match Y,b8 with
  |[a,b,c],_=>exact⟨a,b,c,rfl⟩
 have ak:=(au d xac).1
 have aG:V (r=fI bJ (eJ 8 (eW bJ d) (d:Nat) (n:Nat) (U:Nat)) aX):=by
  show _=_;rw[aC.o];unfold mK;rw[<-HQ.o];rfl
 exact qdu):Zp:=h
theorem aG.qgi(h:Zp:=by
 change Code.wp _ _ _ _ (W.alloc (.cells #[eK [115,101,108],h1 aX,eK C] 137));generalize W.alloc (.cells #[eK [115,101,108],h1 aX,eK C] 137)=ax at T HK⊢;exact qdy):Zp:=h
theorem aG.qgu(h:Zp:=by
 have al:V (∀H,Kept 0 0 bA H->Calls prog 115 #[hZ P,(eJ 8 (eW bJ d) (d:Nat) (n:Nat) (U:Nat)).agg,h1 aX] H λe z=>(∃x:Int,e=.returned (h1 x))/\V (TrO W P I u1 u2 u3 u4 bs r e z)/\z.cell? ⟨a7,1,none⟩=some (h1 aX)/\z.cell? ⟨be,of,none⟩=some (h1 (d:Nat))/\z.cell? ⟨be,of+1,none⟩=some (h1 (n:Nat))/\z.cell? ⟨be,of+2,none⟩=some (h1 (U:Nat))):=λH aj=>yaj (mn (c9.o.keep aj) cV.o (eJ 8 (eW bJ d) (d:Nat) (n:Nat) (U:Nat)) ds yah aX) (λe z t=>⟨t.ret,by
  show TrO W P I u1 u2 u3 u4 bs r e z
  rw[aG.o]
  exact TrO.after (cB.o.keep aj) t,c8.o H z aj t.chg⟩)
 clear aG cB c8 cV c9 ds G ag dv HK bE aD cg a1 J a3 a4 bp cu;generalize eW bJ d=l at aw al aT⊢;generalize bJ.vs.length=N at*;generalize bA.drewN nq=bD at am aT⊢;obtain⟨cg,a1,J,a3,a4,bp,cu⟩:=aT.o;go_upto_region 47 with fail
 go_region_held3 (λB=>B.cell? ⟨a7,1,none⟩=some (h1 aX)/\B.cell? ⟨be,of,none⟩=some (h1 (d:Nat))/\B.cell? ⟨be,of+1,none⟩=some (h1 (n:Nat))/\B.cell? ⟨be,of+2,none⟩=some (h1 (U:Nat))) (go_keep)
  (first
   |(go_at_call 79;refine yaj (gG _ _ _ _ _ _) ?_;rintro e cn ⟨rfl,bY⟩;obtain⟨bl,aS,a9,bV,cj,cC,dT⟩:=aw.o cn (am.o.trans ((eF bD).trans bY)))
   |(go_at_call 115;refine yaj (al.o _ (am.o.trans ((eF bD).trans bY))) ?_;rintro e cd ⟨⟨cU,rfl⟩,bm,b5,bN,cz,bB⟩))
 all_goals (go_wp2_with fail;go_ret;exact bm.o)):Zp:=h
theorem aG.qgw(h:Zp:=by
 have aC:V (r=mK [115,101,108] ⟨[115,101,108],aX,C⟩ s xs):=by show _=_;rw[HR.o,bZ.o];rfl
 exact qhi):Zp:=h
theorem aG.qhe(h:Zp:=by
 obtain⟨r,aF⟩:∃r,r=sC [115,101,108] ⟨[115,101,108],aX,C⟩ R:=⟨_,rfl⟩
 exact qgh):Zp:=h
theorem aG.qhh(h:Zp:=by
 have aw:V (∀H,Kept 0 0 bA H->H.cell? ⟨a7,0,none⟩=some (eK [115,101,108])/\H.cell? ⟨a7,1,none⟩=some (h1 aX)/\H.cell? ⟨P,1,none⟩=some (h0 b0 bJ.vs.length cv)/\H.cell? ⟨b0,d*6+1,none⟩=some (h1 (eW bJ d))/\H.cell? ⟨be,of,none⟩=some (h1 (d:Nat))/\H.cell? ⟨be,of+1,none⟩=some (h1 (n:Nat))/\H.cell? ⟨be,of+2,none⟩=some (h1 (U:Nat))):=λH aj=>⟨(ag.o.keep aj).c0,(ag.o.keep aj).c1,(ab.keep aj).c1,(aj.cell (p:=⟨b0,d*6+1,none⟩) ck xaa).trans a6,(aj.cell (p:=⟨be,of,none⟩) ai xaa).trans (co 0 xac),(aj.cell (p:=⟨be,of+1,none⟩) ai xaa).trans (co 1 xac),(aj.cell (p:=⟨be,of+2,none⟩) ai xaa).trans (co 2 xac)⟩
 have c8:V (∀H z,Kept 0 0 bA H->Chg (Mst P aJ (h0 b0 bJ.vs.length cv) y3 y4) H z->z.cell? ⟨a7,1,none⟩=some (h1 aX)/\z.cell? ⟨be,of,none⟩=some (h1 (d:Nat))/\z.cell? ⟨be,of+1,none⟩=some (h1 (n:Nat))/\z.cell? ⟨be,of+2,none⟩=some (h1 (U:Nat))):=λH z aj aK=>by
  obtain⟨aP,ay,_,_,a0,cf,b6⟩:=aw.o H aj
  have X:=(ag.o.keep aj).lt
  have c6:=yak ai aj.size
  exact⟨(aK.cell (p:=⟨a7,1,none⟩) X bi).trans ay,(aK.cell (p:=⟨be,of,none⟩) c6 a2).trans a0,(aK.cell (p:=⟨be,of+1,none⟩) c6 a2).trans cf,(aK.cell (p:=⟨be,of+2,none⟩) c6 a2).trans b6⟩
 have bI:=G.g.n;have ds:=G.g.lenB ak;have cV:V _:=G.g;have c9:V _:=ab;have dv:V _:=bi;obtain⟨cg,a1,J,a3,a4,bp,cu⟩:=aw.o bA (Kept.refl 0 0 bA);exact qgt):Zp:=h
open aG in
theorem Fg{W st u}(h:WS W P I u1 u2 u3 u4 bs st)(ad:Gd st)(aX C)(cA:es.length=3)(bO:ArgS f W P I u1 u2 u3 u4 bs st a5 Q cL u g b4 es)(R)(K:fQ (λs e=>eM f s u e) st es=some R):
  Calls prog 129 #[hZ P,.slice a5 Q cL,iT ⟨[115,101,108],aX,C⟩,h0 b4 3 b7] W (TrO W P I u1 u2 u3 u4 bs (sC [115,101,108] ⟨[115,101,108],aX,C⟩ R)):=by
 have T:V _:=gV W [115,101,108] aX C;have HK:V _:=eA 0 0 W (.cells #[eK [115,101,108],h1 aX,eK C] 137);exact qhd
