import Derived.Test.YtbhmhdllnfkjhaaGreatP27
namespace Go.Proofs.Z
variable{Zp:Prop}
open Tryz Go.RowKit Flt
set_option maxRecDepth 1000000
set_option maxHeartbeats 0
section
attribute[local go_sem] eG eE eD
variable{P R aS cL bl ab cp q o bT c0:Nat}{u1 u2 u3 u4:Value}{bs:List Bc}{st:LSt}{a6:Option Addr}
def v8(op:Int)(one:Bool)(p:Nat)(r:Rs (LSt×Nat)):Rs (LSt×Nat):=match r with|.error f=>.error f|.ok (s,a)=>fV s (eL op (if one then 1 else fe s a) (a:Int) 0 0) p
theorem bT.qca(h:Zp:=by
 have bC:V (∀W',Kept 0 0 ag W'->Calls prog 121 #[hB P,(eL 13 (fe s a) (a:Int) 0 0).agg,hD K] W' λe aB=>(∃x:Int,e=.returned (hD x))/\V (TrO W P R u1 u2 u3 u4 bs r e aB)):=λW' ai=>yaj (mB (v.keep ai) w.g (eL 13 (fe s a) (a:Int) 0 0) (w.g.lenB F) yah K) (λe aB t=>⟨t.ret,by
  show TrO W P R u1 u2 u3 u4 bs r e aB
  rw[HR.o]
  exact TrO.back HK.o (TrO.after (a0.keep ai) t)⟩)
 exact qfm):Zp:=h
theorem bT.qfn(h:Zp:=by
 go_upto_region 11 with fail;exact xdj):Zp:=h
open bT in
theorem Ep{W}(h:WS W P R u1 u2 u3 u4 bs st)(K z)(b4:1<=ab)(b0:bl<W.heap.size)(aZ:W.cell? ⟨bl,0,none⟩=some (.slice (some ⟨q,o,none⟩) bT c0))(ay)(bv:RsG st ay)
  (bc:∀W',Kept 0 0 W W'->Calls prog 118 #[hB P,.slice a6 aS cL,.slice (some ⟨q,o,none⟩) bT c0] W' (TrO W' P R u1 u2 u3 u4 bs ay)):
  Calls prog 148 #[hB P,.slice a6 aS cL,jc ⟨[101,120,112],K,z⟩,hC bl ab cp] W (TrO W P R u1 u2 u3 u4 bs (v8 13 false K ay)):=by
 have aA:V _:=iq W [101,120,112] K z;have HK:V _:=ez 0 0 W (.cells #[eN [101,120,112],hD K,eN z] 92);have aI:V _:=h.far;have aT:=(HK.o.cell (p:=⟨bl,0,none⟩) b0 xaa).trans aZ;have i:V _:=bc;have aX:V _:=bv;obtain⟨r,av⟩:∃r,r=v8 13 false K ay:=⟨_,rfl⟩
 rw[<-av];have HR:V _:=av;clear av h bv bc aZ;unfold jc;simp only;go_enter func148,ntmps148;go_upto_region 2 with fail;change Code.wp _ _ _ _ (W.alloc (.cells #[eN [101,120,112],hD K,eN z] 92));generalize W.alloc (.cells #[eN [101,120,112],hD K,eN z] 92)=az at aA HK aT⊢;generalize W.heap.size=aR at aA aI⊢;have aj:V _:=i.o az HK.o;have bH:=aA.o.c0;clear i;rcases ay with⟨c,p⟩|⟨s,a⟩
 ·exact xdu
 exact qbz
theorem bU.qca(h:Zp:=by
 have bC:V (∀W',Kept 0 0 _ W'->Calls _ _ _ _ λe aB=>(∃x:Int,e=.returned _)/\V (TrO W P R _ _ _ _ _ r e _)):=λW' ai=>yaj (mB (v.keep ai) w.g (eL 9 1 _ 0 0) ⟨by show(1:Int)<=1;decide,by show(1:Int)<=1000;decide⟩ yah _) (λe aB t=>⟨t.ret,by
  show TrO W P R u1 u2 u3 u4 bs r e aB
  rw[HR.o]
  exact TrO.back HK.o (TrO.after (a0.keep ai) t)⟩)
 exact qfm):Zp:=h
theorem bU.qfn(h:Zp:=by
 go_upto_region 13 with fail
 go_region_with (first
  |(go_at_call 40;refine yaj (gO _ _ _ _ _ _) ?_;rintro e a7 ⟨rfl,aF⟩;have C:=(y.o.keep ((eF _).trans aF)).c1)
  |(go_at_call 121;refine yaj (bC.o _ ((eF _).trans aF)) ?_;rintro e bj ⟨⟨x,rfl⟩,bh⟩))
 all_goals (go_wp2_with fail;go_ret;exact bh.o)):Zp:=h
open bU in
theorem Er{W}(h:WS W P R u1 u2 u3 u4 bs st)(K z)(b4:1<=ab)(b0:bl<W.heap.size)(aZ:W.cell? ⟨bl,0,none⟩=some (.slice (some ⟨q,o,none⟩) bT c0))(ay)(bv:RsG st ay)
  (bc:∀W',Kept 0 0 W W'->Calls prog 118 #[hB P,.slice a6 aS cL,.slice (some ⟨q,o,none⟩) bT c0] W' (TrO W' P R u1 u2 u3 u4 bs ay)):
  Calls prog 148 #[hB P,.slice a6 aS cL,jc ⟨[115,117,109],K,z⟩,hC bl ab cp] W (TrO W P R u1 u2 u3 u4 bs (v8 9 true K ay)):=by
 have aA:V _:=iq W [115,117,109] K z;have HK:V _:=ez 0 0 W (.cells #[eN [115,117,109],hD K,eN z] 92);have aI:V _:=h.far;have aT:=(HK.o.cell b0 xaa).trans aZ;have i:V _:=bc;have aX:V _:=bv;obtain⟨r,av⟩:∃r,r=v8 9 true K ay:=⟨_,rfl⟩
 rw[<-av];have HR:V _:=av;clear av h bv bc aZ;unfold jc;simp only;go_enter func148,ntmps148;go_upto_region 2 with fail;change Code.wp _ _ _ _ (W.alloc (.cells _ 92));generalize W.alloc _=az at aA HK aT⊢;generalize W.heap.size=aR at aA aI⊢;have aj:V _:=i.o _ HK.o;have bH:=aA.o.c0;clear i;rcases ay with⟨c,p⟩|⟨s,a⟩
 ·exact xdu
 exact qbz
def KA(r1 r2:Rs (LSt×Nat)):Rs (LSt×Nat):=match r1 with|.error f=>.error f|.ok _=>r2
theorem uA{G}(fs:G=[102,105,108,108]\/G=[112,105,99,107]\/G=[112,117,116]){W}(h:WS W P R u1 u2 u3 u4 bs st)(K z)(b4:1<=ab)(b0:bl<W.heap.size)(aZ:W.cell? ⟨bl,0,none⟩=some (.slice (some ⟨q,o,none⟩) bT c0))(ay aW)(bv:RsG st ay)
  (bc:∀W',Kept 0 0 W W'->Calls prog 118 #[hB P,.slice a6 aS cL,.slice (some ⟨q,o,none⟩) bT c0] W' (TrO W' P R u1 u2 u3 u4 bs ay))
  (bZ:∀s a,ay=.ok (s,a)->∀W' a9 ba be bi,WS W' P R a9 ba be bi bs s->Mv (Mst P u1 u2 u3 u4) W (Mst P a9 ba be bi) W'->Calls prog 158 #[hB P,jc ⟨G,K,z⟩,hD a,hC bl ab cp] W' (TrO W' P R a9 ba be bi bs aW)):
  Calls prog 148 #[hB P,.slice a6 aS cL,jc ⟨G,K,z⟩,hC bl ab cp] W (TrO W P R u1 u2 u3 u4 bs (KA ay aW)):=by
 have aA:V _:=iq W G K z;have HK:V _:=ez 0 0 W (.cells #[eN G,hD K,eN z] 92);have aI:V _:=h.far;have aT:=(HK.o.cell b0 xaa).trans aZ;have i:V _:=bc;have g:V _:=bZ;have aX:V _:=bv;obtain⟨r,av⟩:∃r,r=KA ay aW:=⟨_,rfl⟩
 rw[<-av];have HR:V _:=av;clear av h bv bc aZ bZ;unfold jc at g⊢;simp only at g⊢;obtain⟨az,Q⟩:∃az,V (W.alloc (.cells #[eN G,hD K,eN z] 92)=az):=⟨_,rfl⟩
 rw[Q.o]at aA HK aT;rcases fs with rfl|rfl|rfl
 all_goals
  go_enter func148,ntmps148
  go_upto_region 2 with fail
  change Code.wp _ _ _ _ (W.alloc (.cells _ 92))
  rw[Q.o]
  clear Q
  generalize W.heap.size=aR at aA aI⊢
  have aj:V _:=i.o _ HK.o
  have bH:=aA.o.c0
  clear i
  rcases ay with⟨c,p⟩|⟨s,a⟩
  ·go_wp2_with (go_at_call 118;refine yaj aj.o ?_;rintro e ag ⟨rfl,bh⟩)
   go_ret
   rw[HR.o]
   exact TrO.back HK.o ⟨rfl,bh⟩
  ·obtain⟨w,F⟩:=aX.o s a rfl
   have ed:¬((a:Int)<0):=xaa
   go_upto_region 7 with (go_at_call 118;refine yaj aj.o ?_;rintro e ag ⟨rfl,a9,ba,be,bi,v,a0⟩)
   have y:V _:=aA.o.keepC a0.chg aI.o
   obtain⟨bp,cv,e2,bQ,bb⟩:=v.lenc F
   have b6:=v.c1
   have aa:V _:=(Mv.of HK.o).trans a0
   have j:V _:=g.o s a rfl _ _ _ _ _ v aa.o
   have f:V _:=yaj j.o (λe aB t=>(⟨TrO.ret t,by
    show TrO W P R u1 u2 u3 u4 bs r e aB
    rw[HR.o]
    exact TrO.after aa.o t⟩:(∃x:Int,e=.returned _)/\V (TrO W P R _ _ _ _ _ r e _)))
   subst e2
   have bu:=y.o.c0
   have d1:=y.o.c1
   have d2:=y.o.c2
   have bw:=w.g.n
   generalize fe s a=l at bb
   generalize s.vs.length=aH at*
   clear v a0 aj aA HR aX w bH aT g j aa
   go_wp2_with (go_at_call 158;refine yaj f.o ?_;rintro e bj ⟨⟨x,rfl⟩,bh⟩)
   go_ret
   exact bh.o
theorem lB{W u g off m cap ts}(H:TrIn W P R u1 u2 u3 u4 bs st a6 aS u g off m cap ts){e}(aK:Pr 0 [e] ts)(B:((ts.getD 0 hJ).sym==[45])=false)(h3:((ts.getD 0 hJ).sym==[105,110,116])=false)(a0:((ts.getD 0 hJ).sym==[100,101,99])=false)(bz:((ts.getD 0 hJ).sym==[40])=false)(bP:((ts.getD 0 hJ).sym==[110,97,109,101])=false)(J:4<=m)(us)(aH:us=(ts.drop 2).take (m-1-2))(cf:(spQ us (m-3)).cur≠[])(r)
  (bc:∀W' bu bX,Kept 0 0 W W'->SgR W' g W.heap.size bu (fZ us)->Calls prog 148 #[hB P,.slice a6 aS cL,jc (ts.getD 0 hJ),.slice bu (fZ us).length bX] W' (TrO W' P R u1 u2 u3 u4 bs r)):
  Calls prog 118 #[hB P,.slice a6 aS cL,.slice (some ⟨g,off,none⟩) m cap] W (TrO W P R u1 u2 u3 u4 bs r):=by
 have z:V _:=fN W g _ m cap _ H.tk H.m5 [43] [45];have ad:V _:=fN W g _ m cap _ H.tk H.m5 [42] [47];rw[mK aK]at z ad;have c0:=H.tk.c0 0 xaa;have c1:=H.tk.c1 0 xaa;have c2:=H.tk.c2 0 xaa;have cJ:=H.m5;have aa:=H.mc
 have c:V (∀W',Kept 0 0 W W'->_):=λW' ai=>Ck _ g (off+6) _ (cap-2) _ (by
  have t:=(H.tk.keep ai).in_ 2 _ _ aH xaa
  rw[show m-1-2=m-3 by omega]at t
  exact t) xaa xaa xaa cf
 have i:V _:=bc;generalize ts.getD 0 _=t at*;clear H aK bc cf aH;obtain⟨aW,X,bF⟩:=t;simp only at B h3 a0 bz bP;simp only[Nat.zero_mul,Nat.add_zero]at c0 c1 c2;go_enter func118,ntmps118;go_upto_region 3 with (go_at_call 142;refine yaj z.o ?_;rintro e ag ⟨rfl,an⟩;obtain rfl:=an.symm);go_upto_region 15 with (go_at_call 142;refine yaj ad.o ?_;rintro e ag ⟨rfl,an⟩;obtain rfl:=an.symm);go_upto_region 16 with fail;change Code.wp _ _ _ _ (W.alloc (.cells #[eN _,.int _ X,eN _] 92));have aA:V _:=iq W aW X bF;have HK:V _:=ez 0 0 W (.cells #[eN aW,hD X,eN bF] 92);generalize W.alloc _=az at aA HK⊢;have b7:V _:=HK.o.size;generalize ch:W.heap.size=aR at aA⊢;have bn:V _:=ch;clear ch;obtain⟨bH,O,ax⟩:az.cell? _=some _/\az.cell? _=some _/\az.cell? _=some _:=⟨aA.o.c0,aA.o.c1,aA.o.c2⟩
 have aU:V _:=c.o _ HK.o;clear c0 c1 c2 z ad c;generalize (fZ _).length=h at aU i⊢;go_upto_region 29 with (go_at_call 146;refine yaj aU.o ?_;rintro e ag ⟨bu,bX,rfl,f,ah⟩);have y:V _:=aA.o.keep ah
 have am:V (SgR _ g _ _ _):=⟨λcG=>by
  obtain⟨bl,aL,aJ,bS⟩:=f.at_ cG
  exact⟨_,aL,yao b7.o aJ,bS⟩⟩
 have aj:V _:=yaj (i.o _ _ bX (HK.o.trans ah) am.o) (λe aB t=>(⟨TrO.ret t,TrO.back (HK.o.trans ah) t⟩:(∃x:Int,e=.returned _)/\V (TrO W P R _ _ _ _ _ r e _)));unfold jc at aj;simp only at aj;clear bH O ax aA f i aU am;have bH:=y.o.c0;have O:=y.o.c1;have ax:=y.o.c2;clear y ah;go_wp2_with (go_at_call 148;refine yaj aj.o ?_;rintro e bj ⟨⟨x,rfl⟩,bh⟩);go_ret;exact bh.o
end
section
variable{f:Nat}{u:Loc}{st:LSt}{k n:Tok}{a:Ex}{r:Rs (LSt×Nat)}
theorem Bo(h:eO (f+1) st u (.key1 k a)=some r):∃ay,eO f st u a=some ay/\r=(if k.sym=yY then v8 13 false k.pos ay else v8 9 true k.pos ay):=by
 rw[eO]at h;cases B:eO f st u a with
 |none=>rw[B]at h;cases h
 |some ay=>
  rw[B]at h;rcases ay with⟨c,p⟩|⟨ao,x⟩
  ·cases h;refine⟨_,rfl,?_⟩;split<;>rfl
  cases h;exact⟨_,rfl,rfl⟩
theorem Hz{ts}(h:cm 0 ts=some 0)(n)(hn:ts.length<=n):(spQ ts n).cur=ts:=by
 simp_all[spQ,List.take_of_length_le,qP]
section
variable{f:Nat}{W:World}{P R:Nat}{u1 u2 u3 u4:Value}{bs:List Bc}{st:LSt}{a6:Option Addr}{aS cL:Nat}{u:Loc}{g off m cap:Nat}{ts:List Tok}{a:Ex}{r:Rs (LSt×Nat)}
theorem Es{k l q}(Q:TrC f)(H:TrIn W P R u1 u2 u3 u4 bs st a6 aS u g off m cap (k::l::(ts++[q])))(N:k.sym=yY\/k.sym=FV)(ab:l.sym=[40])(F:Pr 2 [a] ts)(am:q.sym=[41])(h:eO (f+1) st u (.key1 k a)=some r):
  Calls prog 118 #[hB P,.slice a6 aS cL,.slice (some ⟨g,off,none⟩) m cap] W (TrO W P R u1 u2 u3 u4 bs r):=by
 obtain⟨ay,e1,rfl⟩:=Bo h;have aq:=H.tk.len;simp only[yaq,yal,List.length_nil]at aq;have aK:=jk F;have y:=jN F yad;have aG:=H.mc;have cf:ts≠[]:=λc=>by grind
 have b4:=jz F (λt ht=>H.ti t (by simp[ht])) a xac;have aH:ts=((k::l::(ts++[q])).drop 2).take (m-1-2):=by grind
 have aP:∀x:List _,x≠yY->x≠FV->(k.sym==x)=false:=λx B J=>by
  grind
 refine lB H (Pr.key1 N ab F am) (aP _ xab xab) (aP _ xab xab) (aP _ xab xab) (aP _ xab xab) (aP _ xab xab) xaa _ aH (by rw[Hz y _ xaa];exact cf) _ (λW' bu bX ai aZ=>?_);rw[MX cf y]at aZ⊢;obtain⟨bl,rfl,_,b0,bP⟩:=aZ.at_ xac;obtain⟨o,c,c1,c2,c3⟩:=bP 0 xac
 have bc:∀aB,Kept 0 0 _ aB->_:=λaB ah=>
  Q _ P R _ _ _ _ _ _ _ _ cL _ g o ts.length c ts ⟨H.ws.keep (ai.trans ah),H.gd,H.nm,H.lc.keep (ai.trans ah),H.ln,H.lo,c2.keep ah,H.tg,hM H.m5,c3,λt ht=>H.ti t (by simp[ht]),λt ht=>H.tn t (by simp[ht])⟩ 2 a F yad _ e1
 have bv:=gz f _ _ a H.gd H.nm H.lo b4 _ e1;obtain⟨ar,K,z⟩:=k;rcases N with N|N
 ·simp only at N;subst N;rw[hG rfl];exact Ep (H.ws.keep ai) _ _ xac b0 c1 _ bv bc
 simp only at N;subst N;rw[hF (show ¬(FV=yY) by decide)];exact Er (H.ws.keep ai) _ _ xac b0 c1 _ bv bc
end
theorem WS.far2{W P R u1 u2 u3 u4 bs}(h:WS W P R u1 u2 u3 u4 bs st){b}(hb:W.heap.size<=b):¬Mst P u1 u2 u3 u4 b:=by
 exact xfm
def H4(k n:Tok)(r1:Rs (LSt×Nat)):Rs (LSt×Nat):=match r1 with|.error f=>.error f|.ok (s,a)=>my s k a n
theorem Bp(h:eO (f+1) st u (.keyN k a n)=some r):∃ay,eO f st u a=some ay/\r=KA ay (H4 k n ay):=by
 exact xcy
theorem pF{us X y}(ae:us≠[])(h:fZ us=X++[y])(n)(hn:us.length<=n):(spQ us n).cur=y:=by
 simp_all[fZ,spQ,List.take_of_length_le]
section
variable{f:Nat}{W:World}{P R:Nat}{u1 u2 u3 u4:Value}{bs:List Bc}{st:LSt}{a6:Option Addr}{aS cL:Nat}{u:Loc}{g off m cap:Nat}{ts:List Tok}{a:Ex}{r:Rs (LSt×Nat)}
theorem bA.qbo(h:Zp:=by
 have bZ:∀s x,ay=.ok (s,x)->∀aB a9 ba be bi,WS aB P R a9 ba be bi bs s->Mv (Mst P u1 u2 u3 u4) W' (Mst P a9 ba be bi) aB->Calls prog 158 #[hB P,jc k,hD x,hC bl 2 bX] aB (TrO aB P R a9 ba be bi bs (H4 k n ay)):=λs x e aB a9 ba be bi an C=>by
  obtain⟨w,ak⟩:=bv s x e
  subst e
  exact G9 an w.g k N x ak n a5 yad ⟨yak b0 C.chg.size,(C.chg.cell (p:=⟨bl,1,none⟩) b0 v).trans af,c2'.keepC C.chg H.tg⟩
 obtain⟨ar,K,z⟩:=k;rcases N with N|N
 ·simp only at N;subst N;exact uA (.inl rfl) (H.ws.keep ai) K z xac b0 c1 ay _ bv bc bZ
 simp only at N;subst N;exact uA (.inr (.inl rfl)) (H.ws.keep ai) K z xac b0 c1 ay _ bv bc bZ):Zp:=h
theorem bA.qed(h:Zp:=by
 exact qbn):Zp:=h
theorem bA.qgb(h:Zp:=by
 have a5:=H.ti n xac hn;exact qho):Zp:=h
theorem bA.qhp(h:Zp:=by
 have aP:∀x:List UInt8,x≠vB->x≠qO->(k.sym==x)=false:=λx B J=>by
  rw[beq_eq_false_iff_ne]
  rintro rfl
  exact N.elim B J
 refine lB H (Pr.keyN N ab F ad hn am) (aP _ xab xab) (aP _ xab xab) (aP _ xab xab) (aP _ xab xab) (aP _ xab xab) xaa (ts++c::[n]) aH (by rw[pF (X:=[ts]) (y:=[n]) xac al _ yag];simp) _ (λW' bu bX ai aZ=>?_);exact qec):Zp:=h
open bA in
theorem Et{k l c n q}(Q:TrC f)(H:TrIn W P R u1 u2 u3 u4 bs st a6 aS u g off m cap (k::l::(ts++[c,n,q])))(N:k.sym=vB\/k.sym=qO)(ab:l.sym=[40])(F:Pr 2 [a] ts)(ad:c.sym=[44])(hn:n.sym=iG)(am:q.sym=[41])(h:eO (f+1) st u (.keyN k a n)=some r):
  Calls prog 118 #[hB P,.slice a6 aS cL,.slice (some ⟨g,off,none⟩) m cap] W (TrO W P R u1 u2 u3 u4 bs r):=by
 obtain⟨ay,e1,rfl⟩:=Bp h;exact qga
end
def Cx(k i n:Tok)(r1:Rs (LSt×Nat)):Rs (LSt×Nat):=match r1 with|.error f=>.error f|.ok (s,a)=>mz s k a i n
theorem Eu{i}(h:eO (f+1) st u (.put k a i n)=some r):∃ay,eO f st u a=some ay/\r=KA ay (Cx k i n ay):=by
 exact xcy
section
variable{f:Nat}{W:World}{P R:Nat}{u1 u2 u3 u4:Value}{bs:List Bc}{st:LSt}{a6:Option Addr}{aS cL:Nat}{u:Loc}{g off m cap:Nat}{ts:List Tok}{a:Ex}{r:Rs (LSt×Nat)}
theorem bB.qbo(h:Zp:=by
 have bZ:∀s x,ay=.ok (s,x)->∀aB a9 ba be bi,WS aB P R a9 ba be bi bs s->Mv (Mst P u1 u2 u3 u4) W' (Mst P a9 ba be bi) aB->Calls prog 158 #[hB P,jc k,hD x,hC bl 3 bX] aB (TrO aB P R a9 ba be bi bs (Cx k i n ay)):=λs x e aB a9 ba be bi an C=>by
  obtain⟨w,ak⟩:=bv s x e
  subst e
  exact Hp an w.g k N x ak i I yad ⟨yak b0 C.chg.size,(C.chg.cell (p:=⟨bl,1,none⟩) b0 v).trans af,c2'.keepC C.chg H.tg⟩ n a5 ⟨yak b0 C.chg.size,(C.chg.cell (p:=⟨bl,2,none⟩) b0 v).trans p,J.keepC C.chg H.tg⟩
 obtain⟨ar,K,z⟩:=k;simp only at N;subst N;exact uA (.inr (.inr rfl)) (H.ws.keep ai) K z xac b0 c1 ay _ bv bc bZ):Zp:=h
theorem bB.qed(h:Zp:=by
 obtain⟨bO,S,p,J,Z⟩:=bP 2 xac;exact qbn):Zp:=h
theorem bB.qgb(h:Zp:=by
 have a5:=H.ti n xac hn;have I:=H.ti i xac hi;have O:=tV (by rw[hi];decide) (by rw[hi];decide) (by rw[hi];decide);have cT:=tV (by rw[hn];decide) (by rw[hn];decide) (by rw[hn];decide);have al:=AX y ad O G cT
 have aH:ts++c::([i]++d::[n])=((k::l::(ts++[c,i,d,n,q])).drop 2).take (m-1-2):=by
  rw[List.drop_succ_cons,List.drop_succ_cons,List.drop_zero,show ts++[c,i,d,n,q]=(ts++c::([i]++d::[n]))++[q] by simp,List.take_append_of_le_length yag,yap yag]
 have aP:∀x:List UInt8,x≠Du->(k.sym==x)=false:=λx B=>by
  rw[beq_eq_false_iff_ne]
  rintro rfl
  exact B N
 refine lB H (Pr.put N ab F ad hi G hn am) (aP _ xab) (aP _ xab) (aP _ xab) (aP _ xab) (aP _ xab) xaa (ts++c::([i]++d::[n])) aH (by rw[pF (X:=[ts,[i]]) (y:=[n]) xac al _ yag];simp) _ (λW' bu bX ai aZ=>?_);exact qec):Zp:=h
open bB in
theorem H7{k l c i d n q}(Q:TrC f)(H:TrIn W P R u1 u2 u3 u4 bs st a6 aS u g off m cap (k::l::(ts++[c,i,d,n,q])))(N:k.sym=Du)(ab:l.sym=[40])(F:Pr 2 [a] ts)(ad:c.sym=[44])(hi:i.sym=iG)(G:d.sym=[44])(hn:n.sym=iG)(am:q.sym=[41])(h:eO (f+1) st u (.put k a i n)=some r):
  Calls prog 118 #[hB P,.slice a6 aS cL,.slice (some ⟨g,off,none⟩) m cap] W (TrO W P R u1 u2 u3 u4 bs r):=by
 obtain⟨ay,e1,rfl⟩:=Eu h;exact qga
end
end
section
attribute[local go_sem] eG eE eD
variable{P R aS cL g off m cap:Nat}{u1 u2 u3 u4:Value}{bs:List Bc}{st:LSt}{a6:Option Addr}{u:Loc}{ts:List Tok}
theorem TrIn.seg{W}(h:TrIn W P R u1 u2 u3 u4 bs st a6 aS u g off m cap ts){W' a9 ba be bi O}(an:WS W' P R a9 ba be bi bs O)(w:Gw st O)(k:Mv (Mst P u1 u2 u3 u4) W (Mst P a9 ba be bi) W'){o n c us}(K:TkA W' g o n us)(hn:n<=m)(ad:n<=c)(aH:∀t∈us,t∈ts):TrIn W' P R a9 ba be bi bs O a6 aS u g o n c us where
 ws:=an
 gd:=w.g
 nm:=h.nm.gw w
 lc:=h.lc.mv k
 ln:=h.ln
 lo:=h.lo.le w.n
 tk:=K
 tg:=λc=>(k.new g c).elim h.tg (λc=>hM h.tk.lt)
 m5:=hM h.m5
 mc:=ad
 ti:=λt ht=>h.ti t (aH t ht)
 tn:=λt ht=>h.tn t (aH t ht)
theorem B.qaj(h:Zp:=by
 change Code.wp _ _ _ _ (W.alloc (.cells #[eN [105,110,116],hD X,eN bF] 92));have aA:V _:=iq W [105,110,116] X bF;have HK:V _:=ez 0 0 W (.cells #[eN [105,110,116],hD X,eN bF] 92);generalize W.alloc (.cells #[eN [105,110,116],hD X,eN bF] 92)=az at aA HK⊢;exact xaz):Zp:=h
open B in
theorem Ev{W}(H:TrIn W P R u1 u2 u3 u4 bs st a6 aS u g off m cap ts){e}(aK:Pr 0 [e] ts)(ae:(ts.getD 0 hJ).sym=[105,110,116])(J:1<=m)(bw:kP (ts.getD 0 hJ).text):
  Calls prog 118 #[hB P,.slice a6 aS cL,.slice (some ⟨g,off,none⟩) m cap] W (TrO W P R u1 u2 u3 u4 bs (fV st ⟨1,1,0,0,0,oQ (ts.getD 0 hJ).text⟩ (ts.getD 0 hJ).pos)):=by
 exact qai
theorem C.qaj(h:Zp:=by
 change Code.wp _ _ _ _ (W.alloc (.cells #[eN [100,101,99],hD X,eN bF] 92));have aA:V _:=iq W [100,101,99] X bF;have HK:V _:=ez 0 0 W (.cells #[eN [100,101,99],hD X,eN bF] 92);generalize W.alloc (.cells #[eN [100,101,99],hD X,eN bF] 92)=az at aA HK⊢;exact xaz):Zp:=h
open C in
theorem Ew{W}(H:TrIn W P R u1 u2 u3 u4 bs st a6 aS u g off m cap ts){e}(aK:Pr 0 [e] ts)(ae:(ts.getD 0 hJ).sym=[100,101,99])(J:1<=m)(bw:kP (ts.getD 0 hJ).text):
  Calls prog 118 #[hB P,.slice a6 aS cL,.slice (some ⟨g,off,none⟩) m cap] W (TrO W P R u1 u2 u3 u4 bs (fV st ⟨1,1,0,0,0,oQ (ts.getD 0 hJ).text⟩ (ts.getD 0 hJ).pos)):=by
 exact qai
section
variable{f:Nat}{W:World}{P R:Nat}{u1 u2 u3 u4:Value}{bs:List Bc}{st:LSt}{a6:Option Addr}{aS cL:Nat}{u:Loc}{g off m cap:Nat}{t:Tok}{r:Rs (LSt×Nat)}
theorem H8(H:TrIn W P R u1 u2 u3 u4 bs st a6 aS u g off m cap [t])(ht:t.sym=iG\/t.sym=li)(h:eO (f+1) st u (.num t)=some r):
  Calls prog 118 #[hB P,.slice a6 aS cL,.slice (some ⟨g,off,none⟩) m cap] W (TrO W P R u1 u2 u3 u4 bs r):=by
 rw[eO]at h;have e:=hH h;have bw:=H.tn t xac ht;have aq:=H.tk.len;have bc:[t].getD 0 hJ=t:=rfl;have B:1<=m:=by grind
 rcases ht with ht|ht
 ·have k:=Ev (cL:=cL) H (Pr.num (.inl ht)) (hO bc ht) B (by grind);rw[bc,e]at k;exact k
 have k:=Ew (cL:=cL) H (Pr.num (.inr ht)) (hO bc ht) B (by grind);rw[bc,e]at k;exact k
end
end
section
variable{f P R aS g bl:Nat}{u1 u2 u3 u4:Value}{st s:LSt}{r:Rs (LSt×Nat)}{u:Loc}{bs:List Bc}{a6:Option Addr}{es:List Ex}
theorem mO(I):∀(es:List Ex) (st:LSt) (U:Rs (LSt×List Nat)),gj I st es=some U->∀k,k<es.length->∀s xs,gj I st (es.take k)=some (.ok (s,xs))->∃r,I s (es.getD k (.num hJ))=some r/\(∀f,r=.error f->U=.error f)/\(∀aG a,r=.ok (aG,a)->gj I st (es.take (k+1))=some (.ok (aG,xs++[a])))
 |[],_,_,_,k,N,_,_,_=>by simp at N
 |e::es,st,U,h,0,_,s,xs,ar=>by
  rw[List.take_zero,gj]at ar
  grind[gj]
 |e::es,st,U,h,k+1,N,s,xs,ar=>by
  rw[List.take_succ_cons,gj]at ar
  rw[gj]at h
  cases B:I st e with
  |none=>grind
  |some bm=>
   rw[B]at h ar
   rcases bm with f|⟨ao,a⟩
   ·cases ar
   ·simp only at h ar
    cases J:gj I ao es with
    |none=>grind
    |some R'=>
     cases h3:gj I ao (es.take k) with
     |none=>grind
     |some R3=>
      rw[h3]at ar
      rcases R3 with f|⟨Q,bT⟩
      ·cases ar
      ·cases ar
       obtain⟨r,aj,ah,aF⟩:=mO _ _ _ _ J k (by grind) s _ h3
       refine⟨r,aj,λf e1=>?_,λaG b e1=>?_⟩
       ·simp_all
       ·simp_all[gj]
structure ArgS(f:Nat)(W:World)(P B:Nat)(u1 u2 u3 u4:Value)(bs:List Bc)(st:LSt)(aL:Option Addr)(nL cL:Nat)(loc:Loc)(g gr:Nat)(es:List Ex):Prop where
 lt:gr<W.heap.size
 nM:¬Mst P u1 u2 u3 u4 gr
 call:∀i,i<es.length->∃o n c,W.cell? ⟨gr,i,none⟩=some (.slice (some ⟨g,o,none⟩) n c)/\∀s r W' z1 z2 z3 z4,Gw st s->eO f s loc (es.getD i (.num hJ))=some r->WS W' P B z1 z2 z3 z4 bs s->Mv (Mst P u1 u2 u3 u4) W (Mst P z1 z2 z3 z4) W'->RsG s r/\Calls prog 118 #[.pointer (some ⟨P,0,none⟩),.slice aL nL cL,.slice (some ⟨g,o,none⟩) n c] W' (TrO W' P B z1 z2 z3 z4 bs r)
theorem ArgS.cell{W cL}(h:ArgS f W P R u1 u2 u3 u4 bs st a6 aS cL u g bl es){W'}(c:Chg (Mst P u1 u2 u3 u4) W W')(i):W'.cell? ⟨bl,i,none⟩=W.cell? ⟨bl,i,none⟩:=c.cell (p:=⟨bl,i,none⟩) h.lt h.nM
theorem ArgS.of(Q:TrC f){W0 W}(cL){off m cap ts}(H:TrIn W0 P R u1 u2 u3 u4 bs st a6 aS u g off m cap ts)(ai:Kept 0 0 W0 W){h:List (List Tok)}(cb:W0.heap.size<=bl)(b0:bl<W.heap.size)(aZ:∀i,i<h.length->∃o c,W.cell? ⟨bl,i,none⟩=some (.slice (some ⟨g,o,none⟩) (h.getD i []).length c)/\TkA W g o (h.getD i []).length (h.getD i [])/\(h.getD i []).length<=c)(ab:h.length=es.length)(hP:∀i,i<es.length->Pr 2 [es.getD i (.num hJ)] (h.getD i []))(hn:∀i,i<h.length->(h.getD i []).length<=m)(aH:∀i,i<h.length->∀t∈h.getD i [],t∈ts):ArgS f W P R u1 u2 u3 u4 bs st a6 aS cL u g bl es where
 lt:=b0
 nM:=H.ws.far2 cb
 call:=λi hi=>by
  obtain⟨o,c,c1,c2,c3⟩:=aZ i xaa
  refine⟨o,_,c,c1,λs r W' aN a2 bk bq w e an C=>?_⟩
  have j:=hP i hi
  have k:=aH i xaa
  exact⟨gz f s _ _ w.g (H.nm.gw w) (H.lo.le w.n) (jz j (λt ht=>H.ti t (k t ht)) _ xac) r e,Q _ P R _ _ _ _ _ s _ _ _ _ g o _ c _ (H.seg an w ((Mv.of ai).trans C) (c2.keepC C.chg H.tg) (hn i xaa) c3 k) 2 _ j yad r e⟩
theorem FtI.lit{W ab a9 ba be bi}(bf:WS ab P R a9 ba be bi bs s)(C:Mv (Mst P u1 u2 u3 u4) W (Mst P a9 ba be bi) ab)(a:Nat):FtI W (ab.alloc (.cells #[hD a] 3)) P R u1 u2 u3 u4 bs s (hC ab.heap.size 1 1) [a]:=by
 have bx:=ez 0 0 ab (.cells #[hD a] 3);have ar:=C.chg.size;have aP:∀b,(hC ab.heap.size 1 1).ownBlock=some b->b=ab.heap.size:=λb hb=>by simp[Value.ownBlock]at hb;omega
 refine⟨⟨_,_,_,_,bf.keep bx,⟨(C.keep bx).chg,λb hb=>?_⟩,λb hb c=>?_⟩,⟨rfl,.inr ⟨_,1,#[.int _ a],rfl,ar,?_,yad,by unfold maxLen;omega,rfl,rfl⟩⟩⟩
 ·rcases hb with c|c
  ·exact C.new b c
  grind
 ·rw[aP b hb]at c;exact bf.far c
 simp[World.alloc,-World.alloc_eq]
theorem FtI.xs{W W' o aT}(h:FtI W W' P R u1 u2 u3 u4 bs s o aT):∃a c a9 ba be bi,o=.slice a aT.length c/\WS W' P R a9 ba be bi bs s/\Mv (Mst P u1 u2 u3 u4) W (Mst P a9 ba be bi) W'/\XsR (Mst P a9 ba be bi) W' a aT.length aT:=by
 obtain⟨a9,ba,be,bi,ap,T,bS⟩:=h.ex;obtain⟨aQ,aG,al⟩:=jt h.row;refine⟨_,_,_,_,_,_,al,ap,⟨T.chg,λb hb=>T.new b (.inl hb)⟩,⟨rfl,λaV=>?_⟩⟩;have ar:=h.row;rcases ar.2 with⟨_,c⟩|⟨g,c,H,e,O,ax,Z,_,cj,bG⟩
 ·omega
 rw[al]at e;cases e;have aR:g<W'.heap.size:=by grind
 refine⟨g,0,rfl,bS g (by rw[al];simp[Value.ownBlock]),aR,λk N=>?_⟩;rw[Nat.zero_add,cell_of_row _ g _ _ _ _ ax,<-Array.getElem?_toList];have:(H.toList.take (aT.length*1))[k]? =(aT.map λj:Nat=>Value.int .i64 j)[k]?:=by rw[bG]
 grind
def mP(ks:List UInt8)(k:Tok)(s:LSt)(xs:List Nat):Rs (LSt×Nat):=
 match jZ s xs k.pos with
 |.error f=>.error f
 |.ok (s2,f)=>
  if ks=yZ then fV s2 (eL 8 (fe s2 (f.getD 0 0)) (f.getD 0 0:Nat) (f.getD 1 0:Nat) (f.getD 2 0:Nat)) k.pos
  else if ks=AT then fV s2 (eL 7 (fe s2 (f.getD 0 0)) (f.getD 0 0:Nat) (f.getD 1 0:Nat) 0) k.pos
  else match fV s2 (eL 4 (fe s2 (f.getD 0 0)) (f.getD 0 0:Nat) (f.getD 1 0:Nat) 0) k.pos with
   |.error f=>.error f
   |.ok (s3,p)=>fV s3 (eL 9 1 (p:Int) 0 0) k.pos
def su(ks:List UInt8)(k:Tok)(R:Rs (LSt×List Nat)):Rs (LSt×Nat):=match R with
 |.error f=>.error f
 |.ok (s,xs)=>mP ks k s xs
theorem Ey{k a b}(N:k.sym≠yZ)(h:eO (f+1) st u (.key2 k a b)=some r):∃U,gj (λs e=>eO f s u e) st [a,b]=some U/\r=su k.sym k U:=by
 rw[eO]at h;simp only[gj];cases B:eO f st u a with
 |none=>rw[B]at h;cases h
 |some ay=>
  rw[B]at h;rcases ay with f1|⟨ao,x⟩
  ·cases h;exact⟨_,rfl,rfl⟩
  simp only[jF]at h⊢;cases J:eO f ao u b with
  |none=>grind
  |some aW=>
   rw[J]at h;rcases aW with f2|⟨aG,y⟩
   ·cases h;exact⟨_,rfl,rfl⟩
   cases h;refine⟨_,rfl,?_⟩;show qY aG k x y=mP k.sym k aG [x,y];grind[qY,mP]
theorem Ez{k a b c}(N:k.sym=yZ)(h:eO (f+1) st u (.key3 k a b c)=some r):∃U,gj (λs e=>eO f s u e) st [a,b,c]=some U/\r=su k.sym k U:=by
 rw[eO]at h;simp only[gj];cases B:eO f st u a with
 |none=>rw[B]at h;cases h
 |some ay=>
  rw[B]at h;rcases ay with f1|⟨ao,x⟩
  ·cases h;exact⟨_,rfl,rfl⟩
  simp only[jF]at h⊢;cases J:eO f ao u b with
  |none=>grind
  |some aW=>
   rw[J]at h;rcases aW with f2|⟨aG,y⟩
   ·cases h;exact⟨_,rfl,rfl⟩
   simp only at h⊢;cases h3:eO f aG u c with
   |none=>grind
   |some am=>
    rw[h3]at h;rcases am with f3|⟨Q,z⟩
    ·cases h;exact⟨_,rfl,rfl⟩
    cases h;refine⟨_,rfl,?_⟩;show xN Q k x y z=mP k.sym k Q [x,y,z];grind[xN,mP]
end
section
attribute[local go_sem] eG eE eD
variable{f P R aS cL g bl cp:Nat}{u1 u2 u3 u4:Value}{bs:List Bc}{a6:Option Addr}{es:List Ex}
theorem aK.qba(h:Zp:=by
 generalize J:ao.vs.length=aH at bb aV F bw;clear J;go_upto_region 34 with fail;clear bb aV bu b7;go_wp2_with fail;go_loopw [18,19] (λcw b4 W'=>∃(k:Nat) (s:LSt) (xs:List Nat),1<=k/\k<=2/\b4=hD k/\xs.length=k/\V (gj (λs e=>eO f s u e) st (es.take k)=some (.ok (s,xs)))/\V (FtI az W' P R u1 u2 u3 u4 bs s cw xs)/\V (Gw st s)/\V (∀i∈xs,i<s.vs.length)) (λ_ b4 _=>2-(intOf b4).toNat)
 case atStart=>exact⟨1,ao,[a],yad,by decide,rfl,rfl,bF,bP,b8,di⟩
 case round=>
  obtain⟨k,s,xs,ch,bG,rfl,(aq:V _),bD,bx,v,N⟩:=hrel;clear bF bP b8 di;by_cases aC:k<2
  ·exact xal
  obtain rfl:k=2:=xaa;exact qhg):Zp:=h
theorem aK.qdr(h:Zp:=by
 exact qht):Zp:=h
theorem aK.qdx(h:Zp:=by
 rcases bm with⟨c,p⟩|⟨ao,a⟩
 ·exact xcq
 exact qaz):Zp:=h
theorem aK.qfr(h:Zp:=by
 obtain⟨bV,a1,Y,a3,a4,bR⟩:=aO.o bj (Kept.refl 0 0 bj);exact qhe):Zp:=h
theorem aK.qfz(h:Zp:=by
 rcases q with⟨c,p⟩|⟨Q,S⟩
 ·exact xcj
 obtain⟨ab,aZ,nn,aU⟩:=an.o Q S rfl;rw[aq.o]at aZ
 obtain⟨j,n,rfl⟩:∃j n,S=[j,n]:=by
  match S,aZ with
  |[a,b],_=>exact⟨a,b,rfl⟩
 have ae:=(aU j xac).1
 have H:V (r=fV Q (eL 7 (fe Q j) (j:Nat) (n:Nat) 0) K):=by
  show _=_;rw[bz.o];unfold mP;rw[<-bZ.o];rfl
 exact qdq):Zp:=h
theorem aK.qgm(h:Zp:=by
 change Code.wp _ _ _ _ (W.alloc (.cells #[eN [109,97,120],hD K,eN z] 92));generalize W.alloc (.cells #[eN [109,97,120],hD K,eN z] 92)=az at aA HK⊢;exact qdw):Zp:=h
theorem aK.qhf(h:Zp:=by
 have bC:V (∀W',Kept 0 0 bj W'->Calls prog 121 #[hB P,(eL 7 (fe Q j) (j:Nat) (n:Nat) 0).agg,hD K] W' λe aB=>(∃x:Int,e=.returned (hD x))/\V (TrO W P R u1 u2 u3 u4 bs r e aB)/\aB.cell? ⟨aR,1,none⟩=some (hD K)/\aB.cell? ⟨ar,of,none⟩=some (hD (j:Nat))/\aB.cell? ⟨ar,of+1,none⟩=some (hD (n:Nat))):=λW' ai=>yaj (mB (dg.o.keep ai) c6.o (eL 7 (fe Q j) (j:Nat) (n:Nat) 0) d4 yah K) (λe aB t=>⟨t.ret,by
  show TrO W P R u1 u2 u3 u4 bs r e aB
  rw[H.o]
  exact TrO.after (cB.o.keep ai) t,c9.o W' aB ai t.chg⟩)
 clear H cB c9 c6 dg d4 ab aW d5 HK bo aI bV a1 Y a3 a4 bR;generalize fe Q j=l at aO bC bX⊢;generalize Q.vs.length=aH at*;generalize bj.drewN nq=br at ag bX⊢;obtain⟨bV,a1,Y,a3,a4,bR⟩:=bX.o;go_upto_region 49 with fail
 go_region_held3 (λI=>I.cell? ⟨aR,1,none⟩=some (hD K)/\I.cell? ⟨ar,of,none⟩=some (hD (j:Nat))/\I.cell? ⟨ar,of+1,none⟩=some (hD (n:Nat))) (go_keep)
  (first
   |(go_at_call 40;refine yaj (gO _ _ _ _ _ _) ?_;rintro e cq ⟨rfl,cc⟩;obtain⟨bf,aP,aY,bW,b3,b2⟩:=aO.o cq (ag.o.trans ((eF br).trans cc)))
   |(go_at_call 121;refine yaj (bC.o _ (ag.o.trans ((eF br).trans cc))) ?_;rintro e ci ⟨⟨cX,rfl⟩,bh,bA,bO,ec⟩))
 all_goals (go_wp2_with fail;go_ret;exact bh.o)):Zp:=h
theorem aK.qhh(h:Zp:=by
 have bz:V (r=mP [109,97,120] ⟨[109,97,120],K,z⟩ s xs):=by show _=_;rw[HR.o,cu.o];rfl
 exact qhv):Zp:=h
theorem aK.qhr(h:Zp:=by
 obtain⟨r,av⟩:∃r,r=su [109,97,120] ⟨[109,97,120],K,z⟩ U:=⟨_,rfl⟩
 exact qgl):Zp:=h
theorem aK.qhu(h:Zp:=by
 have aO:V (∀W',Kept 0 0 bj W'->W'.cell? ⟨aR,0,none⟩=some (eN [109,97,120])/\W'.cell? ⟨aR,1,none⟩=some (hD K)/\W'.cell? ⟨P,1,none⟩=some (hC bp Q.vs.length cv)/\W'.cell? ⟨bp,j*6+1,none⟩=some (hD (fe Q j))/\W'.cell? ⟨ar,of,none⟩=some (hD (j:Nat))/\W'.cell? ⟨ar,of+1,none⟩=some (hD (n:Nat))):=λW' ai=>⟨(aW.o.keep ai).c0,(aW.o.keep ai).c1,(al.keep ai).c1,(ai.cell (p:=⟨bp,j*6+1,none⟩) bQ xaa).trans bb,(ai.cell (p:=⟨ar,of,none⟩) ah xaa).trans (cx 0 xac),(ai.cell (p:=⟨ar,of+1,none⟩) ah xaa).trans (cx 1 xac)⟩
 exact qfq):Zp:=h
open aK in
theorem EA{W st u}(h:WS W P R u1 u2 u3 u4 bs st)(ak:Gd st)(K z)(cA:es.length=2)(aa:ArgS f W P R u1 u2 u3 u4 bs st a6 aS cL u g bl es)(U)(C:gj (λs e=>eO f s u e) st es=some U):
  Calls prog 148 #[hB P,.slice a6 aS cL,jc ⟨[109,97,120],K,z⟩,hC bl 2 cp] W (TrO W P R u1 u2 u3 u4 bs (su [109,97,120] ⟨[109,97,120],K,z⟩ U)):=by
 have aA:V _:=iq W [109,97,120] K z;have HK:V _:=ez 0 0 W (.cells #[eN [109,97,120],hD K,eN z] 92);exact qhq
theorem aL.qba(h:Zp:=by
 generalize h3:ao.vs.length=aH at bb aV F bw;clear h3;go_upto_region 34 with fail;clear bb aV bu b7;go_wp2_with fail;go_loopw [18,19] (λcw b4 W'=>∃(k:Nat) (s:LSt) (xs:List Nat),1<=k/\k<=3/\b4=hD k/\xs.length=k/\V (gj (λs e=>eO f s u e) st (es.take k)=some (.ok (s,xs)))/\V (FtI az W' P R u1 u2 u3 u4 bs s cw xs)/\V (Gw st s)/\V (∀i∈xs,i<s.vs.length)) (λ_ b4 _=>3-(intOf b4).toNat)
 case atStart=>exact⟨1,ao,[a],yad,by decide,rfl,rfl,bF,bP,b8,di⟩
 case round=>
  obtain⟨k,s,xs,ch,bG,rfl,(aq:V _),bD,bx,v,N⟩:=hrel;clear bF bP b8 di;by_cases aC:k<3
  ·exact xal
  obtain rfl:k=3:=xaa;exact qhg):Zp:=h
theorem aL.qdr(h:Zp:=by
 exact qht):Zp:=h
theorem aL.qdx(h:Zp:=by
 rcases bm with⟨c,p⟩|⟨ao,a⟩
 ·exact xcq
 exact qaz):Zp:=h
theorem aL.qfz(h:Zp:=by
 rcases q with⟨c,p⟩|⟨Q,S⟩
 ·exact xcj
 obtain⟨ab,aZ,nn,aU⟩:=an.o Q S rfl;rw[aq.o]at aZ
 obtain⟨j,n,O,rfl⟩:∃j n O,S=[j,n,O]:=by
  match S,aZ with
  |[a,b,c],_=>exact⟨a,b,c,rfl⟩
 have ae:=(aU j xac).1
 have H:V (r=fV Q (eL 8 (fe Q j) (j:Nat) (n:Nat) (O:Nat)) K):=by
  show _=_;rw[bz.o];unfold mP;rw[<-bZ.o];rfl
 exact qdq):Zp:=h
theorem aL.qgm(h:Zp:=by
 change Code.wp _ _ _ _ (W.alloc (.cells #[eN [115,101,108],hD K,eN z] 92));generalize W.alloc (.cells #[eN [115,101,108],hD K,eN z] 92)=az at aA HK⊢;exact qdw):Zp:=h
theorem aL.qhf(h:Zp:=by
 have bC:V (∀W',Kept 0 0 bj W'->Calls prog 121 #[hB P,(eL 8 (fe Q j) (j:Nat) (n:Nat) (O:Nat)).agg,hD K] W' λe aB=>(∃x:Int,e=.returned (hD x))/\V (TrO W P R u1 u2 u3 u4 bs r e aB)/\aB.cell? ⟨aR,1,none⟩=some (hD K)/\aB.cell? ⟨ar,of,none⟩=some (hD (j:Nat))/\aB.cell? ⟨ar,of+1,none⟩=some (hD (n:Nat))/\aB.cell? ⟨ar,of+2,none⟩=some (hD (O:Nat))):=λW' ai=>yaj (mB (dg.o.keep ai) c6.o (eL 8 (fe Q j) (j:Nat) (n:Nat) (O:Nat)) d4 yah K) (λe aB t=>⟨t.ret,by
  show TrO W P R u1 u2 u3 u4 bs r e aB
  rw[H.o]
  exact TrO.after (cB.o.keep ai) t,c9.o W' aB ai t.chg⟩)
 clear H cB c9 c6 dg d4 ab aW d5 HK bo aI bV a1 Y a3 a4 bR cJ;generalize fe Q j=l at aO bC bX⊢;generalize Q.vs.length=aH at*;generalize bj.drewN nq=br at ag bX⊢;obtain⟨bV,a1,Y,a3,a4,bR,cJ⟩:=bX.o;go_upto_region 47 with fail
 go_region_held3 (λI=>I.cell? ⟨aR,1,none⟩=some (hD K)/\I.cell? ⟨ar,of,none⟩=some (hD (j:Nat))/\I.cell? ⟨ar,of+1,none⟩=some (hD (n:Nat))/\I.cell? ⟨ar,of+2,none⟩=some (hD (O:Nat))) (go_keep)
  (first
   |(go_at_call 40;refine yaj (gO _ _ _ _ _ _) ?_;rintro e cq ⟨rfl,cc⟩;obtain⟨bf,aP,aY,bW,b3,b2,b5⟩:=aO.o cq (ag.o.trans ((eF br).trans cc)))
   |(go_at_call 121;refine yaj (bC.o _ (ag.o.trans ((eF br).trans cc))) ?_;rintro e ci ⟨⟨cX,rfl⟩,bh,bA,bO,ec,cf⟩))
 all_goals (go_wp2_with fail;go_ret;exact bh.o)):Zp:=h
theorem aL.qhh(h:Zp:=by
 have bz:V (r=mP [115,101,108] ⟨[115,101,108],K,z⟩ s xs):=by show _=_;rw[HR.o,cu.o];rfl
 exact qhv):Zp:=h
theorem aL.qhr(h:Zp:=by
 obtain⟨r,av⟩:∃r,r=su [115,101,108] ⟨[115,101,108],K,z⟩ U:=⟨_,rfl⟩
 exact qgl):Zp:=h
theorem aL.qhu(h:Zp:=by
 have aO:V (∀W',Kept 0 0 bj W'->W'.cell? ⟨aR,0,none⟩=some (eN [115,101,108])/\W'.cell? ⟨aR,1,none⟩=some (hD K)/\W'.cell? ⟨P,1,none⟩=some (hC bp Q.vs.length cv)/\W'.cell? ⟨bp,j*6+1,none⟩=some (hD (fe Q j))/\W'.cell? ⟨ar,of,none⟩=some (hD (j:Nat))/\W'.cell? ⟨ar,of+1,none⟩=some (hD (n:Nat))/\W'.cell? ⟨ar,of+2,none⟩=some (hD (O:Nat))):=λW' ai=>⟨(aW.o.keep ai).c0,(aW.o.keep ai).c1,(al.keep ai).c1,(ai.cell (p:=⟨bp,j*6+1,none⟩) bQ xaa).trans bb,(ai.cell (p:=⟨ar,of,none⟩) ah xaa).trans (cx 0 xac),(ai.cell (p:=⟨ar,of+1,none⟩) ah xaa).trans (cx 1 xac),(ai.cell (p:=⟨ar,of+2,none⟩) ah xaa).trans (cx 2 xac)⟩
 have c9:V (∀W' aB,Kept 0 0 bj W'->Chg (Mst P aM (hC bp Q.vs.length cv) bY cg) W' aB->aB.cell? ⟨aR,1,none⟩=some (hD K)/\aB.cell? ⟨ar,of,none⟩=some (hD (j:Nat))/\aB.cell? ⟨ar,of+1,none⟩=some (hD (n:Nat))/\aB.cell? ⟨ar,of+2,none⟩=some (hD (O:Nat))):=λW' aB ai bK=>by
  obtain⟨bd,aL,_,_,au,ck,J⟩:=aO.o W' ai
  have X:=(aW.o.keep ai).lt
  have c7:=yak ah ai.size
  exact⟨(bK.cell (p:=⟨aR,1,none⟩) X cj).trans aL,(bK.cell (p:=⟨ar,of,none⟩) c7 ce).trans au,(bK.cell (p:=⟨ar,of+1,none⟩) c7 ce).trans ck,(bK.cell (p:=⟨ar,of+2,none⟩) c7 ce).trans J⟩
 have bw:=ab.g.n;have d4:=ab.g.lenB ae;have c6:V _:=ab.g;have dg:V _:=al;have d5:V _:=cj;obtain⟨bV,a1,Y,a3,a4,bR,cJ⟩:=aO.o bj (Kept.refl 0 0 bj);exact qhe):Zp:=h
open aL in
theorem EB{W st u}(h:WS W P R u1 u2 u3 u4 bs st)(ak:Gd st)(K z)(cA:es.length=3)(aa:ArgS f W P R u1 u2 u3 u4 bs st a6 aS cL u g bl es)(U)(C:gj (λs e=>eO f s u e) st es=some U):
  Calls prog 148 #[hB P,.slice a6 aS cL,jc ⟨[115,101,108],K,z⟩,hC bl 3 cp] W (TrO W P R u1 u2 u3 u4 bs (su [115,101,108] ⟨[115,101,108],K,z⟩ U)):=by
 have aA:V _:=iq W [115,101,108] K z;have HK:V _:=ez 0 0 W (.cells #[eN [115,101,108],hD K,eN z] 92);exact qhq
