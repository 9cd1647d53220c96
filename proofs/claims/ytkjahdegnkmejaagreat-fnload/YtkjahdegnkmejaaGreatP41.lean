import Derived.Test.YtkjahdegnkmejaaGreatP40
import Derived.Test.YtkjahdegnkmejaaGreatP32
namespace Go.Proofs.Z
variable{Zp:Prop}
open Tryz Go.RowKit Flt
set_option maxRecDepth 1000000
set_option maxHeartbeats 0
section
attribute[local go_sem] eE eC eB
variable{P I Q cL:Nat}{u1 u2 u3 u4:Value}{bs:List Bc}{af:Option Addr}
def Kq(r1 r2:Rs (LSt×Nat)):Rs (LSt×Nat):=match r1 with|.error f=>.error f|.ok _=>r2
theorem tT{d}(fj:d=[102,105,108,108]\/d=[112,105,99,107]\/d=[112,117,116]){W st}(h:WS W P I u1 u2 u3 u4 bs st)(aS aa){bu S ce q o ay c0}(cj:1<=S)(cg:bu<W.heap.size)(a5:W.cell? ⟨bu,0,none⟩=some (.slice (some ⟨q,o,none⟩) ay c0))(ar aQ)(bR:RsG st ar)
  (bi:∀F,Kept 0 0 W F->Calls prog 102 #[ge P,.slice af Q cL,.slice (some ⟨q,o,none⟩) ay c0] F (TrO F P I u1 u2 u3 u4 bs ar))
  (bQ:∀s a,ar=.ok (s,a)->∀F bf bb bc C,WS F P I bf bb bc C bs s->Mv (Mst P u1 u2 u3 u4) W (Mst P bf bb bc C) F->Calls prog 123 #[ge P,iS ⟨d,aS,aa⟩,ih a,ia bu S ce] F (TrO F P I bf bb bc C bs aQ)):
  Calls prog 119 #[ge P,.slice af Q cL,iS ⟨d,aS,aa⟩,ia bu S ce] W (TrO W P I u1 u2 u3 u4 bs (Kq ar aQ)):=by
 have ao:V _:=gY W d aS aa;have HK:V _:=eA 0 0 W (.cells #[eL d,ih aS,eL aa] 127);have aO:V _:=h.far;have a0:=(HK.o.cell cg xaa).trans a5;have Y:V _:=bi;have b:V _:=bQ;have bD:V _:=bR;obtain⟨r,au⟩:∃r,r=Kq ar aQ:=⟨_,rfl⟩
 rw[<-au];have HR:V _:=au;clear au h bR bi a5 bQ;unfold iS at b⊢;simp only at b⊢;obtain⟨aq,f⟩:∃aq,V (W.alloc (.cells #[eL d,ih aS,eL aa] 127)=aq):=⟨_,rfl⟩
 rw[f.o]at ao HK a0;rcases fj with rfl|rfl|rfl
 all_goals
  go_enter func119,ntmps119
  go_upto_region 2 with fail
  change Code.wp _ _ _ _ (W.alloc (.cells _ 127))
  rw[f.o]
  clear f
  generalize W.heap.size=bP at ao aO⊢
  have aw:V _:=Y.o _ HK.o
  have bE:=ao.o.c0
  clear Y
  rcases ar with⟨c,p⟩|⟨s,a⟩
  ·go_wp2_with (go_at_call 102;refine yaj aw.o ?_;rintro e ak ⟨rfl,bh⟩)
   go_ret
   rw[HR.o]
   exact TrO.back HK.o ⟨rfl,bh⟩
  ·obtain⟨w,aB⟩:=bD.o s a rfl
   have d5:¬((a:Int)<0):=xaa
   go_upto_region 7 with (go_at_call 102;refine yaj aw.o ?_;rintro e ak ⟨rfl,bf,bb,bc,C,v,a7⟩)
   have y:V _:=ao.o.keepC a7.chg aO.o
   obtain⟨b5,cv,be,cr,b4⟩:=v.lenc aB
   have ci:=v.c1
   have Z:V _:=(Mv.of HK.o).trans a7
   have eS:V _:=b.o s a rfl _ _ _ _ _ v Z.o
   have ae:V _:=yaj eS.o (λe z t=>(⟨TrO.ret t,by
    show TrO W P I u1 u2 u3 u4 bs r e z
    rw[HR.o]
    exact TrO.after Z.o t⟩:(∃x:Int,e=.returned _)/\V (TrO W P I _ _ _ _ _ r e _)))
   subst be
   have bT:=y.o.c0
   have aX:=y.o.c1
   have bk:=y.o.c2
   have bL:=w.g.n
   generalize eW s a=l at b4
   generalize s.vs.length=aZ at*
   clear v a7 aw ao HR bD w bE a0 b eS Z
   go_wp2_with (go_at_call 123;refine yaj ae.o ?_;rintro e bx ⟨⟨x,rfl⟩,bh⟩)
   go_ret
   exact bh.o
theorem kP{W st u g an m cap ts}(ab:TrIn W P I u1 u2 u3 u4 bs st af Q u g an m cap ts){e}(aA:Pr 0 [e] ts)(B:((ts.getD 0 i1).sym==[45])=false)(h3:((ts.getD 0 i1).sym==[105,110,116])=false)(bp:((ts.getD 0 i1).sym==[100,101,99])=false)(bU:((ts.getD 0 i1).sym==[40])=false)(bz:((ts.getD 0 i1).sym==[110,97,109,101])=false)(N:4<=m)(us)(G:us=(ts.drop 2).take (m-1-2))(bc:(spQ us (m-3)).cur≠[])(r)
  (bi:∀F a8 bj,Kept 0 0 W F->SgR F g W.heap.size a8 (fT us)->Calls prog 119 #[ge P,.slice af Q cL,iS (ts.getD 0 i1),.slice a8 (fT us).length bj] F (TrO F P I u1 u2 u3 u4 bs r)):
  Calls prog 102 #[ge P,.slice af Q cL,.slice (some ⟨g,an,none⟩) m cap] W (TrO W P I u1 u2 u3 u4 bs r):=by
 have K:V _:=fI W g _ m cap _ ab.tk ab.m5 [43] [45];have bl:V _:=fI W g _ m cap _ ab.tk ab.m5 [42] [47];rw[mh aA]at K bl;have c0:=ab.tk.c0 0 xaa;have c1:=ab.tk.c1 0 xaa;have c2:=ab.tk.c2 0 xaa;have bJ:=ab.m5;have bn:=ab.mc
 have b:V (∀F,Kept 0 0 W F->_):=λF al=>BV _ g (an+6) _ (cap-2) _ (by
  have t:=(ab.tk.keep al).in_ 2 _ _ G xaa
  rw[show m-1-2=m-3 by omega]at t
  exact t) xaa xaa xaa bc
 have Y:V _:=bi;generalize ts.getD 0 _=t at*;clear ab aA bi bc G;obtain⟨aW,ps,br⟩:=t;simp only at B h3 bp bU bz;simp only[Nat.zero_mul,Nat.add_zero]at c0 c1 c2;go_enter func102,ntmps102;go_upto_region 3 with (go_at_call 113;refine yaj K.o ?_;rintro e ak ⟨rfl,S⟩;obtain rfl:=S.symm);go_upto_region 15 with (go_at_call 113;refine yaj bl.o ?_;rintro e ak ⟨rfl,S⟩;obtain rfl:=S.symm);go_upto_region 16 with fail;change Code.wp _ _ _ _ (W.alloc (.cells #[eL _,.int _ ps,eL _] 127));have ao:V _:=gY W aW ps br;have HK:V _:=eA 0 0 W (.cells #[eL aW,ih ps,eL br] 127);generalize W.alloc _=aq at ao HK⊢;have b9:V _:=HK.o.size;generalize bM:W.heap.size=bP at ao⊢;have bA:V _:=bM;clear bM;obtain⟨bE,R,a6⟩:aq.cell? _=some _/\aq.cell? _=some _/\aq.cell? _=some _:=⟨ao.o.c0,ao.o.c1,ao.o.c2⟩
 have bY:V _:=b.o _ HK.o;clear c0 c1 c2 K bl b;generalize (fT _).length=f at bY Y⊢;go_upto_region 29 with (go_at_call 117;refine yaj bY.o ?_;rintro e ak ⟨a8,bj,rfl,d,aC⟩);have y:V _:=ao.o.keep aC
 have X:V (SgR _ g _ _ _):=⟨λbN=>by
  obtain⟨bu,ax,aF,bv⟩:=d.at_ bN
  exact⟨_,ax,yao b9.o aF,bv⟩⟩
 have aw:V _:=yaj (Y.o _ _ bj (HK.o.trans aC) X.o) (λe z t=>(⟨TrO.ret t,TrO.back (HK.o.trans aC) t⟩:(∃x:Int,e=.returned _)/\V (TrO W P I _ _ _ _ _ r e _)));unfold iS at aw;simp only at aw;clear bE R a6 ao d Y bY X;have bE:=y.o.c0;have R:=y.o.c1;have a6:=y.o.c2;clear y aC;go_wp2_with (go_at_call 119;refine yaj aw.o ?_;rintro e bx ⟨⟨x,rfl⟩,bh⟩);go_ret;exact bh.o
end
section
variable{f:Nat}{u:Loc}{st:LSt}{k n:Tok}{a:Ex}{r:Rs (LSt×Nat)}
theorem AX(h:eM (f+1) st u (.key1 k a)=some r):∃ar,eM f st u a=some ar/\r=(if k.sym=yk then vr 13 false k.pos ar else vr 9 true k.pos ar):=by
 rw[eM]at h;cases B:eM f st u a with
 |none=>rw[B]at h;cases h
 |some ar=>
  rw[B]at h;rcases ar with⟨c,p⟩|⟨av,x⟩
  ·cases h;refine⟨_,rfl,?_⟩;split<;>rfl
  cases h;exact⟨_,rfl,rfl⟩
theorem GL{ts}(h:cm 0 ts=some 0)(n)(hn:ts.length<=n):(spQ ts n).cur=ts:=by
 simp_all[spQ,List.take_of_length_le,qb]
section
variable{f:Nat}{W:World}{P I:Nat}{u1 u2 u3 u4:Value}{bs:List Bc}{st:LSt}{af:Option Addr}{Q cL:Nat}{u:Loc}{g an m cap:Nat}{ts:List Tok}{a:Ex}{r:Rs (LSt×Nat)}
theorem Dm{k l q}(O:TrC f)(ab:TrIn W P I u1 u2 u3 u4 bs st af Q u g an m cap (k::l::(ts++[q])))(J:k.sym=yk\/k.sym=EF)(ag:l.sym=[40])(aB:Pr 2 [a] ts)(am:q.sym=[41])(h:eM (f+1) st u (.key1 k a)=some r):
  Calls prog 102 #[ge P,.slice af Q cL,.slice (some ⟨g,an,none⟩) m cap] W (TrO W P I u1 u2 u3 u4 bs r):=by
 obtain⟨ar,ad,rfl⟩:=AX h;have aD:=ab.tk.len;simp only[yaq,yal,List.length_nil]at aD;have aA:=iW aB;have y:=jB aB yad;have bW:=ab.mc;have bc:ts≠[]:=λc=>by grind
 have bU:=jf aB (λt ht=>ab.ti t (by simp[ht])) a xac;have G:ts=((k::l::(ts++[q])).drop 2).take (m-1-2):=by grind
 have aW:∀x:List _,x≠yk->x≠EF->(k.sym==x)=false:=λx B N=>by
  grind
 refine kP ab (Pr.key1 J ag aB am) (aW _ xab xab) (aW _ xab xab) (aW _ xab xab) (aW _ xab xab) (aW _ xab xab) xaa _ G (by rw[GL y _ xaa];exact bc) _ (λF a8 bj al a5=>?_);rw[Mt bc y]at a5⊢;obtain⟨bu,rfl,_,cg,b0⟩:=a5.at_ xac;obtain⟨o,c,c1,c2,c3⟩:=b0 0 xac
 have bi:∀z,Kept 0 0 _ z->_:=λz aC=>
  O _ P I _ _ _ _ _ _ _ _ cL _ g o ts.length c ts ⟨ab.ws.keep (al.trans aC),ab.gd,ab.nm,ab.lc.keep (al.trans aC),ab.ln,ab.lo,c2.keep aC,ab.tg,i4 ab.m5,c3,λt ht=>ab.ti t (by simp[ht]),λt ht=>ab.tn t (by simp[ht])⟩ 2 a aB yad _ ad
 have bR:=gc f _ _ a ab.gd ab.nm ab.lo bU _ ad;obtain⟨U,aS,aa⟩:=k;rcases J with J|J
 ·simp only at J;subst J;rw[iv rfl];exact Dk (ab.ws.keep al) _ _ xac cg c1 _ bR bi
 simp only at J;subst J;rw[ip (show ¬(EF=yk) by decide)];exact Dl (ab.ws.keep al) _ _ xac cg c1 _ bR bi
end
theorem WS.far2{W P I u1 u2 u3 u4 bs}(h:WS W P I u1 u2 u3 u4 bs st){b}(hb:W.heap.size<=b):¬Mst P u1 u2 u3 u4 b:=by
 exact xfy
def GM(k n:Tok)(r1:Rs (LSt×Nat)):Rs (LSt×Nat):=match r1 with|.error f=>.error f|.ok (s,a)=>lO s k a n
theorem AY(h:eM (f+1) st u (.keyN k a n)=some r):∃ar,eM f st u a=some ar/\r=Kq ar (GM k n ar):=by
 exact xdb
theorem oP{us X y}(aj:us≠[])(h:fT us=X++[y])(n)(hn:us.length<=n):(spQ us n).cur=y:=by
 simp_all[fT,spQ,List.take_of_length_le]
section
variable{f:Nat}{W:World}{P I:Nat}{u1 u2 u3 u4:Value}{bs:List Bc}{st:LSt}{af:Option Addr}{Q cL:Nat}{u:Loc}{g an m cap:Nat}{ts:List Tok}{a:Ex}{r:Rs (LSt×Nat)}
theorem aU.qbm(h:Zp:=by
 have bQ:∀s x,ar=.ok (s,x)->∀z bf bb bc C,WS z P I bf bb bc C bs s->Mv (Mst P u1 u2 u3 u4) F (Mst P bf bb bc C) z->Calls prog 123 #[ge P,iS k,ih x,ia bu 2 bj] z (TrO z P I bf bb bc C bs (GM k n ar)):=λs x e z bf bb bc C S bE=>by
  obtain⟨w,aH⟩:=bR s x e
  subst e
  exact GA S w.g k J x aH n bI yad ⟨yak cg bE.chg.size,(bE.chg.cell (p:=⟨bu,1,none⟩) cg b).trans Z,j.keepC bE.chg ab.tg⟩
 obtain⟨U,aS,aa⟩:=k;rcases J with J|J
 ·simp only at J;subst J;exact tT (.inl rfl) (ab.ws.keep al) aS aa xac cg c1 ar _ bR bi bQ
 simp only at J;subst J;exact tT (.inr (.inl rfl)) (ab.ws.keep al) aS aa xac cg c1 ar _ bR bi bQ):Zp:=h
theorem aU.qed(h:Zp:=by
 exact qbl):Zp:=h
theorem aU.qft(h:Zp:=by
 have bI:=ab.ti n xac hn;exact qhb):Zp:=h
theorem aU.qhc(h:Zp:=by
 have aW:∀x:List UInt8,x≠uL->x≠pZ->(k.sym==x)=false:=λx B N=>by
  rw[beq_eq_false_iff_ne]
  rintro rfl
  exact J.elim B N
 refine kP ab (Pr.keyN J ag aB ai hn am) (aW _ xab xab) (aW _ xab xab) (aW _ xab xab) (aW _ xab xab) (aW _ xab xab) xaa (ts++c::[n]) G (by rw[oP (X:=[ts]) (y:=[n]) xac K _ yag];simp) _ (λF a8 bj al a5=>?_);exact qec):Zp:=h
open aU in
theorem Dn{k l c n q}(O:TrC f)(ab:TrIn W P I u1 u2 u3 u4 bs st af Q u g an m cap (k::l::(ts++[c,n,q])))(J:k.sym=uL\/k.sym=pZ)(ag:l.sym=[40])(aB:Pr 2 [a] ts)(ai:c.sym=[44])(hn:n.sym=ik)(am:q.sym=[41])(h:eM (f+1) st u (.keyN k a n)=some r):
  Calls prog 102 #[ge P,.slice af Q cL,.slice (some ⟨g,an,none⟩) m cap] W (TrO W P I u1 u2 u3 u4 bs r):=by
 obtain⟨ar,ad,rfl⟩:=AY h;exact qfs
end
def BX(k i n:Tok)(r1:Rs (LSt×Nat)):Rs (LSt×Nat):=match r1 with|.error f=>.error f|.ok (s,a)=>lP s k a i n
theorem Do{i}(h:eM (f+1) st u (.put k a i n)=some r):∃ar,eM f st u a=some ar/\r=Kq ar (BX k i n ar):=by
 exact xdb
section
variable{f:Nat}{W:World}{P I:Nat}{u1 u2 u3 u4:Value}{bs:List Bc}{st:LSt}{af:Option Addr}{Q cL:Nat}{u:Loc}{g an m cap:Nat}{ts:List Tok}{a:Ex}{r:Rs (LSt×Nat)}
theorem aV.qbm(h:Zp:=by
 have bQ:∀s x,ar=.ok (s,x)->∀z bf bb bc C,WS z P I bf bb bc C bs s->Mv (Mst P u1 u2 u3 u4) F (Mst P bf bb bc C) z->Calls prog 123 #[ge P,iS k,ih x,ia bu 3 bj] z (TrO z P I bf bb bc C bs (BX k i n ar)):=λs x e z bf bb bc C S bE=>by
  obtain⟨w,aH⟩:=bR s x e
  subst e
  exact GC S w.g k J x aH i v yad ⟨yak cg bE.chg.size,(bE.chg.cell (p:=⟨bu,1,none⟩) cg b).trans Z,j.keepC bE.chg ab.tg⟩ n bI ⟨yak cg bE.chg.size,(bE.chg.cell (p:=⟨bu,2,none⟩) cg b).trans aR,X.keepC bE.chg ab.tg⟩
 obtain⟨U,aS,aa⟩:=k;simp only at J;subst J;exact tT (.inr (.inr rfl)) (ab.ws.keep al) aS aa xac cg c1 ar _ bR bi bQ):Zp:=h
theorem aV.qed(h:Zp:=by
 obtain⟨ck,N,aR,X,Y⟩:=b0 2 xac;exact qbl):Zp:=h
theorem aV.qft(h:Zp:=by
 have bI:=ab.ti n xac hn;have v:=ab.ti i xac hi;have R:=sN (by rw[hi];decide) (by rw[hi];decide) (by rw[hi];decide);have ed:=sN (by rw[hn];decide) (by rw[hn];decide) (by rw[hn];decide);have K:=Aw y ai R aN ed
 have G:ts++c::([i]++d::[n])=((k::l::(ts++[c,i,d,n,q])).drop 2).take (m-1-2):=by
  rw[List.drop_succ_cons,List.drop_succ_cons,List.drop_zero,show ts++[c,i,d,n,q]=(ts++c::([i]++d::[n]))++[q] by simp,List.take_append_of_le_length yag,yap yag]
 have aW:∀x:List UInt8,x≠Cx->(k.sym==x)=false:=λx B=>by
  rw[beq_eq_false_iff_ne]
  rintro rfl
  exact B J
 refine kP ab (Pr.put J ag aB ai hi aN hn am) (aW _ xab) (aW _ xab) (aW _ xab) (aW _ xab) (aW _ xab) xaa (ts++c::([i]++d::[n])) G (by rw[oP (X:=[ts,[i]]) (y:=[n]) xac K _ yag];simp) _ (λF a8 bj al a5=>?_);exact qec):Zp:=h
open aV in
theorem GN{k l c i d n q}(O:TrC f)(ab:TrIn W P I u1 u2 u3 u4 bs st af Q u g an m cap (k::l::(ts++[c,i,d,n,q])))(J:k.sym=Cx)(ag:l.sym=[40])(aB:Pr 2 [a] ts)(ai:c.sym=[44])(hi:i.sym=ik)(aN:d.sym=[44])(hn:n.sym=ik)(am:q.sym=[41])(h:eM (f+1) st u (.put k a i n)=some r):
  Calls prog 102 #[ge P,.slice af Q cL,.slice (some ⟨g,an,none⟩) m cap] W (TrO W P I u1 u2 u3 u4 bs r):=by
 obtain⟨ar,ad,rfl⟩:=Do h;exact qfs
end
end
section
attribute[local go_sem] eE eC eB
variable{P I Q cL g an m cap:Nat}{u1 u2 u3 u4:Value}{bs:List Bc}{st:LSt}{af:Option Addr}{u:Loc}{ts:List Tok}
theorem TrIn.seg{W}(h:TrIn W P I u1 u2 u3 u4 bs st af Q u g an m cap ts){F bf bb bc C R}(S:WS F P I bf bb bc C bs R)(w:Gw st R)(k:Mv (Mst P u1 u2 u3 u4) W (Mst P bf bb bc C) F){o n c us}(aa:TkA F g o n us)(hn:n<=m)(ai:n<=c)(G:∀t∈us,t∈ts):TrIn F P I bf bb bc C bs R af Q u g o n c us where
 ws:=S
 gd:=w.g
 nm:=h.nm.gw w
 lc:=h.lc.mv k
 ln:=h.ln
 lo:=h.lo.le w.n
 tk:=aa
 tg:=λc=>(k.new g c).elim h.tg (λc=>i4 h.tk.lt)
 m5:=i4 h.m5
 mc:=ai
 ti:=λt ht=>h.ti t (G t ht)
 tn:=λt ht=>h.tn t (G t ht)
theorem v.qah(h:Zp:=by
 change Code.wp _ _ _ _ (W.alloc (.cells #[eL [105,110,116],ih ps,eL br] 127));have ao:V _:=gY W [105,110,116] ps br;have HK:V _:=eA 0 0 W (.cells #[eL [105,110,116],ih ps,eL br] 127);generalize W.alloc (.cells #[eL [105,110,116],ih ps,eL br] 127)=aq at ao HK⊢;exact xba):Zp:=h
open v in
theorem Dp{W}(ab:TrIn W P I u1 u2 u3 u4 bs st af Q u g an m cap ts){e}(aA:Pr 0 [e] ts)(aj:(ts.getD 0 i1).sym=[105,110,116])(N:1<=m)(bL:kr (ts.getD 0 i1).text):
  Calls prog 102 #[ge P,.slice af Q cL,.slice (some ⟨g,an,none⟩) m cap] W (TrO W P I u1 u2 u3 u4 bs (fQ st ⟨1,1,0,0,0,oh (ts.getD 0 i1).text⟩ (ts.getD 0 i1).pos)):=by
 exact qag
theorem w.qah(h:Zp:=by
 change Code.wp _ _ _ _ (W.alloc (.cells #[eL [100,101,99],ih ps,eL br] 127));have ao:V _:=gY W [100,101,99] ps br;have HK:V _:=eA 0 0 W (.cells #[eL [100,101,99],ih ps,eL br] 127);generalize W.alloc (.cells #[eL [100,101,99],ih ps,eL br] 127)=aq at ao HK⊢;exact xba):Zp:=h
open w in
theorem Dq{W}(ab:TrIn W P I u1 u2 u3 u4 bs st af Q u g an m cap ts){e}(aA:Pr 0 [e] ts)(aj:(ts.getD 0 i1).sym=[100,101,99])(N:1<=m)(bL:kr (ts.getD 0 i1).text):
  Calls prog 102 #[ge P,.slice af Q cL,.slice (some ⟨g,an,none⟩) m cap] W (TrO W P I u1 u2 u3 u4 bs (fQ st ⟨1,1,0,0,0,oh (ts.getD 0 i1).text⟩ (ts.getD 0 i1).pos)):=by
 exact qag
section
variable{f:Nat}{W:World}{P I:Nat}{u1 u2 u3 u4:Value}{bs:List Bc}{st:LSt}{af:Option Addr}{Q cL:Nat}{u:Loc}{g an m cap:Nat}{t:Tok}{r:Rs (LSt×Nat)}
theorem GO(ab:TrIn W P I u1 u2 u3 u4 bs st af Q u g an m cap [t])(ht:t.sym=ik\/t.sym=kK)(h:eM (f+1) st u (.num t)=some r):
  Calls prog 102 #[ge P,.slice af Q cL,.slice (some ⟨g,an,none⟩) m cap] W (TrO W P I u1 u2 u3 u4 bs r):=by
 rw[eM]at h;have e:=ix h;have bL:=ab.tn t xac ht;have aD:=ab.tk.len;have bB:[t].getD 0 i1=t:=rfl;have B:1<=m:=by grind
 rcases ht with ht|ht
 ·have k:=Dp (cL:=cL) ab (Pr.num (.inl ht)) (jn bB ht) B (by grind);rw[bB,e]at k;exact k
 have k:=Dq (cL:=cL) ab (Pr.num (.inr ht)) (jn bB ht) B (by grind);rw[bB,e]at k;exact k
end
end
section
variable{f P I Q g bu:Nat}{u1 u2 u3 u4:Value}{st s:LSt}{r:Rs (LSt×Nat)}{u:Loc}{bs:List Bc}{af:Option Addr}{es:List Ex}
theorem mq(aG):∀(es:List Ex) (st:LSt) (H:Rs (LSt×List Nat)),fY aG st es=some H->∀k,k<es.length->∀s xs,fY aG st (es.take k)=some (.ok (s,xs))->∃r,aG s (es.getD k (.num i1))=some r/\(∀f,r=.error f->H=.error f)/\(∀aT a,r=.ok (aT,a)->fY aG st (es.take (k+1))=some (.ok (aT,xs++[a])))
 |[],_,_,_,k,J,_,_,_=>by simp at J
 |e::es,st,H,h,0,_,s,xs,aw=>by
  rw[List.take_zero,fY]at aw
  grind[fY]
 |e::es,st,H,h,k+1,J,s,xs,aw=>by
  rw[List.take_succ_cons,fY]at aw
  rw[fY]at h
  cases B:aG st e with
  |none=>grind
  |some bo=>
   rw[B]at h aw
   rcases bo with f|⟨av,a⟩
   ·cases aw
   ·simp only at h aw
    cases N:fY aG av es with
    |none=>grind
    |some R'=>
     cases h3:fY aG av (es.take k) with
     |none=>grind
     |some R3=>
      rw[h3]at aw
      rcases R3 with f|⟨G,ys⟩
      ·cases aw
      ·cases aw
       obtain⟨r,ap,aC,a9⟩:=mq _ _ _ _ N k (by grind) s _ h3
       refine⟨r,ap,λf ad=>?_,λaT b ad=>?_⟩
       ·simp_all
       ·simp_all[fY]
structure ArgS(f:Nat)(W:World)(P B:Nat)(u1 u2 u3 u4:Value)(bs:List Bc)(st:LSt)(aL:Option Addr)(nL cL:Nat)(loc:Loc)(g gr:Nat)(es:List Ex):Prop where
 lt:gr<W.heap.size
 nM:¬Mst P u1 u2 u3 u4 gr
 call:∀i,i<es.length->∃o n c,W.cell? ⟨gr,i,none⟩=some (.slice (some ⟨g,o,none⟩) n c)/\∀s r W' z1 z2 z3 z4,Gw st s->eM f s loc (es.getD i (.num i1))=some r->WS W' P B z1 z2 z3 z4 bs s->Mv (Mst P u1 u2 u3 u4) W (Mst P z1 z2 z3 z4) W'->RsG s r/\Calls prog 102 #[.pointer (some ⟨P,0,none⟩),.slice aL nL cL,.slice (some ⟨g,o,none⟩) n c] W' (TrO W' P B z1 z2 z3 z4 bs r)
theorem ArgS.cell{W cL}(h:ArgS f W P I u1 u2 u3 u4 bs st af Q cL u g bu es){F}(c:Chg (Mst P u1 u2 u3 u4) W F)(i):F.cell? ⟨bu,i,none⟩=W.cell? ⟨bu,i,none⟩:=c.cell (p:=⟨bu,i,none⟩) h.lt h.nM
theorem ArgS.of(O:TrC f){W0 W}(cL){an m cap ts}(ab:TrIn W0 P I u1 u2 u3 u4 bs st af Q u g an m cap ts)(al:Kept 0 0 W0 W){b:List (List Tok)}(aO:W0.heap.size<=bu)(cg:bu<W.heap.size)(a5:∀i,i<b.length->∃o c,W.cell? ⟨bu,i,none⟩=some (.slice (some ⟨g,o,none⟩) (b.getD i []).length c)/\TkA W g o (b.getD i []).length (b.getD i [])/\(b.getD i []).length<=c)(ag:b.length=es.length)(hP:∀i,i<es.length->Pr 2 [es.getD i (.num i1)] (b.getD i []))(hn:∀i,i<b.length->(b.getD i []).length<=m)(G:∀i,i<b.length->∀t∈b.getD i [],t∈ts):ArgS f W P I u1 u2 u3 u4 bs st af Q cL u g bu es where
 lt:=cg
 nM:=ab.ws.far2 aO
 call:=λi hi=>by
  obtain⟨o,c,c1,c2,c3⟩:=a5 i xaa
  refine⟨o,_,c,c1,λs r F aV bg bq bB w e S bE=>?_⟩
  have et:=hP i hi
  have d:=G i xaa
  exact⟨gc f s _ _ w.g (ab.nm.gw w) (ab.lo.le w.n) (jf et (λt ht=>ab.ti t (d t ht)) _ xac) r e,O _ P I _ _ _ _ _ s _ _ _ _ g o _ c _ (ab.seg S w ((Mv.of al).trans bE) (c2.keepC bE.chg ab.tg) (hn i xaa) c3 d) 2 _ et yad r e⟩
theorem FtI.lit{W aM bf bb bc C}(d:WS aM P I bf bb bc C bs s)(bE:Mv (Mst P u1 u2 u3 u4) W (Mst P bf bb bc C) aM)(a:Nat):FtI W (aM.alloc (.cells #[ih a] 3)) P I u1 u2 u3 u4 bs s (ia aM.heap.size 1 1) [a]:=by
 have bj:=eA 0 0 aM (.cells #[ih a] 3);have aw:=bE.chg.size;have l:∀b,(ia aM.heap.size 1 1).ownBlock=some b->b=aM.heap.size:=λb hb=>by simp[Value.ownBlock]at hb;omega
 refine⟨⟨_,_,_,_,d.keep bj,⟨(bE.keep bj).chg,λb hb=>?_⟩,λb hb c=>?_⟩,⟨rfl,.inr ⟨_,1,#[.int _ a],rfl,aw,?_,yad,by unfold maxLen;omega,rfl,rfl⟩⟩⟩
 ·rcases hb with c|c
  ·exact bE.new b c
  grind
 ·rw[l b hb]at c;exact d.far c
 simp[World.alloc,-World.alloc_eq]
theorem FtI.xs{W F o aU}(h:FtI W F P I u1 u2 u3 u4 bs s o aU):∃a c bf bb bc C,o=.slice a aU.length c/\WS F P I bf bb bc C bs s/\Mv (Mst P u1 u2 u3 u4) W (Mst P bf bb bc C) F/\XsR (Mst P bf bb bc C) F a aU.length aU:=by
 obtain⟨bf,bb,bc,C,ar,ae,bI⟩:=h.ex;obtain⟨cc,ay,aR⟩:=ja h.row;refine⟨_,_,_,_,_,_,aR,ar,⟨ae.chg,λb hb=>ae.new b (.inl hb)⟩,⟨rfl,λbH=>?_⟩⟩;have bw:=h.row;rcases bw.2 with⟨_,c⟩|⟨g,c,ao,e,R,a6,U,_,ct,b2⟩
 ·omega
 rw[aR]at e;cases e;have az:g<F.heap.size:=by grind
 refine⟨g,0,rfl,bI g (by rw[aR];simp[Value.ownBlock]),az,λk J=>?_⟩;rw[Nat.zero_add,cell_of_row _ g _ _ _ _ a6,<-Array.getElem?_toList];have:(ao.toList.take (aU.length*1))[k]? =(aU.map λj:Nat=>Value.int .i64 j)[k]?:=by rw[b2]
 grind
def mr(ks:List UInt8)(k:Tok)(s:LSt)(xs:List Nat):Rs (LSt×Nat):=
 match jN s xs k.pos with
 |.error f=>.error f
 |.ok (s2,f)=>
  if ks=ym then fQ s2 (eK 8 (eW s2 (f.getD 0 0)) (f.getD 0 0:Nat) (f.getD 1 0:Nat) (f.getD 2 0:Nat)) k.pos
  else if ks=As then fQ s2 (eK 7 (eW s2 (f.getD 0 0)) (f.getD 0 0:Nat) (f.getD 1 0:Nat) 0) k.pos
  else match fQ s2 (eK 4 (eW s2 (f.getD 0 0)) (f.getD 0 0:Nat) (f.getD 1 0:Nat) 0) k.pos with
   |.error f=>.error f
   |.ok (s3,p)=>fQ s3 (eK 9 1 (p:Int) 0 0) k.pos
def ry(ks:List UInt8)(k:Tok)(R:Rs (LSt×List Nat)):Rs (LSt×Nat):=match R with
 |.error f=>.error f
 |.ok (s,xs)=>mr ks k s xs
theorem Ds{k a b}(J:k.sym≠ym)(h:eM (f+1) st u (.key2 k a b)=some r):∃H,fY (λs e=>eM f s u e) st [a,b]=some H/\r=ry k.sym k H:=by
 rw[eM]at h;simp only[fY];cases B:eM f st u a with
 |none=>rw[B]at h;cases h
 |some ar=>
  rw[B]at h;rcases ar with f1|⟨av,x⟩
  ·cases h;exact⟨_,rfl,rfl⟩
  simp only[jo]at h⊢;cases N:eM f av u b with
  |none=>grind
  |some aQ=>
   rw[N]at h;rcases aQ with f2|⟨aT,y⟩
   ·cases h;exact⟨_,rfl,rfl⟩
   cases h;refine⟨_,rfl,?_⟩;show ql aT k x y=mr k.sym k aT [x,y];grind[ql,mr]
theorem Dt{k a b c}(J:k.sym=ym)(h:eM (f+1) st u (.key3 k a b c)=some r):∃H,fY (λs e=>eM f s u e) st [a,b,c]=some H/\r=ry k.sym k H:=by
 rw[eM]at h;simp only[fY];cases B:eM f st u a with
 |none=>rw[B]at h;cases h
 |some ar=>
  rw[B]at h;rcases ar with f1|⟨av,x⟩
  ·cases h;exact⟨_,rfl,rfl⟩
  simp only[jo]at h⊢;cases N:eM f av u b with
  |none=>grind
  |some aQ=>
   rw[N]at h;rcases aQ with f2|⟨aT,y⟩
   ·cases h;exact⟨_,rfl,rfl⟩
   simp only at h⊢;cases h3:eM f aT u c with
   |none=>grind
   |some aN=>
    rw[h3]at h;rcases aN with f3|⟨G,z⟩
    ·cases h;exact⟨_,rfl,rfl⟩
    cases h;refine⟨_,rfl,?_⟩;show wH G k x y z=mr k.sym k G [x,y,z];grind[wH,mr]
end
section
attribute[local go_sem] eE eC eB
variable{f P I Q cL g bu ce:Nat}{u1 u2 u3 u4:Value}{bs:List Bc}{af:Option Addr}{es:List Ex}
theorem aG.qba(h:Zp:=by
 generalize N:av.vs.length=aZ at b4 bn aB bL;clear N;go_upto_region 34 with fail;clear b4 bn bT b7;go_wp2_with fail;go_loopw [18,19] (λd2 bZ F=>∃(k:Nat) (s:LSt) (xs:List Nat),1<=k/\k<=2/\bZ=ih k/\xs.length=k/\V (fY (λs e=>eM f s u e) st (es.take k)=some (.ok (s,xs)))/\V (FtI aq F P I u1 u2 u3 u4 bs s d2 xs)/\V (Gw st s)/\V (∀i∈xs,i<s.vs.length)) (λ_ bZ _=>2-(intOf bZ).toNat)
 case atStart=>exact⟨1,av,[a],yad,by decide,rfl,rfl,bR,cH,b8,c6⟩
 case round=>
  obtain⟨k,s,xs,c7,ct,rfl,(aD:V _),bp,bi,v,J⟩:=hrel;clear bR cH b8 c6;by_cases aY:k<2
  ·exact xal
  obtain rfl:k=2:=xaa;exact qgv):Zp:=h
theorem aG.qdo(h:Zp:=by
 exact qhj):Zp:=h
theorem aG.qds(h:Zp:=by
 rcases bo with⟨c,p⟩|⟨av,a⟩
 ·exact xct
 exact qaz):Zp:=h
theorem aG.qfn(h:Zp:=by
 obtain⟨bK,a1,K,a3,a4,ba⟩:=bk.o bx (Kept.refl 0 0 bx);exact qgt):Zp:=h
theorem aG.qfr(h:Zp:=by
 rcases q with⟨c,p⟩|⟨G,Z⟩
 ·exact xcj
 obtain⟨aC,b2,nn,br⟩:=ak.o G Z rfl;rw[aD.o]at b2
 obtain⟨d,U,rfl⟩:∃d U,Z=[d,U]:=by
  match Z,b2 with
  |[a,b],_=>exact⟨a,b,rfl⟩
 have aj:=(br d xac).1
 have cn:V (r=fQ G (eK 7 (eW G d) (d:Nat) (U:Nat) 0) aS):=by
  show _=_;rw[aI.o];unfold mr;rw[<-bQ.o];rfl
 exact qdn):Zp:=h
theorem aG.qgg(h:Zp:=by
 change Code.wp _ _ _ _ (W.alloc (.cells #[eL [109,97,120],ih aS,eL aa] 127));generalize W.alloc (.cells #[eL [109,97,120],ih aS,eL aa] 127)=aq at ao HK⊢;exact qdr):Zp:=h
theorem aG.qgu(h:Zp:=by
 have ai:V (∀F,Kept 0 0 bx F->Calls prog 105 #[ge P,(eK 7 (eW G d) (d:Nat) (U:Nat) 0).agg,ih aS] F λe z=>(∃x:Int,e=.returned (ih x))/\V (TrO W P I u1 u2 u3 u4 bs r e z)/\z.cell? ⟨bP,1,none⟩=some (ih aS)/\z.cell? ⟨j,of,none⟩=some (ih (d:Nat))/\z.cell? ⟨j,of+1,none⟩=some (ih (U:Nat))):=λF al=>yaj (lV (di.o.keep al) da.o (eK 7 (eW G d) (d:Nat) (U:Nat) 0) d0 yah aS) (λe z t=>⟨t.ret,by
  show TrO W P I u1 u2 u3 u4 bs r e z
  rw[cn.o]
  exact TrO.after (cB.o.keep al) t,dg.o F z al t.chg⟩)
 clear cn cB dg da di d0 aC bN d1 HK bF aO bK a1 K a3 a4 ba;generalize eW G d=l at bk ai bj⊢;generalize G.vs.length=aZ at*;generalize bx.drewN nq=bz at ab bj⊢;obtain⟨bK,a1,K,a3,a4,ba⟩:=bj.o;go_upto_region 49 with fail
 go_region_held3 (λO=>O.cell? ⟨bP,1,none⟩=some (ih aS)/\O.cell? ⟨j,of,none⟩=some (ih (d:Nat))/\O.cell? ⟨j,of+1,none⟩=some (ih (U:Nat))) (go_keep)
  (first
   |(go_at_call 60;refine yaj (gq _ _ _ _ _ _) ?_;rintro e ch ⟨rfl,b6⟩;obtain⟨bm,aW,bd,cu,cD,cC⟩:=bk.o ch (ab.o.trans ((eD bz).trans b6)))
   |(go_at_call 105;refine yaj (ai.o _ (ab.o.trans ((eD bz).trans b6))) ?_;rintro e ci ⟨⟨c9,rfl⟩,bh,ca,cc,bS⟩))
 all_goals (go_wp2_with fail;go_ret;exact bh.o)):Zp:=h
theorem aG.qgw(h:Zp:=by
 have aI:V (r=mr [109,97,120] ⟨[109,97,120],aS,aa⟩ s xs):=by show _=_;rw[HR.o,cy.o];rfl
 exact qhl):Zp:=h
theorem aG.qhe(h:Zp:=by
 obtain⟨r,au⟩:∃r,r=ry [109,97,120] ⟨[109,97,120],aS,aa⟩ H:=⟨_,rfl⟩
 exact qgf):Zp:=h
theorem aG.qhk(h:Zp:=by
 have bk:V (∀F,Kept 0 0 bx F->F.cell? ⟨bP,0,none⟩=some (eL [109,97,120])/\F.cell? ⟨bP,1,none⟩=some (ih aS)/\F.cell? ⟨P,1,none⟩=some (ia b5 G.vs.length cv)/\F.cell? ⟨b5,d*6+1,none⟩=some (ih (eW G d))/\F.cell? ⟨j,of,none⟩=some (ih (d:Nat))/\F.cell? ⟨j,of+1,none⟩=some (ih (U:Nat))):=λF al=>⟨(bN.o.keep al).c0,(bN.o.keep al).c1,(aR.keep al).c1,(al.cell (p:=⟨b5,d*6+1,none⟩) cr xaa).trans b4,(al.cell (p:=⟨j,of,none⟩) aK xaa).trans (cx 0 xac),(al.cell (p:=⟨j,of+1,none⟩) aK xaa).trans (cx 1 xac)⟩
 exact qfm):Zp:=h
open aG in
theorem Du{W st u}(h:WS W P I u1 u2 u3 u4 bs st)(aH:Gd st)(aS aa)(cz:es.length=2)(bM:ArgS f W P I u1 u2 u3 u4 bs st af Q cL u g bu es)(H)(X:fY (λs e=>eM f s u e) st es=some H):
  Calls prog 119 #[ge P,.slice af Q cL,iS ⟨[109,97,120],aS,aa⟩,ia bu 2 ce] W (TrO W P I u1 u2 u3 u4 bs (ry [109,97,120] ⟨[109,97,120],aS,aa⟩ H)):=by
 have ao:V _:=gY W [109,97,120] aS aa;have HK:V _:=eA 0 0 W (.cells #[eL [109,97,120],ih aS,eL aa] 127);exact qhd
theorem aH.qba(h:Zp:=by
 generalize h3:av.vs.length=aZ at b4 bn aB bL;clear h3;go_upto_region 34 with fail;clear b4 bn bT b7;go_wp2_with fail;go_loopw [18,19] (λd2 bZ F=>∃(k:Nat) (s:LSt) (xs:List Nat),1<=k/\k<=3/\bZ=ih k/\xs.length=k/\V (fY (λs e=>eM f s u e) st (es.take k)=some (.ok (s,xs)))/\V (FtI aq F P I u1 u2 u3 u4 bs s d2 xs)/\V (Gw st s)/\V (∀i∈xs,i<s.vs.length)) (λ_ bZ _=>3-(intOf bZ).toNat)
 case atStart=>exact⟨1,av,[a],yad,by decide,rfl,rfl,bR,cH,b8,c6⟩
 case round=>
  obtain⟨k,s,xs,c7,ct,rfl,(aD:V _),bp,bi,v,J⟩:=hrel;clear bR cH b8 c6;by_cases aY:k<3
  ·exact xal
  obtain rfl:k=3:=xaa;exact qgv):Zp:=h
theorem aH.qdo(h:Zp:=by
 exact qhj):Zp:=h
theorem aH.qds(h:Zp:=by
 rcases bo with⟨c,p⟩|⟨av,a⟩
 ·exact xct
 exact qaz):Zp:=h
theorem aH.qfr(h:Zp:=by
 rcases q with⟨c,p⟩|⟨G,Z⟩
 ·exact xcj
 obtain⟨aC,b2,nn,br⟩:=ak.o G Z rfl;rw[aD.o]at b2
 obtain⟨d,U,N,rfl⟩:∃d U N,Z=[d,U,N]:=by
  match Z,b2 with
  |[a,b,c],_=>exact⟨a,b,c,rfl⟩
 have aj:=(br d xac).1
 have cn:V (r=fQ G (eK 8 (eW G d) (d:Nat) (U:Nat) (N:Nat)) aS):=by
  show _=_;rw[aI.o];unfold mr;rw[<-bQ.o];rfl
 exact qdn):Zp:=h
theorem aH.qgg(h:Zp:=by
 change Code.wp _ _ _ _ (W.alloc (.cells #[eL [115,101,108],ih aS,eL aa] 127));generalize W.alloc (.cells #[eL [115,101,108],ih aS,eL aa] 127)=aq at ao HK⊢;exact qdr):Zp:=h
theorem aH.qgu(h:Zp:=by
 have ai:V (∀F,Kept 0 0 bx F->Calls prog 105 #[ge P,(eK 8 (eW G d) (d:Nat) (U:Nat) (N:Nat)).agg,ih aS] F λe z=>(∃x:Int,e=.returned (ih x))/\V (TrO W P I u1 u2 u3 u4 bs r e z)/\z.cell? ⟨bP,1,none⟩=some (ih aS)/\z.cell? ⟨j,of,none⟩=some (ih (d:Nat))/\z.cell? ⟨j,of+1,none⟩=some (ih (U:Nat))/\z.cell? ⟨j,of+2,none⟩=some (ih (N:Nat))):=λF al=>yaj (lV (di.o.keep al) da.o (eK 8 (eW G d) (d:Nat) (U:Nat) (N:Nat)) d0 yah aS) (λe z t=>⟨t.ret,by
  show TrO W P I u1 u2 u3 u4 bs r e z
  rw[cn.o]
  exact TrO.after (cB.o.keep al) t,dg.o F z al t.chg⟩)
 clear cn cB dg da di d0 aC bN d1 HK bF aO bK a1 K a3 a4 ba cb;generalize eW G d=l at bk ai bj⊢;generalize G.vs.length=aZ at*;generalize bx.drewN nq=bz at ab bj⊢;obtain⟨bK,a1,K,a3,a4,ba,cb⟩:=bj.o;go_upto_region 47 with fail
 go_region_held3 (λO=>O.cell? ⟨bP,1,none⟩=some (ih aS)/\O.cell? ⟨j,of,none⟩=some (ih (d:Nat))/\O.cell? ⟨j,of+1,none⟩=some (ih (U:Nat))/\O.cell? ⟨j,of+2,none⟩=some (ih (N:Nat))) (go_keep)
  (first
   |(go_at_call 60;refine yaj (gq _ _ _ _ _ _) ?_;rintro e ch ⟨rfl,b6⟩;obtain⟨bm,aW,bd,cu,cD,cC,cS⟩:=bk.o ch (ab.o.trans ((eD bz).trans b6)))
   |(go_at_call 105;refine yaj (ai.o _ (ab.o.trans ((eD bz).trans b6))) ?_;rintro e ci ⟨⟨c9,rfl⟩,bh,ca,cc,bS,ed⟩))
 all_goals (go_wp2_with fail;go_ret;exact bh.o)):Zp:=h
theorem aH.qgw(h:Zp:=by
 have aI:V (r=mr [115,101,108] ⟨[115,101,108],aS,aa⟩ s xs):=by show _=_;rw[HR.o,cy.o];rfl
 exact qhl):Zp:=h
theorem aH.qhe(h:Zp:=by
 obtain⟨r,au⟩:∃r,r=ry [115,101,108] ⟨[115,101,108],aS,aa⟩ H:=⟨_,rfl⟩
 exact qgf):Zp:=h
theorem aH.qhk(h:Zp:=by
 have bk:V (∀F,Kept 0 0 bx F->F.cell? ⟨bP,0,none⟩=some (eL [115,101,108])/\F.cell? ⟨bP,1,none⟩=some (ih aS)/\F.cell? ⟨P,1,none⟩=some (ia b5 G.vs.length cv)/\F.cell? ⟨b5,d*6+1,none⟩=some (ih (eW G d))/\F.cell? ⟨j,of,none⟩=some (ih (d:Nat))/\F.cell? ⟨j,of+1,none⟩=some (ih (U:Nat))/\F.cell? ⟨j,of+2,none⟩=some (ih (N:Nat))):=λF al=>⟨(bN.o.keep al).c0,(bN.o.keep al).c1,(aR.keep al).c1,(al.cell (p:=⟨b5,d*6+1,none⟩) cr xaa).trans b4,(al.cell (p:=⟨j,of,none⟩) aK xaa).trans (cx 0 xac),(al.cell (p:=⟨j,of+1,none⟩) aK xaa).trans (cx 1 xac),(al.cell (p:=⟨j,of+2,none⟩) aK xaa).trans (cx 2 xac)⟩
 have dg:V (∀F z,Kept 0 0 bx F->Chg (Mst P aJ (ia b5 G.vs.length cv) bw b3) F z->z.cell? ⟨bP,1,none⟩=some (ih aS)/\z.cell? ⟨j,of,none⟩=some (ih (d:Nat))/\z.cell? ⟨j,of+1,none⟩=some (ih (U:Nat))/\z.cell? ⟨j,of+2,none⟩=some (ih (N:Nat))):=λF z al az=>by
  obtain⟨aU,ax,_,_,cF,cK,R⟩:=bk.o F al
  have S:=(bN.o.keep al).lt
  have dc:=yak aK al.size
  exact⟨(az.cell (p:=⟨bP,1,none⟩) S bO).trans ax,(az.cell (p:=⟨j,of,none⟩) dc b9).trans cF,(az.cell (p:=⟨j,of+1,none⟩) dc b9).trans cK,(az.cell (p:=⟨j,of+2,none⟩) dc b9).trans R⟩
 have bL:=aC.g.n;have d0:=aC.g.lenB aj;have da:V _:=aC.g;have di:V _:=aR;have d1:V _:=bO;obtain⟨bK,a1,K,a3,a4,ba,cb⟩:=bk.o bx (Kept.refl 0 0 bx);exact qgt):Zp:=h
open aH in
theorem Dv{W st u}(h:WS W P I u1 u2 u3 u4 bs st)(aH:Gd st)(aS aa)(cz:es.length=3)(bM:ArgS f W P I u1 u2 u3 u4 bs st af Q cL u g bu es)(H)(X:fY (λs e=>eM f s u e) st es=some H):
  Calls prog 119 #[ge P,.slice af Q cL,iS ⟨[115,101,108],aS,aa⟩,ia bu 3 ce] W (TrO W P I u1 u2 u3 u4 bs (ry [115,101,108] ⟨[115,101,108],aS,aa⟩ H)):=by
 have ao:V _:=gY W [115,101,108] aS aa;have HK:V _:=eA 0 0 W (.cells #[eL [115,101,108],ih aS,eL aa] 127);exact qhd
