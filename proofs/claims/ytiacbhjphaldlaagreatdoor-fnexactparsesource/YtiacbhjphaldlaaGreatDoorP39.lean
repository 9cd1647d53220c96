import Derived.Test.YtiacbhjphaldlaaGreatDoorP38
namespace Go.Proofs.Z
variable{c l loc q st}
variable{Zp:Prop}
open Tryz Go.RowKit Flt
set_option maxRecDepth 1000000
set_option maxHeartbeats 0
section
attribute[local go_sem] dI dG dF
variable{P B aP cL:Nat}{u1 ap u3 u4:Value}{am:List Bc}{bG:Option Addr}
def Ju(r1 r2:Rs (LSt×Nat)):Rs (LSt×Nat):=match r1 with|.error f=>.error f|.ok _=>r2
theorem sT{L}(gr:L=[102,105,108,108]\/L=[112,105,99,107]\/L=[112,117,116]){W st}(h:WS W P B u1 ap u3 u4 am st)(a0 i1){bV ab bZ q o bH c0}(b9:1<=ab)(ch:bV<W.heap.size)(aZ:W.cell? ⟨bV,0,none⟩=some (.slice (some ⟨q,o,none⟩) bH c0))(r1){bp}(bL:RsG st r1)(aE:∀A,Kept 0 0 W A->Calls prog 33 #[ge P,.slice bG aP cL,.slice (some ⟨q,o,none⟩) bH c0] A (TrO A P B u1 ap u3 u4 am r1))(b5:∀s a,r1=.ok (s,a)->∀A aH aN aM aS,WS A P B aH aN aM aS am s->Mv (Mst P u1 ap u3 u4) W (Mst P aH aN aM aS) A->Calls prog 87 #[ge P,iU ⟨L,a0,i1⟩,h0 a,hZ bV ab bZ] A (TrO A P B aH aN aM aS am bp)):
  Calls prog 65 #[ge P,.slice bG aP cL,iU ⟨L,a0,i1⟩,hZ bV ab bZ] W (TrO W P B u1 ap u3 u4 am (Ju r1 bp)):=by
 have aw:M _:=gK W L a0 i1;have ay:M _:=dE 0 0 W (.cells #[dJ L,h0 a0,dJ i1] 39);have bk:=Q h.far;have bq:=(ay.o.cell ch xaa).trans aZ;have ai:=Q aE;have f:=Q b5;have br:=Q bL;obtain⟨r,ah⟩:∃r,r=Ju r1 bp:=⟨_,rfl⟩
 rw[<-ah];have aF:=Q ah;clear ah h bL aE aZ b5;unfold iU at f⊢;simp only at f⊢;obtain⟨aq,U⟩:∃aq,M (W.alloc (.cells #[dJ L,h0 a0,dJ i1] 39)=aq):=⟨_,rfl⟩
 rw[U.o]at aw ay bq;obtain rfl|rfl|rfl:=gr
 all_goals
  go_enter func65,ntmps65
  go_upto_region 2 with fail
  change Code.wp _ _ _ _ (W.alloc (.cells _ 39))
  rw[U.o]
  clear U
  generalize W.heap.size=bh at aw bk⊢
  have bP:M _:=ai.o _ ay.o
  have bK:=aw.o.c0
  clear ai
  obtain⟨c,p⟩|⟨s,a⟩:=r1
  ·go_wp2_with (go_at_call 33;refine yai bP.o ?_;rintro e Z ⟨rfl,C⟩)
   go_ret
   rw[aF.o]
   exact TrO.back ay.o ⟨rfl,C⟩
  ·obtain⟨w,F⟩:=br.o s a rfl
   have eN:¬((a:Int)<0):=xaa
   go_upto_region 7 with (go_at_call 33;refine yai bP.o ?_;rintro e Z ⟨rfl,aH,aN,aM,aS,v,bl⟩)
   have aX:M _:=aw.o.keepC bl.chg bk.o
   obtain⟨bW,T,a6,cr,cb⟩:=v.lenc F
   have b7:=v.c1
   have O:M _:=(Mv.of ay.o).trans bl
   have g:M _:=f.o s a rfl _ _ _ _ _ v O.o
   have b:M _:=yai g.o (λe bx t=>(⟨TrO.ret t,by
    show TrO W P B u1 ap u3 u4 am r e bx
    rw[aF.o]
    exact TrO.after O.o t⟩:(∃x:Int,e=.returned _)/\M (TrO W P B _ _ _ _ _ r e _)))
   subst a6
   have cc:=aX.o.c0
   have aW:=aX.o.c1
   have bA:=aX.o.c2
   have bb:=w.g.n
   generalize dS s a=l at cb
   generalize s.vs.length=N at*
   clear v bl bP aw aF br w bK bq f g O
   go_wp2_with (go_at_call 87;refine yai b.o ?_;rintro e a7 ⟨⟨x,rfl⟩,C⟩)
   go_ret
   exact C.o
theorem kx{W g aO m cap ts}(Y:TrIn W P B u1 ap u3 u4 am st bG aP loc g aO m cap ts){e}(aB:Pr 0 [e] ts)(z:((ts.getD 0 h8).sym==[45])=false)(al:((ts.getD 0 h8).sym==[105,110,116])=false)(bw:((ts.getD 0 h8).sym==[100,101,99])=false)(bL:((ts.getD 0 h8).sym==[40])=false)(bf:((ts.getD 0 h8).sym==[110,97,109,101])=false)(J:4<=m)(us)(bd:us=(ts.drop 2).take (m-1-2))(cd:(spQ us (m-3)).cur≠[]){r}(aE:∀A aL bu,Kept 0 0 W A->SgR A g W.heap.size aL (fC us)->Calls prog 65 #[ge P,.slice bG aP cL,iU (ts.getD 0 h8),.slice aL (fC us).length bu] A (TrO A P B u1 ap u3 u4 am r)):
  Calls prog 33 #[ge P,.slice bG aP cL,.slice (some ⟨g,aO,none⟩) m cap] W (TrO W P B u1 ap u3 u4 am r):=by
 have V:M _:=fe W g _ m cap _ Y.tk Y.m5 [43] [45];have S:M _:=fe W g _ m cap _ Y.tk Y.m5 [42] [47];rw[lP aB]at V S;have c0:=Y.tk.c0 0 xaa;have c1:=Y.tk.c1 0 xaa;have c2:=Y.tk.c2 0 xaa;have bQ:=Y.m5;have G:=Y.mc
 have ab:M (∀A,Kept 0 0 W A->_):=λA ae=>AT _ g (aO+6) _ (cap-2) _ (by
  have t:=(Y.tk.keep ae).in_ 2 _ _ bd xaa
  rw[show m-1-2=m-3 by omega]at t
  exact t) xaa xaa xaa cd
 have ai:=Q aE;generalize ts.getD 0 _=t at*;clear Y aB aE cd bd;obtain⟨ba,ps,bv⟩:=t;simp only at z al bw bL bf;simp only[Nat.zero_mul,Nat.add_zero]at c0 c1 c2;go_enter func33,ntmps33;go_upto_region 3 with (go_at_call 59;refine yai V.o ?_;rintro e Z ⟨rfl,X⟩;obtain rfl:=X.symm);go_upto_region 15 with (go_at_call 59;refine yai S.o ?_;rintro e Z ⟨rfl,X⟩;obtain rfl:=X.symm);go_upto_region 16 with fail;change Code.wp _ _ _ _ (W.alloc (.cells #[dJ _,.int _ ps,dJ _] 39));have aw:M _:=gK W ba ps bv;have ay:M _:=dE 0 0 W (.cells #[dJ ba,h0 ps,dJ bv] 39);generalize W.alloc _=aq at aw ay⊢;have cz:=Q ay.o.size;generalize av:W.heap.size=bh at aw⊢;have be:=Q av;clear av;obtain⟨bK,L,bi⟩:aq.cell? _=some _/\aq.cell? _=some _/\aq.cell? _=some _:=⟨aw.o.c0,aw.o.c1,aw.o.c2⟩
 have aV:M _:=ab.o _ ay.o;clear c0 c1 c2 V S ab;generalize (fC _).length=b at aV ai⊢;go_upto_region 29 with (go_at_call 63;refine yai aV.o ?_;rintro e Z ⟨aL,bu,rfl,a,ad⟩);have aX:M _:=aw.o.keep ad
 have au:M (SgR _ g _ _ _):=⟨λaN=>by
  obtain⟨bV,bg,a8,bE⟩:=a.at_ aN
  exact⟨_,bg,yan cz.o a8,bE⟩⟩
 have bP:M _:=yai (ai.o _ _ bu (ay.o.trans ad) au.o) (λe bx t=>(⟨TrO.ret t,TrO.back (ay.o.trans ad) t⟩:(∃x:Int,e=.returned _)/\M (TrO W P B _ _ _ _ _ r e _)));unfold iU at bP;simp only at bP;clear bK L bi aw a ai aV au;have bK:=aX.o.c0;have L:=aX.o.c1;have bi:=aX.o.c2;clear aX ad;go_wp2_with (go_at_call 65;refine yai bP.o ?_;rintro e a7 ⟨⟨x,rfl⟩,C⟩);go_ret;exact C.o
end
section
variable{f:Nat}{loc:Loc}{st:LSt}{k n:Tok}{a:Ex}{r:Rs (LSt×Nat)}
theorem zG(h:dQ (f+1) st loc (.key1 k a)=some r):∃r1,dQ f st loc a=some r1/\r=(if k.sym=oA then uE 13 false k.pos r1 else uE 9 true k.pos r1):=by
 rw[dQ]at h;cases z:dQ f st loc a with
 |none=>rw[z]at h;cases h
 |some r1=>
  rw[z]at h;obtain⟨c,p⟩|⟨ak,x⟩:=r1
  ·cases h;refine⟨_,rfl,?_⟩;split<;>rfl
  cases h;exact⟨_,rfl,rfl⟩
theorem Fp{ts}(h:cm 0 ts=some 0){n}(V:ts.length<=n):(spQ ts n).cur=ts:=by
 simp_all[spQ,List.take_of_length_le,ph]
section
variable{f:Nat}{W:World}{P B:Nat}{u1 ap u3 u4:Value}{am:List Bc}{st:LSt}{bG:Option Addr}{aP cL:Nat}{loc:Loc}{g aO m cap:Nat}{ts:List Tok}{a:Ex}{r:Rs (LSt×Nat)}
theorem Cp{k}(D:TrC f)(Y:TrIn W P B u1 ap u3 u4 am st bG aP loc g aO m cap (k::l::(ts++[q])))(H:k.sym=oA\/k.sym=vx)(ab:l.sym=[40])(F:Pr 2 [a] ts)(an:q.sym=[41])(h:dQ (f+1) st loc (.key1 k a)=some r):
  Calls prog 33 #[ge P,.slice bG aP cL,.slice (some ⟨g,aO,none⟩) m cap] W (TrO W P B u1 ap u3 u4 am r):=by
 obtain⟨r1,K,rfl⟩:=zG h;have aR:=Y.tk.len;simp only[yap,yak,List.length_nil]at aR;have aB:=i7 F;have j:=jJ F yac;have bK:=Y.mc;have cd:ts≠[]:=λc=>by grind
 have bD:=ji F (λt az=>Y.ti t (by simp[az])) a xac;have bd:ts=((k::l::(ts++[q])).drop 2).take (m-1-2):=by grind
 have ba:∀x:List _,x≠oA->x≠vx->(k.sym==x)=false:=λx z J=>by
  grind
 refine kx Y (Pr.key1 H ab F an) (ba _ xab xab) (ba _ xab xab) (ba _ xab xab) (ba _ xab xab) (ba _ xab xab) xaa _ bd (by rw[Fp j xaa];exact cd) (λA aL bu ae aZ=>?_);rw[Mj cd j]at aZ⊢;obtain⟨bV,rfl,_,ch,aC⟩:=aZ.at_ xac;obtain⟨o,c,c1,c2,c3⟩:=aC 0 xac
 have aE:∀bx,Kept 0 0 _ bx->_:=λbx ad=>
  D _ P B _ _ _ _ _ _ _ _ cL _ g o ts.length c ts ⟨Y.ws.keep (ae.trans ad),Y.gd,Y.nm,Y.lc.keep (ae.trans ad),Y.ln,Y.lo,c2.keep ad,Y.tg,ih Y.m5,c3,λt az=>Y.ti t (by simp[az]),λt az=>Y.tn t (by simp[az])⟩ 2 a F yac _ K
 have bL:=fE f _ _ a Y.gd Y.nm Y.lo bD _ K;obtain⟨O,a0,i1⟩:=k;obtain H|H:=H
 ·simp only at H;subst H;rw[h3 rfl];exact Cn (Y.ws.keep ae) xac ch c1 bL aE
 simp only at H;subst H;rw[h2 (show ¬(vx=oA) by decide)];exact Co (Y.ws.keep ae) xac ch c1 bL aE
end
theorem WS.far2{W P B u1 ap u3 u4 am}(h:WS W P B u1 ap u3 u4 am st){b}(I:W.heap.size<=b):¬Mst P u1 ap u3 u4 b:=by
 exact xex
def Fq(k n:Tok)(r1:Rs (LSt×Nat)):Rs (LSt×Nat):=match r1 with|.error f=>.error f|.ok (s,a)=>ju s k a n
theorem zH(h:dQ (f+1) st loc (.keyN k a n)=some r):∃r1,dQ f st loc a=some r1/\r=Ju r1 (Fq k n r1):=by
 exact xct
theorem nV{us X y}(aC:us≠[])(h:fC us=X++[y]){n}(V:us.length<=n):(spQ us n).cur=y:=by
 simp_all[fC,spQ,List.take_of_length_le]
section
variable{f:Nat}{W:World}{P B:Nat}{u1 ap u3 u4:Value}{am:List Bc}{st:LSt}{bG:Option Addr}{aP cL:Nat}{loc:Loc}{g aO m cap:Nat}{ts:List Tok}{a:Ex}{r:Rs (LSt×Nat)}
theorem aY.qbv(h:Zp:=by
 have b5:∀s x,r1=.ok (s,x)->∀bx aH aN aM aS,WS bx P B aH aN aM aS am s->Mv (Mst P u1 ap u3 u4) A (Mst P aH aN aM aS) bx->Calls prog 87 #[ge P,iU k,h0 x,hZ bV 2 bu] bx (TrO bx P B aH aN aM aS am (Fq k n r1)):=λs x e bx aH aN aM aS X bH=>by
  obtain⟨w,ar⟩:=bL s x e
  subst e
  exact Fd X w.g k H x ar n bo yac ⟨yaj ch bH.chg.size,(bH.chg.cell (p:=⟨bV,1,none⟩) ch b).trans p,u.keepC bH.chg Y.tg⟩
 obtain⟨O,a0,i1⟩:=k;obtain H|H:=H
 ·simp only at H;subst H;exact sT (.inl rfl) (Y.ws.keep ae) a0 i1 xac ch c1 r1 bL aE b5
 simp only at H;subst H;exact sT (.inr (.inl rfl)) (Y.ws.keep ae) a0 i1 xac ch c1 r1 bL aE b5):Zp:=h
theorem aY.qem(h:Zp:=by
 exact qbu):Zp:=h
theorem aY.qgk(h:Zp:=by
 have bo:=Y.ti n xac V;exact qhp):Zp:=h
theorem aY.qhq(h:Zp:=by
 have ba:∀x:List UInt8,x≠mU->x≠lO->(k.sym==x)=false:=λx z J=>by
  rw[beq_eq_false_iff_ne]
  rintro rfl
  exact H.elim z J
 refine kx Y (Pr.keyN H ab F aj V an) (ba _ xab xab) (ba _ xab xab) (ba _ xab xab) (ba _ xab xab) (ba _ xab xab) xaa (ts++c::[n]) bd (by rw[nV (X:=[ts]) (y:=[n]) xac af yaf];simp) (λA aL bu ae aZ=>?_);exact qel):Zp:=h
open aY in
theorem Cq{k n}(D:TrC f)(Y:TrIn W P B u1 ap u3 u4 am st bG aP loc g aO m cap (k::l::(ts++[c,n,q])))(H:k.sym=mU\/k.sym=lO)(ab:l.sym=[40])(F:Pr 2 [a] ts)(aj:c.sym=[44])(V:n.sym=fx)(an:q.sym=[41])(h:dQ (f+1) st loc (.keyN k a n)=some r):
  Calls prog 33 #[ge P,.slice bG aP cL,.slice (some ⟨g,aO,none⟩) m cap] W (TrO W P B u1 ap u3 u4 am r):=by
 obtain⟨r1,K,rfl⟩:=zH h;exact qgj
end
def AX(k i n:Tok)(r1:Rs (LSt×Nat)):Rs (LSt×Nat):=match r1 with|.error f=>.error f|.ok (s,a)=>jK s k a i n
theorem Cr{i}(h:dQ (f+1) st loc (.put k a i n)=some r):∃r1,dQ f st loc a=some r1/\r=Ju r1 (AX k i n r1):=by
 exact xct
section
variable{f:Nat}{W:World}{P B:Nat}{u1 ap u3 u4:Value}{am:List Bc}{st:LSt}{bG:Option Addr}{aP cL:Nat}{loc:Loc}{g aO m cap:Nat}{ts:List Tok}{a:Ex}{r:Rs (LSt×Nat)}
theorem aZ.qbv(h:Zp:=by
 have b5:∀s x,r1=.ok (s,x)->∀bx aH aN aM aS,WS bx P B aH aN aM aS am s->Mv (Mst P u1 ap u3 u4) A (Mst P aH aN aM aS) bx->Calls prog 87 #[ge P,iU k,h0 x,hZ bV 3 bu] bx (TrO bx P B aH aN aM aS am (AX k i n r1)):=λs x e bx aH aN aM aS X bH=>by
  obtain⟨w,ar⟩:=bL s x e
  subst e
  exact Fe X w.g k H x ar i C yac ⟨yaj ch bH.chg.size,(bH.chg.cell (p:=⟨bV,1,none⟩) ch b).trans p,u.keepC bH.chg Y.tg⟩ n bo ⟨yaj ch bH.chg.size,(bH.chg.cell (p:=⟨bV,2,none⟩) ch b).trans b9,J.keepC bH.chg Y.tg⟩
 obtain⟨O,a0,i1⟩:=k;simp only at H;subst H;exact sT (.inr (.inr rfl)) (Y.ws.keep ae) a0 i1 xac ch c1 r1 bL aE b5):Zp:=h
theorem aZ.qem(h:Zp:=by
 obtain⟨b6,ak,b9,J,L⟩:=aC 2 xac;exact qbu):Zp:=h
theorem aZ.qgk(h:Zp:=by
 have bo:=Y.ti n xac V;have C:=Y.ti i xac hi;have aW:=sf (by rw[hi];decide) (by rw[hi];decide) (by rw[hi];decide);have dp:=sf (by rw[V];decide) (by rw[V];decide) (by rw[V];decide);have af:=zk j aj aW aT dp
 have bd:ts++c::([i]++d::[n])=((k::l::(ts++[c,i,d,n,q])).drop 2).take (m-1-2):=by
  rw[List.drop_succ_cons,List.drop_succ_cons,List.drop_zero,show ts++[c,i,d,n,q]=(ts++c::([i]++d::[n]))++[q] by simp,List.take_append_of_le_length yaf,yao yaf]
 have ba:∀x:List UInt8,x≠vy->(k.sym==x)=false:=λx z=>by
  rw[beq_eq_false_iff_ne]
  rintro rfl
  exact z H
 refine kx Y (Pr.put H ab F aj hi aT V an) (ba _ xab) (ba _ xab) (ba _ xab) (ba _ xab) (ba _ xab) xaa (ts++c::([i]++d::[n])) bd (by rw[nV (X:=[ts,[i]]) (y:=[n]) xac af yaf];simp) (λA aL bu ae aZ=>?_);exact qel):Zp:=h
open aZ in
theorem Fs{k i d n}(D:TrC f)(Y:TrIn W P B u1 ap u3 u4 am st bG aP loc g aO m cap (k::l::(ts++[c,i,d,n,q])))(H:k.sym=vy)(ab:l.sym=[40])(F:Pr 2 [a] ts)(aj:c.sym=[44])(hi:i.sym=fx)(aT:d.sym=[44])(V:n.sym=fx)(an:q.sym=[41])(h:dQ (f+1) st loc (.put k a i n)=some r):
  Calls prog 33 #[ge P,.slice bG aP cL,.slice (some ⟨g,aO,none⟩) m cap] W (TrO W P B u1 ap u3 u4 am r):=by
 obtain⟨r1,K,rfl⟩:=Cr h;exact qgj
end
end
section
attribute[local go_sem] dI dG dF
variable{P B aP cL g aO m cap:Nat}{u1 ap u3 u4:Value}{am:List Bc}{st:LSt}{bG:Option Addr}{loc:Loc}{ts:List Tok}
theorem TrIn.seg{W}(h:TrIn W P B u1 ap u3 u4 am st bG aP loc g aO m cap ts){A aH aN aM aS aG}(X:WS A P B aH aN aM aS am aG)(w:Gw st aG)(k:Mv (Mst P u1 ap u3 u4) W (Mst P aH aN aM aS) A){o n c us}(af:TkA A g o n us)(V:n<=m)(aj:n<=c)(bd:∀t∈us,t∈ts):TrIn A P B aH aN aM aS am aG bG aP loc g o n c us where
 ws:=X
 gd:=w.g
 nm:=h.nm.gw w
 lc:=h.lc.mv k
 ln:=h.ln
 lo:=h.lo.le w.n
 tk:=af
 tg:=λc=>(k.new g c).elim h.tg (λc=>ih h.tk.lt)
 m5:=ih h.m5
 mc:=aj
 ti:=λt az=>h.ti t (bd t az)
 tn:=λt az=>h.tn t (bd t az)
theorem h.qaf(h:Zp:=by
 change Code.wp _ _ _ _ (W.alloc (.cells #[dJ [105,110,116],h0 ps,dJ bv] 39));have aw:M _:=gK W [105,110,116] ps bv;have ay:M _:=dE 0 0 W (.cells #[dJ [105,110,116],h0 ps,dJ bv] 39);generalize W.alloc (.cells #[dJ [105,110,116],h0 ps,dJ bv] 39)=aq at aw ay⊢;exact xay):Zp:=h
open h in
theorem Cs{W}(Y:TrIn W P B u1 ap u3 u4 am st bG aP loc g aO m cap ts){e}(aB:Pr 0 [e] ts)(aC:(ts.getD 0 h8).sym=[105,110,116])(J:1<=m)(bb:iu (ts.getD 0 h8).text):
  Calls prog 33 #[ge P,.slice bG aP cL,.slice (some ⟨g,aO,none⟩) m cap] W (TrO W P B u1 ap u3 u4 am (eg st ⟨1,1,0,0,0,me (ts.getD 0 h8).text⟩ (ts.getD 0 h8).pos)):=by
 exact qae
theorem i.qaf(h:Zp:=by
 change Code.wp _ _ _ _ (W.alloc (.cells #[dJ [100,101,99],h0 ps,dJ bv] 39));have aw:M _:=gK W [100,101,99] ps bv;have ay:M _:=dE 0 0 W (.cells #[dJ [100,101,99],h0 ps,dJ bv] 39);generalize W.alloc (.cells #[dJ [100,101,99],h0 ps,dJ bv] 39)=aq at aw ay⊢;exact xay):Zp:=h
open i in
theorem Ct{W}(Y:TrIn W P B u1 ap u3 u4 am st bG aP loc g aO m cap ts){e}(aB:Pr 0 [e] ts)(aC:(ts.getD 0 h8).sym=[100,101,99])(J:1<=m)(bb:iu (ts.getD 0 h8).text):
  Calls prog 33 #[ge P,.slice bG aP cL,.slice (some ⟨g,aO,none⟩) m cap] W (TrO W P B u1 ap u3 u4 am (eg st ⟨1,1,0,0,0,me (ts.getD 0 h8).text⟩ (ts.getD 0 h8).pos)):=by
 exact qae
section
variable{f:Nat}{W:World}{P B:Nat}{u1 ap u3 u4:Value}{am:List Bc}{st:LSt}{bG:Option Addr}{aP cL:Nat}{loc:Loc}{g aO m cap:Nat}{t:Tok}{r:Rs (LSt×Nat)}
theorem Ft(Y:TrIn W P B u1 ap u3 u4 am st bG aP loc g aO m cap [t])(az:t.sym=fx\/t.sym=iS)(h:dQ (f+1) st loc (.num t)=some r):
  Calls prog 33 #[ge P,.slice bG aP cL,.slice (some ⟨g,aO,none⟩) m cap] W (TrO W P B u1 ap u3 u4 am r):=by
 rw[dQ]at h;have e:=h4 h;have bb:=Y.tn t xac az;have aR:=Y.tk.len;have bM:[t].getD 0 h8=t:=rfl;have z:1<=m:=by grind
 obtain az|az:=az
 ·have k:=Cs (cL:=cL) Y (Pr.num (.inl az)) (it bM az) z (by grind);rw[bM,e]at k;exact k
 have k:=Ct (cL:=cL) Y (Pr.num (.inr az)) (it bM az) z (by grind);rw[bM,e]at k;exact k
end
end
section
variable{f P B aP g bV:Nat}{u1 ap u3 u4:Value}{st s:LSt}{r:Rs (LSt×Nat)}{loc:Loc}{am:List Bc}{bG:Option Addr}{es:List Ex}
theorem lS(ev):∀(es:List Ex) (st:LSt) (R:Rs (LSt×List Nat)),eP ev st es=some R->∀k,k<es.length->∀s G,eP ev st (es.take k)=some (.ok (s,G))->∃r,ev s (es.getD k (.num h8))=some r/\(∀f,r=.error f->R=.error f)/\(∀az a,r=.ok (az,a)->eP ev st (es.take (k+1))=some (.ok (az,G++[a])))
 |[],_,_,_,k,H,_,_,_=>by simp at H
 |e::es,st,R,h,0,_,s,G,ai=>by
  rw[List.take_zero,eP]at ai
  grind[eP]
 |e::es,st,R,h,k+1,H,s,G,ai=>by
  rw[List.take_succ_cons,eP]at ai
  rw[eP]at h
  cases z:ev st e with
  |none=>grind
  |some b2=>
   rw[z]at h ai
   obtain f|⟨ak,a⟩:=b2
   ·cases ai
   ·simp only at h ai
    cases J:eP ev ak es with
    |none=>grind
    |some R'=>
     cases al:eP ev ak (es.take k) with
     |none=>grind
     |some R3=>
      rw[al]at ai
      obtain f|⟨bF,ys⟩:=R3
      ·cases ai
      ·cases ai
       obtain⟨r,af,ad,a5⟩:=lS _ _ _ _ J k (by grind) s _ al
       refine⟨r,af,λf K=>?_,λaz b K=>?_⟩
       ·simp_all
       ·simp_all[eP]
structure ArgS(f:Nat)(W:World)(P B:Nat)(u1 u2 u3 u4:Value)(bs:List Bc)(st:LSt)(aL:Option Addr)(nL cL:Nat)(loc:Loc)(g gr:Nat)(es:List Ex):Prop where
 lt:gr<W.heap.size
 nM:¬Mst P u1 u2 u3 u4 gr
 call:∀i,i<es.length->∃o n c,W.cell? ⟨gr,i,none⟩=some (.slice (some ⟨g,o,none⟩) n c)/\∀s r W' z1 z2 z3 z4,Gw st s->dQ f s loc (es.getD i (.num h8))=some r->WS W' P B z1 z2 z3 z4 bs s->Mv (Mst P u1 u2 u3 u4) W (Mst P z1 z2 z3 z4) W'->RsG s r/\Calls prog 33 #[.pointer (some ⟨P,0,none⟩),.slice aL nL cL,.slice (some ⟨g,o,none⟩) n c] W' (TrO W' P B z1 z2 z3 z4 bs r)
theorem ArgS.cell{W cL}(h:ArgS f W P B u1 ap u3 u4 am st bG aP cL loc g bV es){A}(c:Chg (Mst P u1 ap u3 u4) W A)(i):A.cell? ⟨bV,i,none⟩=W.cell? ⟨bV,i,none⟩:=c.cell (p:=⟨bV,i,none⟩) h.lt h.nM
theorem ArgS.of(D:TrC f){W0 W}(cL){aO m cap ts}(Y:TrIn W0 P B u1 ap u3 u4 am st bG aP loc g aO m cap ts)(ae:Kept 0 0 W0 W){a:List (List Tok)}(a5:W0.heap.size<=bV)(ch:bV<W.heap.size)(aZ:∀i,i<a.length->∃o c,W.cell? ⟨bV,i,none⟩=some (.slice (some ⟨g,o,none⟩) (a.getD i []).length c)/\TkA W g o (a.getD i []).length (a.getD i [])/\(a.getD i []).length<=c)(ab:a.length=es.length)(F:∀i,i<es.length->Pr 2 [es.getD i (.num h8)] (a.getD i []))(V:∀i,i<a.length->(a.getD i []).length<=m)(bd:∀i,i<a.length->∀t∈a.getD i [],t∈ts):ArgS f W P B u1 ap u3 u4 am st bG aP cL loc g bV es where
 lt:=ch
 nM:=Y.ws.far2 a5
 call:=λi hi=>by
  obtain⟨o,c,c1,c2,c3⟩:=aZ i xaa
  refine⟨o,_,c,c1,λs r A a9 bj bI bR w e X bH=>?_⟩
  have b:=F i hi
  have h:=bd i xaa
  exact⟨fE f s _ _ w.g (Y.nm.gw w) (Y.lo.le w.n) (ji b (λt az=>Y.ti t (h t az)) _ xac) r e,D _ P B _ _ _ _ _ s _ _ _ _ g o _ c _ (Y.seg X w ((Mv.of ae).trans bH) (c2.keepC bH.chg Y.tg) (V i xaa) c3 h) 2 _ b yac r e⟩
theorem FtI.lit{W y aH aN aM aS}(O:WS y P B aH aN aM aS am s)(bH:Mv (Mst P u1 ap u3 u4) W (Mst P aH aN aM aS) y)(a:Nat):FtI W (y.alloc (.cells #[h0 a] 3)) P B u1 ap u3 u4 am s (hZ y.heap.size 1 1) [a]:=by
 have aL:=dE 0 0 y (.cells #[h0 a] 3);have ai:=bH.chg.size;have l:∀b,(hZ y.heap.size 1 1).ownBlock=some b->b=y.heap.size:=λb I=>by simp[Value.ownBlock]at I;omega
 refine⟨⟨_,_,_,_,O.keep aL,⟨(bH.keep aL).chg,λb I=>?_⟩,λb I c=>?_⟩,⟨rfl,.inr ⟨_,1,#[.int _ a],rfl,ai,?_,yac,by unfold maxLen;omega,rfl,rfl⟩⟩⟩
 ·obtain c|c:=I
  ·exact bH.new b c
  grind
 ·rw[l b I]at c;exact O.far c
 simp[World.alloc,-World.alloc_eq]
theorem FtI.xs{W A o js}(h:FtI W A P B u1 ap u3 u4 am s o js):∃a c aH aN aM aS,o=.slice a js.length c/\WS A P B aH aN aM aS am s/\Mv (Mst P u1 ap u3 u4) W (Mst P aH aN aM aS) A/\XsR (Mst P aH aN aM aS) A a js.length js:=by
 obtain⟨aH,aN,aM,aS,af,aa,aY⟩:=h.ex;obtain⟨aJ,bD,av⟩:=jo h.row;refine⟨_,_,_,_,_,_,av,af,⟨aa.chg,λb I=>aa.new b (.inl I)⟩,⟨rfl,λay=>?_⟩⟩;have aw:=h.row;obtain⟨_,c⟩|⟨g,c,bp,e,L,bi,U,_,aF,ah⟩:=aw.2
 ·omega
 rw[av]at e;cases e;have aG:g<A.heap.size:=by grind
 refine⟨g,0,rfl,aY g (by rw[av];simp[Value.ownBlock]),aG,λk H=>?_⟩;rw[Nat.zero_add,cell_of_row _ g _ _ _ _ bi,<-Array.getElem?_toList];have:(bp.toList.take (js.length*1))[k]? =(js.map λj:Nat=>Value.int .i64 j)[k]?:=by rw[ah]
 grind
def lT(ks:List UInt8)(k:Tok)(s:LSt)(xs:List Nat):Rs (LSt×Nat):=
 match im s xs k.pos with
 |.error f=>.error f
 |.ok (s2,f)=>
  if ks=qO then eg s2 (dL 8 (dS s2 (f.getD 0 0)) (f.getD 0 0:Nat) (f.getD 1 0:Nat) (f.getD 2 0:Nat)) k.pos
  else if ks=l8 then eg s2 (dL 7 (dS s2 (f.getD 0 0)) (f.getD 0 0:Nat) (f.getD 1 0:Nat) 0) k.pos
  else match eg s2 (dL 4 (dS s2 (f.getD 0 0)) (f.getD 0 0:Nat) (f.getD 1 0:Nat) 0) k.pos with
   |.error f=>.error f
   |.ok (s3,p)=>eg s3 (dL 9 1 (p:Int) 0 0) k.pos
def qG(ks:List UInt8)(k:Tok)(R:Rs (LSt×List Nat)):Rs (LSt×Nat):=match R with
 |.error f=>.error f
 |.ok (s,xs)=>lT ks k s xs
theorem Cu{k a b}(H:k.sym≠qO)(h:dQ (f+1) st loc (.key2 k a b)=some r):∃R,eP (λs e=>dQ f s loc e) st [a,b]=some R/\r=qG k.sym k R:=by
 rw[dQ]at h;simp only[eP];cases z:dQ f st loc a with
 |none=>rw[z]at h;cases h
 |some r1=>
  rw[z]at h;obtain aS|⟨ak,x⟩:=r1
  ·cases h;exact⟨_,rfl,rfl⟩
  simp only[iE]at h⊢;cases J:dQ f ak loc b with
  |none=>grind
  |some bp=>
   rw[J]at h;obtain bO|⟨az,y⟩:=bp
   ·cases h;exact⟨_,rfl,rfl⟩
   cases h;refine⟨_,rfl,?_⟩;show kS az k x y=lT k.sym k az [x,y];grind[kS,lT]
theorem Cv{k a b}(H:k.sym=qO)(h:dQ (f+1) st loc (.key3 k a b c)=some r):∃R,eP (λs e=>dQ f s loc e) st [a,b,c]=some R/\r=qG k.sym k R:=by
 rw[dQ]at h;simp only[eP];cases z:dQ f st loc a with
 |none=>rw[z]at h;cases h
 |some r1=>
  rw[z]at h;obtain aS|⟨ak,x⟩:=r1
  ·cases h;exact⟨_,rfl,rfl⟩
  simp only[iE]at h⊢;cases J:dQ f ak loc b with
  |none=>grind
  |some bp=>
   rw[J]at h;obtain bO|⟨az,y⟩:=bp
   ·cases h;exact⟨_,rfl,rfl⟩
   simp only at h⊢;cases al:dQ f az loc c with
   |none=>grind
   |some bo=>
    rw[al]at h;obtain bP|⟨bF,aX⟩:=bo
    ·cases h;exact⟨_,rfl,rfl⟩
    cases h;refine⟨_,rfl,?_⟩;show po bF k x y aX=lT k.sym k bF [x,y,aX];grind[po,lT]
end
section
attribute[local go_sem] dI dG dF
variable{f P B aP cL g bV bZ:Nat}{u1 ap u3 u4:Value}{am:List Bc}{bG:Option Addr}{es:List Ex}
theorem U.qba(h:Zp:=by
 generalize J:ak.vs.length=N at cb bw F bb;clear J;go_upto_region 34 with fail;clear cb bw cc ce;go_wp2_with fail;go_loopw [18,19] (λY ct A=>∃(k:Nat) (s:LSt) (G:List Nat),1<=k/\k<=2/\ct=h0 k/\G.length=k/\M (eP (λs e=>dQ f s loc e) st (es.take k)=some (.ok (s,G)))/\M (FtI aq A P B u1 ap u3 u4 am s Y G)/\M (Gw st s)/\M (∀i∈G,i<s.vs.length)) (λ_ ct _=>2-(intOf ct).toNat)
 case atStart=>exact⟨1,ak,[a],yac,by decide,rfl,rfl,cl,bv,dd,aO⟩
 case round=>
  obtain⟨k,s,G,ew,ff,rfl,(aI:M _),bp,aR,v,aK⟩:=hrel;clear cl bv dd aO;by_cases aV:k<2
  ·exact xai
  obtain rfl:k=2:=xaa;exact qhj):Zp:=h
theorem U.qdx(h:Zp:=by
 exact qhw):Zp:=h
theorem U.qdz(h:Zp:=by
 obtain⟨c,p⟩|⟨ak,a⟩:=b2
 ·exact xcl
 exact qaz):Zp:=h
theorem U.qga(h:Zp:=by
 obtain⟨cg,a1,a2,a3,a4,bX⟩:=aG.o a7 (Kept.refl 0 0 a7);exact qhh):Zp:=h
theorem U.qgg(h:Zp:=by
 obtain⟨c,p⟩|⟨bF,j⟩:=q
 ·exact xcd
 obtain⟨ab,bo,cG,ad⟩:=bA.o bF j rfl;rw[aI.o]at bo
 obtain⟨n,u,rfl⟩:∃n u,j=[n,u]:=by
  match j,bo with
  |[a,b],_=>exact⟨a,b,rfl⟩
 have aC:=(ad n xac).1
 have bY:M (r=eg bF (dL 7 (dS bF n) (n:Nat) (u:Nat) 0) a0):=by
  show _=_;rw[bM.o];unfold lT;rw[<-b5.o];rfl
 exact qdw):Zp:=h
theorem U.qgr(h:Zp:=by
 change Code.wp _ _ _ _ (W.alloc (.cells #[dJ [109,97,120],h0 a0,dJ i1] 39));generalize W.alloc (.cells #[dJ [109,97,120],h0 a0,dJ i1] 39)=aq at aw ay⊢;exact qdy):Zp:=h
theorem U.qhi(h:Zp:=by
 have aj:M (∀A,Kept 0 0 a7 A->Calls prog 36 #[ge P,(dL 7 (dS bF n) (n:Nat) (u:Nat) 0).agg,h0 a0] A λe bx=>(∃x:Int,e=.returned (h0 x))/\M (TrO W P B u1 ap u3 u4 am r e bx)/\bx.cell? ⟨bh,1,none⟩=some (h0 a0)/\bx.cell? ⟨gf,of,none⟩=some (h0 (n:Nat))/\bx.cell? ⟨gf,of+1,none⟩=some (h0 (u:Nat))):=λA ae=>yai (lF (e1.o.keep ae) ey.o (dL 7 (dS bF n) (n:Nat) (u:Nat) 0) eS yag a0) (λe bx t=>⟨t.ret,by
  show TrO W P B u1 ap u3 u4 am r e bx
  rw[bY.o]
  exact TrO.after (dp.o.keep ae) t,ep.o A bx ae t.chg⟩)
 clear bY dp ep ey e1 eS ab V e5 ay bC bk cg a1 a2 a3 a4 bX;generalize dS bF n=l at aG aj Z⊢;generalize bF.vs.length=N at*;generalize a7.drewN nq=aA at S Z⊢;obtain⟨cg,a1,a2,a3,a4,bX⟩:=Z.o;go_upto_region 49 with fail
 go_region_held3 (λD=>D.cell? ⟨bh,1,none⟩=some (h0 a0)/\D.cell? ⟨gf,of,none⟩=some (h0 (n:Nat))/\D.cell? ⟨gf,of+1,none⟩=some (h0 (u:Nat))) (go_keep)
  (first
   |(go_at_call 37;refine yai iy ?_;rintro e b7 ⟨rfl,b3⟩;obtain⟨bJ,ba,bu,co,bs,aZ⟩:=aG.o b7 (S.o.trans ((dH aA).trans b3)))
   |(go_at_call 36;refine yai (aj.o _ (S.o.trans ((dH aA).trans b3))) ?_;rintro e cf ⟨⟨ex,rfl⟩,C,bz,be,b1⟩))
 all_goals (go_wp2_with fail;go_ret;exact C.o)):Zp:=h
theorem U.qhk(h:Zp:=by
 have bM:M (r=lT [109,97,120] ⟨[109,97,120],a0,i1⟩ s G):=by show _=_;rw[aF.o,bU.o];rfl
 exact qia):Zp:=h
theorem U.qhu(h:Zp:=by
 obtain⟨r,ah⟩:∃r,r=qG [109,97,120] ⟨[109,97,120],a0,i1⟩ R:=⟨_,rfl⟩
 exact qgq):Zp:=h
theorem U.qhx(h:Zp:=by
 have aG:M (∀A,Kept 0 0 a7 A->A.cell? ⟨bh,0,none⟩=some (dJ [109,97,120])/\A.cell? ⟨bh,1,none⟩=some (h0 a0)/\A.cell? ⟨P,1,none⟩=some (hZ bW bF.vs.length T)/\A.cell? ⟨bW,n*6+1,none⟩=some (h0 (dS bF n))/\A.cell? ⟨gf,of,none⟩=some (h0 (n:Nat))/\A.cell? ⟨gf,of+1,none⟩=some (h0 (u:Nat))):=λA ae=>⟨(V.o.keep ae).c0,(V.o.keep ae).c1,(av.keep ae).c1,(ae.cell (p:=⟨bW,n*6+1,none⟩) cr xaa).trans cb,(ae.cell (p:=⟨gf,of,none⟩) aJ xaa).trans (bD 0 xac),(ae.cell (p:=⟨gf,of+1,none⟩) aJ xaa).trans (bD 1 xac)⟩
 exact qfz):Zp:=h
open U in
theorem Cw{W}(h:WS W P B u1 ap u3 u4 am st)(U:Gd st)(a0 i1)(cS:es.length=2)(b0:ArgS f W P B u1 ap u3 u4 am st bG aP cL loc g bV es)(R)(au:eP (λs e=>dQ f s loc e) st es=some R):
  Calls prog 65 #[ge P,.slice bG aP cL,iU ⟨[109,97,120],a0,i1⟩,hZ bV 2 bZ] W (TrO W P B u1 ap u3 u4 am (qG [109,97,120] ⟨[109,97,120],a0,i1⟩ R)):=by
 have aw:M _:=gK W [109,97,120] a0 i1;have ay:M _:=dE 0 0 W (.cells #[dJ [109,97,120],h0 a0,dJ i1] 39);exact qht
theorem V.qba(h:Zp:=by
 generalize al:ak.vs.length=N at cb bw F bb;clear al;go_upto_region 34 with fail;clear cb bw cc ce;go_wp2_with fail;go_loopw [18,19] (λY ct A=>∃(k:Nat) (s:LSt) (G:List Nat),1<=k/\k<=3/\ct=h0 k/\G.length=k/\M (eP (λs e=>dQ f s loc e) st (es.take k)=some (.ok (s,G)))/\M (FtI aq A P B u1 ap u3 u4 am s Y G)/\M (Gw st s)/\M (∀i∈G,i<s.vs.length)) (λ_ ct _=>3-(intOf ct).toNat)
 case atStart=>exact⟨1,ak,[a],yac,by decide,rfl,rfl,cl,bv,dd,aO⟩
 case round=>
  obtain⟨k,s,G,ew,ff,rfl,(aI:M _),bp,aR,v,aK⟩:=hrel;clear cl bv dd aO;by_cases aV:k<3
  ·exact xai
  obtain rfl:k=3:=xaa;exact qhj):Zp:=h
theorem V.qdx(h:Zp:=by
 exact qhw):Zp:=h
theorem V.qdz(h:Zp:=by
 obtain⟨c,p⟩|⟨ak,a⟩:=b2
 ·exact xcl
 exact qaz):Zp:=h
theorem V.qgg(h:Zp:=by
 obtain⟨c,p⟩|⟨bF,j⟩:=q
 ·exact xcd
 obtain⟨ab,bo,cG,ad⟩:=bA.o bF j rfl;rw[aI.o]at bo
 obtain⟨n,u,J,rfl⟩:∃n u J,j=[n,u,J]:=by
  match j,bo with
  |[a,b,c],_=>exact⟨a,b,c,rfl⟩
 have aC:=(ad n xac).1
 have bY:M (r=eg bF (dL 8 (dS bF n) (n:Nat) (u:Nat) (J:Nat)) a0):=by
  show _=_;rw[bM.o];unfold lT;rw[<-b5.o];rfl
 exact qdw):Zp:=h
theorem V.qgr(h:Zp:=by
 change Code.wp _ _ _ _ (W.alloc (.cells #[dJ [115,101,108],h0 a0,dJ i1] 39));generalize W.alloc (.cells #[dJ [115,101,108],h0 a0,dJ i1] 39)=aq at aw ay⊢;exact qdy):Zp:=h
theorem V.qhi(h:Zp:=by
 have aj:M (∀A,Kept 0 0 a7 A->Calls prog 36 #[ge P,(dL 8 (dS bF n) (n:Nat) (u:Nat) (J:Nat)).agg,h0 a0] A λe bx=>(∃x:Int,e=.returned (h0 x))/\M (TrO W P B u1 ap u3 u4 am r e bx)/\bx.cell? ⟨bh,1,none⟩=some (h0 a0)/\bx.cell? ⟨gf,of,none⟩=some (h0 (n:Nat))/\bx.cell? ⟨gf,of+1,none⟩=some (h0 (u:Nat))/\bx.cell? ⟨gf,of+2,none⟩=some (h0 (J:Nat))):=λA ae=>yai (lF (e1.o.keep ae) ey.o (dL 8 (dS bF n) (n:Nat) (u:Nat) (J:Nat)) eS yag a0) (λe bx t=>⟨t.ret,by
  show TrO W P B u1 ap u3 u4 am r e bx
  rw[bY.o]
  exact TrO.after (dp.o.keep ae) t,ep.o A bx ae t.chg⟩)
 clear bY dp ep ey e1 eS ab V e5 ay bC bk cg a1 a2 a3 a4 bX c6;generalize dS bF n=l at aG aj Z⊢;generalize bF.vs.length=N at*;generalize a7.drewN nq=aA at S Z⊢;obtain⟨cg,a1,a2,a3,a4,bX,c6⟩:=Z.o;go_upto_region 47 with fail
 go_region_held3 (λD=>D.cell? ⟨bh,1,none⟩=some (h0 a0)/\D.cell? ⟨gf,of,none⟩=some (h0 (n:Nat))/\D.cell? ⟨gf,of+1,none⟩=some (h0 (u:Nat))/\D.cell? ⟨gf,of+2,none⟩=some (h0 (J:Nat))) (go_keep)
  (first
   |(go_at_call 37;refine yai iy ?_;rintro e b7 ⟨rfl,b3⟩;obtain⟨bJ,ba,bu,co,bs,aZ,L⟩:=aG.o b7 (S.o.trans ((dH aA).trans b3)))
   |(go_at_call 36;refine yai (aj.o _ (S.o.trans ((dH aA).trans b3))) ?_;rintro e cf ⟨⟨ex,rfl⟩,C,bz,be,b1,cI⟩))
 all_goals (go_wp2_with fail;go_ret;exact C.o)):Zp:=h
theorem V.qhk(h:Zp:=by
 have bM:M (r=lT [115,101,108] ⟨[115,101,108],a0,i1⟩ s G):=by show _=_;rw[aF.o,bU.o];rfl
 exact qia):Zp:=h
theorem V.qhu(h:Zp:=by
 obtain⟨r,ah⟩:∃r,r=qG [115,101,108] ⟨[115,101,108],a0,i1⟩ R:=⟨_,rfl⟩
 exact qgq):Zp:=h
theorem V.qhx(h:Zp:=by
 have aG:M (∀A,Kept 0 0 a7 A->A.cell? ⟨bh,0,none⟩=some (dJ [115,101,108])/\A.cell? ⟨bh,1,none⟩=some (h0 a0)/\A.cell? ⟨P,1,none⟩=some (hZ bW bF.vs.length T)/\A.cell? ⟨bW,n*6+1,none⟩=some (h0 (dS bF n))/\A.cell? ⟨gf,of,none⟩=some (h0 (n:Nat))/\A.cell? ⟨gf,of+1,none⟩=some (h0 (u:Nat))/\A.cell? ⟨gf,of+2,none⟩=some (h0 (J:Nat))):=λA ae=>⟨(V.o.keep ae).c0,(V.o.keep ae).c1,(av.keep ae).c1,(ae.cell (p:=⟨bW,n*6+1,none⟩) cr xaa).trans cb,(ae.cell (p:=⟨gf,of,none⟩) aJ xaa).trans (bD 0 xac),(ae.cell (p:=⟨gf,of+1,none⟩) aJ xaa).trans (bD 1 xac),(ae.cell (p:=⟨gf,of+2,none⟩) aJ xaa).trans (bD 2 xac)⟩
 have ep:M (∀A bx,Kept 0 0 a7 A->Chg (Mst P aQ (hZ bW bF.vs.length T) bN cp) A bx->bx.cell? ⟨bh,1,none⟩=some (h0 a0)/\bx.cell? ⟨gf,of,none⟩=some (h0 (n:Nat))/\bx.cell? ⟨gf,of+1,none⟩=some (h0 (u:Nat))/\bx.cell? ⟨gf,of+2,none⟩=some (h0 (J:Nat))):=λA bx ae cv=>by
  obtain⟨bT,bg,_,_,cx,bL,b9⟩:=aG.o A ae
  have lb:=(V.o.keep ae).lt
  have eT:=yaj aJ ae.size
  exact⟨(cv.cell (p:=⟨bh,1,none⟩) lb cX).trans bg,(cv.cell (p:=⟨gf,of,none⟩) eT cz).trans cx,(cv.cell (p:=⟨gf,of+1,none⟩) eT cz).trans bL,(cv.cell (p:=⟨gf,of+2,none⟩) eT cz).trans b9⟩
 have bb:=ab.g.n;have eS:=ab.g.lenB aC;have ey:=Q ab.g;have e1:=Q av;have e5:=Q cX;obtain⟨cg,a1,a2,a3,a4,bX,c6⟩:=aG.o a7 (Kept.refl 0 0 a7);exact qhh):Zp:=h
open V in
theorem Cx{W}(h:WS W P B u1 ap u3 u4 am st)(U:Gd st)(a0 i1)(cS:es.length=3)(b0:ArgS f W P B u1 ap u3 u4 am st bG aP cL loc g bV es)(R)(au:eP (λs e=>dQ f s loc e) st es=some R):
  Calls prog 65 #[ge P,.slice bG aP cL,iU ⟨[115,101,108],a0,i1⟩,hZ bV 3 bZ] W (TrO W P B u1 ap u3 u4 am (qG [115,101,108] ⟨[115,101,108],a0,i1⟩ R)):=by
 have aw:M _:=gK W [115,101,108] a0 i1;have ay:M _:=dE 0 0 W (.cells #[dJ [115,101,108],h0 a0,dJ i1] 39);exact qht
