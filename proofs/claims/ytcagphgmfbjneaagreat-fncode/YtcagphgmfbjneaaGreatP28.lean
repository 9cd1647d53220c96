import Derived.Test.YtcagphgmfbjneaaGreatP26
namespace Go.Proofs.Z
variable{Zp:Prop}
open Tryz
set_option maxRecDepth 1000000
set_option maxHeartbeats 0
open Go.RowKit Flt
attribute[local go_sem] eE eD eC
variable{w W0 ax H:World}{bW:Array Oper}{M':Nat->Prop}{ts:List Tok}{rest:List Oper}{k P I b4 m1 af i n m3 q ah base c cap bD:Nat}{a U aa J:Option Addr}{u1 u2 u3 v u4 aR bd bu c0 c1 c2 c3 c4 cd ce b2 bp bY bU b6 co cC cu cq cg cl cn:Value}{Q:Exit->Act->World->Prop}{xs bw:List Nat}{r:Rs (LSt×Nat)}{bs:List Bc}{st:LSt}{o a5 bj X bz N aQ:Int}{vs:List Vl}{R R':Option Nat}
structure XsR(M:Nat->Prop)(W:World)(a:Option Addr)(n:Nat)(xs:List Nat):Prop where
 len:xs.length=n
 at_:0<n->∃g off,a=some ⟨g,off,none⟩/\¬M g/\g<W.heap.size/\∀k,k<n->W.cell? ⟨g,off+k,none⟩=some (.int .i64 (xs.getD k 0:Nat))
theorem XsR.mv{M W}(h:XsR M W a n xs)(k:Mv M W M' H):XsR M' H a n xs:=
 ⟨h.len,λag=>by
  obtain⟨g,off,e,F,h2,h3⟩:=h.at_ ag
  exact⟨g,_,e,λc=>(k.new g c).elim F (λc=>by omega),yak h2 k.chg.size,λj hj=>(k.chg.cell h2 F).trans (h3 j hj)⟩⟩
theorem XsR.keep{M W}(h:XsR M W a n xs)(k:Kept 0 0 W H):XsR M H a n xs:=h.mv (Mv.of k)
theorem WS.lenc{W}(h:WS W P I u1 u2 u3 u4 bs st)(hi:i<st.vs.length):∃g cap,u2=h0 g st.vs.length cap/\g<W.heap.size/\W.cell? ⟨g,i*6+1,none⟩=some (h1 (eW st i)):=by
 obtain⟨g,cap,e,_,h2,_,h4⟩:=nj h.r2 xaa rfl;exact⟨g,_,e,h2,(h4.at_ i hi).c1⟩
theorem TkR.weak{M W}(h:TkR M W a n ts)(bJ:∀b,M' b->M b):TkR M' W a n ts:=
 ⟨h.len,λag=>by obtain⟨g,off,e,F,h2⟩:=h.at_ ag;grind⟩
theorem BcOK.weak{M W b d}(h:BcOK M W b d)(bJ:∀b,M' b->M b):BcOK M' W b d:=by
 cases d with
 |val aS v=>exact h
 |fn aS ps e=>
  obtain⟨F,h2,h3,ts,h4,bK,b3⟩:=h;exact⟨F,h2,h3.weak bJ,_,h4,bK,b3.weak bJ⟩
theorem WS.side{W S}(h:WS W P I u1 u2 u3 u4 bs st)(c:Chg S W H)(a2:∀b,Mst P u1 u2 u3 u4 b->¬S b)(C:∀i,i<bs.length->BcOK (Mst P u1 u2 u3 u4) H (bs.getD i ip) (st.names.getD i (.val [] 0))):WS H P I u1 u2 u3 u4 bs st:=by
 have d:=a2 P (.inl rfl);have e:∀o,_:=λo=>c.cell (p:=⟨P,o,none⟩) h.lt d;exact⟨yak h.lt c.size,λo=>(c.frozen h.lt d).trans (h.fr o),(e 0).trans h.c0,(e 1).trans h.c1,(e 2).trans h.c2,(e 3).trans h.c3,(e 4).trans h.c4,(e 5).trans h.c5,(e 6).trans h.c6,fe h.r1 c (λb hb=>a2 b (.inr (.inl hb))),fe h.r2 c (λb hb=>a2 b (.inr (.inr (.inl hb)))),fe h.r3 c (λb hb=>a2 b (.inr (.inr (.inr (.inl hb))))),fe h.r4 c (λb hb=>a2 b (.inr (.inr (.inr (.inr hb))))),h.np,h.ap,h.nl,C,h.sz⟩
def FtO(W:World)(P B:Nat)(u1 u2 u3 u4:Value)(bs:List Bc)(r:Rs (LSt×List Nat))(e:Ending)(W':World):Prop:=
 match r with
 |.error (c,p)=>e=.returned (.slice none 0 0)/\W'.cell? ⟨P,5,none⟩=some (.int .i64 c)/\W'.cell? ⟨P,6,none⟩=some (.int .i64 (p:Int))/\Chg (Mst P u1 u2 u3 u4) W W'
 |.ok (st,js)=>∃a cap,e=.returned (.slice a js.length cap)/\∃v1 v2 v3 v4,WS W' P B v1 v2 v3 v4 bs st/\Mv (Mst P u1 u2 u3 u4) W (Mst P v1 v2 v3 v4) W'/\XsR (Mst P v1 v2 v3 v4) W' a js.length js
structure FtI(W W':World)(P B:Nat)(u1 u2 u3 u4:Value)(bs:List Bc)(st:LSt)(o:Value)(js:List Nat):Prop where
 ex:∃v1 v2 v3 v4,WS W' P B v1 v2 v3 v4 bs st/\Mv (Mst P u1 u2 u3 u4) W (λb=>Mst P v1 v2 v3 v4 b\/o.ownBlock=some b) W'/\(∀b,o.ownBlock=some b->¬Mst P v1 v2 v3 v4 b)
 row:W'.ownsRow W.heap.size 3 1 o js.length (js.map λj:Nat=>Value.int .i64 (j:Int))
theorem jz(w){o a}(au:o.guard=none)(s x)
  (ho:o.op=.call {callee:=.builtin .append,args:=#[s,x],argTypes:=#[23,23]})
  (I) (v) (bw) (aw:a.eval s=v) (bq:w.ownsRow I 3 1 v bw.length (bw.map λj:Nat=>Value.int .i64 (j:Int)))
  (av) (y:Nat) (ap:a.eval x=.slice (some av) 1 1) (d:w.cell? av=some (h1 y))
  (f:bw.length+1<=1000000) (ae:I<=w.heap.size)
  (h:∀g cap n B,n=(bw++[y]).length->B.ownsRow I 3 1 (h0 g n cap) (bw++[y]).length ((bw++[y]).map λj:Nat=>Value.int .i64 (j:Int))->Chg (λb=>v.ownBlock=some b) w B->(v.ownBlock=some g\/g=w.heap.size)->wpList prog bW Q rest (a.put o.dst (h0 g n cap)) B):wpList prog bW Q (o::rest) a w:=by
 obtain⟨b1,hi,hz0,hz1,hz2⟩:=info_parts rZ;refine wpList_append_lies w au s x 23 ho I 3 b1 (h1 0) 1 8 underlying23 hi hz0 hz1 hz2 rfl xab v bw.length _ aw bq av 1 1 [h1 y] ap rfl ?_ ?_ xab (by unfold maxLen;omega) xaa ae _ rfl ?_
 ·intro j u a6;cases j with
  |zero=>cases a6;obtain⟨b,o,m⟩:=av;simpa[Addr.add] using d
  |succ j=>cases a6
 ·intro u a6;simp at a6;subst a6;rfl
 intro g cap B F h2 h3 _;have e:bw.length+1=(bw++[y]).length:=by rw[yal];rfl
 rw[e]at F⊢;refine h g cap _ B rfl ?_ (fT h2) h3;rw[List.map_append];exact F
theorem FtI.keep{W z o}(h:FtI W H P I u1 u2 u3 u4 bs st o bw)(k:Kept 0 0 H z):FtI W z P I u1 u2 u3 u4 bs st o bw:=by
 exact xhj
theorem FtI.step{W aU ba bb bc bo bC u o}(bJ:Mv (Mst P u1 u2 u3 u4) W (λb=>Mst P ba bb bc bo b\/o.ownBlock=some b) ax)(l:∀b,o.ownBlock=some b->¬Mst P ba bb bc bo b)(a8:ax.ownsRow W.heap.size 3 1 o bw.length (bw.map λj:Nat=>Value.int .i64 (j:Int)))(aO:WS aU P I aR bd bu bC bs u)(aL:Mv (Mst P ba bb bc bo) ax (Mst P aR bd bu bC) aU):FtI W aU P I u1 u2 u3 u4 bs u o bw:=by
 exact xcs
theorem aM.qbg(h:Zp:=by
 refine⟨⟨ba,bb,bc,bo,F.side aj (λb hb c=>h3 b c hb) (λi hi=>?_),au,λb hb c=>?_⟩,?_⟩
 ·exact xhq
 ·rw[aZ]at hb;subst hb;exact f c
 rw[yal,List.map_append];exact K):Zp:=h
open aM in
theorem FtI.app{W bn d o}(ak:WS W P I u1 u2 u3 u4 bs d)(al:st.names=d.names)(h:FtI W H P I u1 u2 u3 u4 bs st o bw){g9 n9 cap9 x:Nat}(K:bn.ownsRow W.heap.size 3 1 (h0 g9 n9 cap9) (bw.length+1) ((bw.map λj:Nat=>Value.int .i64 (j:Int))++[h1 x]))(aj:Chg (λb=>o.ownBlock=some b) H bn)(br:o.ownBlock=some g9\/g9=H.heap.size):FtI W bn P I u1 u2 u3 u4 bs st (h0 g9 n9 cap9) (bw++[x]):=by
 exact qbf
theorem Aj{W}(h:WS W P I u1 u2 u3 u4 bs st)(g:Gd st)(cF t d1 xs)(bH:XsR (Mst P u1 u2 u3 u4) W cF t xs)(ag:t<=100)(ap:∀i∈xs,i<st.vs.length)(p:Nat):
  Calls prog 124 #[hZ P,.slice cF t d1,h1 p] W (FtO W P I u1 u2 u3 u4 bs (jT st xs p)):=by
 have bE:V _:=h;have bv:V _:=g;have HX:V _:=bH;have ao:V _:=bH.len
 have C:V (∀k,k<t->xs.getD k 0<st.vs.length):=λk O=>ap _ (by
  rw[yai,yam (i1 bH.len O)]
  exact List.getElem_mem _)
 have a7:V _:=yk g xs ap;have aD:V (jT st xs p=if xs.all (λi=>eW st i==pU st xs||eW st i==1)=true then iu (pU st xs) p st xs else .error (4,p)):=rfl;generalize jT st xs p=r at aD⊢
 have bx:V (∀H k,Kept 0 0 W H->k<t->∃b0 cap d0 off,u2=h0 b0 st.vs.length cap/\cF=some ⟨d0,off,none⟩/\H.cell? ⟨P,1,none⟩=some u2/\H.cell? ⟨d0,off+k,none⟩=some (h1 (xs.getD k 0:Nat))/\H.cell? ⟨b0,xs.getD k 0*6+1,none⟩=some (h1 (eW st (xs.getD k 0)))):=λH k aj O=>by
  obtain⟨b0,cap,af,_,h2⟩:=(bE.o.keep aj).lenc (C.o k O)
  obtain⟨d0,off,ah,_,_,h4⟩:=(HX.o.keep aj).at_ xaa
  exact⟨b0,cap,d0,off,af,ah,(bE.o.keep aj).c1,h4 k O,h2⟩
 have bI:=g.n;clear h g bH ap;go_enter func124,ntmps124;go_wp2_with fail;go_loopw [7,8] (λnv S H=>∃k:Nat,k<=t/\S=h1 k/\nv=h1 (pU st (xs.take k))/\V (Kept 0 0 W H)) (λ_ S _=>t-(intOf S).toNat)
 case atStart=>exact⟨0,yae,rfl,rfl,Kept.refl 0 0 W⟩
 case round=>
  obtain⟨k,O,rfl,rfl,aG⟩:=hrel;by_cases hlt:k<t
  ·obtain⟨b0,cap,d0,off,af,bg,c1,c2,c3⟩:=bx.o wr k aG.o hlt;subst af bg;have au:V _:=wg st xs k (i1 ao.o hlt);have a2:=C.o k hlt;generalize xs.getD k 0=x at c2 c3 au a2;generalize eW st x=l at c3 au;generalize pU st (xs.take k)=m at au⊢;go_upto_region 5 with fail;go_quiet (fail)
   have a0:V _:=Kept.trans aG.o (eH 0 0 wr nq);have aM:(wr.drewN nq).cell? ⟨P,1,none⟩=some (h0 b0 st.vs.length cap):=c1;have bi:(wr.drewN nq).cell? ⟨d0,off+k,none⟩=some (h1 (x:Nat)):=c2;have aI:(wr.drewN nq).cell? ⟨b0,x*6+1,none⟩=some (h1 l):=c3;clear c1 c2 c3 aG;generalize wr.drewN nq=cc at a0 aM bi aI⊢;by_cases z:m<l
   ·have R:V _:=au.o.trans (h7 z);go_upto_region 6 with fail;go_quiet (fail)
    have cp:V _:=Kept.trans a0.o (eH 0 0 cc nq);generalize cc.drewN nq=ca at cp⊢;clear aM bi aI;go_wp2_with fail;go_roundw;exact⟨k+1,by omega,by go_num,by rw[R.o],cp⟩;simp[intOf];omega
   have R:V _:=au.o.trans (h6 z);clear aM bi aI;go_wp2_with fail;go_roundw;exact⟨k+1,by omega,by go_num,by rw[R.o],a0⟩;simp[intOf];omega
  obtain rfl:k=t:=xaa;have bJ:=a7.o k (by rw[ao.o];exact yad);rw[yap (by rw[ao.o];exact yad)]at bJ⊢;generalize pU st xs=M at bJ aD⊢;clear a7;have bZ:V _:=aG.o;clear aG;go_upto_region 7 with fail;go_wp2_with fail;go_loopw [9] (λS H=>∃j:Nat,j<=k/\S=h1 j/\V (Kept 0 0 W H)/\V (∀q,q<j->(eW st (xs.getD q 0)==M||eW st (xs.getD q 0)==1)=true)) (λS _=>k-(intOf S).toNat)
  case atStart=>exact⟨0,yae,rfl,bZ,λq aA=>by omega⟩
  case round=>
   obtain⟨j,hj,rfl,aG,be⟩:=hrel;by_cases cr:j<k
   ·obtain⟨b0,cap,d0,off,af,bg,c1,c2,c3⟩:=bx.o wr j aG.o cr;subst af bg;have a2:=C.o j cr
    have bO:V (∀l,eW st (xs.getD j 0)=l->(l==M||l==1)=true->∀q,q<j+1->(eW st (xs.getD q 0)==M||eW st (xs.getD q 0)==1)=true):=λl ai hb q aA=>by
     by_cases c:q=j
     ·subst c;rw[ai];exact hb
     ·exact be.o q xaa
    have bl:V (∀l,eW st (xs.getD j 0)=l->(l==M||l==1)=false->xs.all (λi=>eW st i==M||eW st i==1)=false):=λl ai hb=>by
     rw[List.all_eq_false]
     refine⟨xs.getD j 0,?_,?_⟩
     ·rw[yai,yam (i1 ao.o cr)]
      exact List.getElem_mem _
     ·rw[ai,hb];simp
    generalize bk:eW st (xs.getD j 0)=l at c3;have Z:V _:=bk;clear bk;generalize xs.getD j 0=x at c2 c3 a2 Z bO bl;have bT:V (∀H,Kept 0 0 W H->_):=λH aj=>jw (bE.o.keep aj).c5 (bE.o.keep aj).c6 (bE.o.keep aj).fr 4 p (Mst P u1 (h0 b0 st.vs.length cap) u3 u4) (.inl rfl);go_upto_region 10 with fail;go_quiet (fail)
    have a0:V _:=Kept.trans aG.o (eH 0 0 wr nq);clear c1 c2 c3 aG;generalize wr.drewN nq=cc at a0⊢;cases aS:(l==M)
    ·have b8:(l !=M)=true:=by unfold bne;rw[aS];rfl
     cases a9:(l==1)
     ·have cz:(l !=1)=true:=by unfold bne;rw[a9];rfl
      have R:V _:=aD.o.trans (h6 (by rw[bl.o l Z.o (by rw[aS,a9];rfl)];simp));have ak:V _:=bT.o cc a0.o;clear bO bl;go_wp2_with (go_at_call 111;refine yaj ak.o ?_;rintro e aU ⟨rfl,G⟩);go_ret;rw[R.o];exact⟨rfl,G.c5,G.c6,(Mv.of a0.o).bad G.chg⟩
     have cz:(l !=1)=false:=by unfold bne;rw[a9];rfl
     have R:V _:=bO.o l Z.o (by rw[aS,a9];rfl);exact xgt
    have b8:(l !=M)=false:=by unfold bne;rw[aS];rfl
    have R:V _:=bO.o l Z.o (i4 aS);exact xgt
   obtain rfl:j=k:=xaa;have bR:V _:=be.o
   have cf:V (r=iu M p st xs):=aD.o.trans (h7 (by
    rw[List.all_eq_true]
    intro i hi
    obtain⟨q,aA,rfl⟩:=List.getElem_of_mem hi
    have:=be.o q (i2 ao.o aA)
    rw[yai,yam aA]at this
    exact this))
   have bQ:V _:=aG.o;clear aG be aD;have bq:V (FtI W wr P I u1 u2 u3 u4 bs st (.slice none 0 0) []):=⟨⟨u1,u2,u3,u4,bE.o.keep bQ.o,⟨(Mv.of (M:=Mst P u1 u2 u3 u4) bQ.o).chg,λb hb=>.inl (hb.elim id (λc=>by simp[Value.ownBlock]at c))⟩,λb hb=>by simp[Value.ownBlock]at hb⟩,yaw _ _ _ _⟩
   have HR0:V (r=uD [] (iu M p st (xs.drop 0))):=by show _=_;rw[GY];exact cf.o
   go_upto_region 14 with fail;go_wp2_with fail;go_loopw [11,12] (λaw S H=>∃(q:Nat) (y:LSt) (bw:List Nat),q<=j/\S=h1 q/\bw.length=q/\V (FtI W H P I u1 u2 u3 u4 bs y aw bw)/\V (Gd y)/\V (y.names=st.names)/\V (∀i,i<st.vs.length->i<y.vs.length/\eW y i=eW st i)/\V (r=uD bw (iu M p y (xs.drop q)))) (λ_ S _=>j-(intOf S).toNat)
   case atStart=>exact⟨0,st,[],yae,rfl,rfl,bq,bv,(show V (st.names=st.names) from rfl),(show V (∀i,i<st.vs.length->i<st.vs.length/\eW st i=eW st i) from λi hi=>⟨hi,rfl⟩),HR0⟩
   case round=>
    obtain⟨q,y,bw,aA,rfl,(d:V _),bf,b1,aZ,aY,Y⟩:=hrel;by_cases cD:q<j
    ·obtain⟨ba,bb,bc,bo,aq,ae,bh⟩:=bf.o.ex;obtain⟨d0,off,rfl,_,_,aC⟩:=(HX.o.mv ae).at_ xaa;have cQ:=aC q cD;have cw:=C.o q cD;obtain⟨cj,aF⟩:=aY.o _ cw
     have K:V (xs.drop q=xs.getD q 0::xs.drop (q+1)):=by
      show _=_;rw[List.drop_eq_getElem_cons (i1 ao.o cD),yai,yam (i1 ao.o cD)];rfl
     have ab:V _:=bR.o q cD;obtain⟨b0,cH,bg,ck,a6⟩:=aq.lenc cj;have b7:=aq.c1;rw[aF]at a6;have ay:V _:=aq;have aB:V _:=ae;have bP:V _:=bh;rw[<-aF]at ab;generalize xs.getD q 0=x at cQ cw cj aF K ab a6;have cI:V _:=ae.chg.size;have cJ:=b1.o.n;subst bg;clear aC aq ae bh;by_cases aJ:eW st x<M
     ·have ci:eW y x=1:=by
       have h:=ab.o;rw[aF]at h;have:(eW st x==M)=false:=yax xaa;rw[this,Bool.false_or]at h;rw[aF];simpa using h
      have aP:eW y x<M:=i1 aF aJ
      have T:V (∀H,_):=λH=>gG H 10 M (x:Int) 0 0;have al:V (∀H,Kept 0 0 wr H->_):=λH aj=>mn (ay.o.keep aj) b1.o (eJ 10 M (x:Int) 0 0) bJ (show(0:Nat)<18446744073709551616 by decide) p;have cB:V _:=Kz cj ci bJ;have B:V (fI y (eJ 10 M (x:Int) 0 0) p=if kz (y.vs++[eJ 10 M (x:Int) 0 0])=true then .error (5,p)else .ok ({y with vs:=y.vs++[eJ 10 M (x:Int) 0 0]},y.vs.length)):=rfl;have aX:V (∀u fM,fI y (eJ 10 M (x:Int) 0 0) p=.ok (u,fM)->r=uD (bw++[fM]) (iu M p u (xs.drop (q+1)))):=λu fM e=>by rw[Y.o,K.o,pO aP e,wi]
      have aW:V (∀f,fI y (eJ 10 M (x:Int) 0 0) p=.error f->r=.error f):=λf e=>by rw[Y.o,K.o,pP aP e];rfl
      generalize eW st x=l at a6 aJ;cases hb:kz (y.vs++[eJ 10 M (x:Int) 0 0])
      ·rw[hb,h6 xac]at B;rw[B.o]at al;have R2:V _:=aX.o _ _ B.o;have bV:V _:=b1.o.put cB.o (show(0:Nat)<18446744073709551616 by decide) hb
       have cx:V (∀i,i<st.vs.length->i<(LSt.mk y.ins (y.vs++[eJ 10 M (x:Int) 0 0]) y.outs y.names y.calls).vs.length/\eW (LSt.mk y.ins (y.vs++[eJ 10 M (x:Int) 0 0]) y.outs y.names y.calls) i=eW st i):=λi hi=>by
        obtain⟨F,h2⟩:=aY.o i hi
        refine⟨by simp only[yal];omega,?_⟩
        rw[<-h2]
        unfold eW
        simp only
        rw[yai,yat F,<-yai]
       have bB:V ((LSt.mk y.ins (y.vs++[eJ 10 M (x:Int) 0 0]) y.outs y.names y.calls).names=st.names):=aZ.o;have bG:V _:=bf.o.row;generalize bM:y.vs.length=ar at al R2;have cK:ar<=2000:=xaa;clear hb B aX aW ci aP aF ab K Y cB
       go_upto_region 21 with (first
        |(go_at_call 79;refine yaj (T.o _) ?_;rintro e am ⟨rfl,av⟩)
        |(go_at_call 115;refine yaj (al.o _ av) ?_;intro e aU bm;obtain⟨rfl,aR,bd,bu,bC,aO,aL⟩:=bm))
       have HFn:V _:=FtI.step (aB.o.keep av) bP.o (eN bG.o av) aO aL;have cG:V (W.heap.size<=aU.heap.size):=by show _<=_;have:=cI.o;have:=av.size;have:=aL.chg.size;omega
       clear cI bf ay aB bP bG cQ a6 b7 av aO aL al T bM;have aH:(aU.alloc (.cells #[h1 ar] 3)).cell? ⟨aU.heap.size,0,none⟩=some (h1 ar):=by rw[yav];rfl
       have aN:=eA 0 0 aU (.cells #[h1 ar] 3);have br:V _:=HFn.o.keep aN;go_wp2_with (first|(at_builtin;refine jz _ rfl _ _ rfl W.heap.size _ bw rfl br.o.row ⟨aU.heap.size,0,none⟩ ar rfl aH ?c2 ?c3 ?_)|fail)
       case c2=>have:=d.o;omega
       case c3=>have:=cG.o;simp;omega
       intro g9 cap9 n9 bn an b9 bF ch;have R1:V _:=FtI.app (st:={y with vs:=y.vs++[eJ 10 M (x:Int) 0 0]}) bE.o bB.o br.o b9 bF (ch.imp id (λe=>by rw[e];simp));clear b9 bF ch an aN aH;go_wp2_with fail;go_roundw;exact⟨q+1,_,bw++[ar],by omega,by go_num,by rw[yal,d.o];rfl,R1,bV,bB,cx,R2⟩;simp[intOf];omega
      rw[hb,h7 rfl]at B;rw[B.o]at al;have R2:V _:=aW.o _ B.o;clear hb B aX aW ci aP aF ab K Y cB
      go_upto_region 21 with (first
       |(go_at_call 79;refine yaj (T.o _) ?_;rintro e am ⟨rfl,av⟩)
       |(go_at_call 115;refine yaj (al.o _ av) ?_;intro e aU bm;obtain⟨rfl,bK,b3,cA⟩:=bm))
      have az:V _:=bK;have aT:V _:=b3;have bS:V _:=(aB.o.keep av).bad ⟨cA.os,cA.tape,cA.output,cA.size,λi hi ag=>cA.block i hi (λc=>ag (.inl c))⟩;clear bK b3 cA;go_wp2_with fail;go_ret;rw[R2.o];exact⟨rfl,az.o,aT.o,bS.o⟩
     have R2:V (r=uD (bw++[x]) (iu M p y (xs.drop (q+1)))):=by
      show _=_;rw[Y.o,K.o,oM (i1 aF aJ),wi]
     generalize eW st x=l at a6 aJ;clear aF ab K Y;have aH:(wr.alloc (.cells #[h1 x] 3)).cell? ⟨wr.heap.size,0,none⟩=some (h1 x):=by rw[yav];rfl
     have aN:=eA 0 0 wr (.cells #[h1 x] 3);have br:V _:=bf.o.keep aN;go_wp2_with (first|(at_builtin;refine jz _ rfl _ _ rfl W.heap.size _ bw rfl br.o.row ⟨wr.heap.size,0,none⟩ x rfl aH ?c2 ?c3 ?_)|fail)
     case c2=>have:=d.o;omega
     case c3=>have:=cI.o;simp;omega
     intro g9 cap9 n9 bn an b9 bF ch;have R1:V _:=FtI.app bE.o aZ.o br.o b9 bF (ch.imp id (λe=>by rw[e];simp));clear b9 bF ch an aN aH;go_wp2_with fail;go_roundw;exact⟨q+1,y,bw++[x],by omega,by go_num,by rw[yal,d.o];rfl,R1,b1,aZ,aY,R2⟩;simp[intOf];omega
    obtain rfl:q=j:=xaa
    have R:V (r=.ok (y,bw)):=by
     show _=_;rw[Y.o,List.drop_eq_nil_of_le (by rw[ao.o];exact yad)];show Except.ok (y,bw++[])=_;rw[List.append_nil]
    obtain⟨ba,bb,bc,bo,aq,ae,bh⟩:=bf.o.ex;obtain⟨bA,cy,ho⟩:=je bf.o.row
    have b5:V (XsR (Mst P ba bb bc bo) wr bA bw.length bw):=by
     refine⟨rfl,λbN=>?_⟩;have a8:=bf.o.row;rcases a8.2 with⟨_,c⟩|⟨g,c,ad,e,U,aV,aa,_,ct,bX⟩
     ·omega
     rw[ho]at e;cases e
     have aK:g<wr.heap.size:=by
      rcases Nat.lt_or_ge g wr.heap.size with c|c
      ·exact c
      rw[Array.getElem?_eq_none c]at aV;cases aV
     refine⟨g,0,rfl,bh g (by rw[ho];simp[Value.ownBlock]),aK,λk O=>?_⟩;rw[Nat.zero_add,cell_of_row wr g _ ad _ _ aV,<-Array.getElem?_toList];have:(ad.toList.take (bw.length*1))[k]? =(bw.map λj:Nat=>Value.int .i64 (j:Int))[k]?:=by rw[bX]
     rw[List.getElem?_take_of_lt xaa]at this;rw[this,List.getElem?_map,yai,yam O];rfl
    have ay:V _:=aq;have aB:V (Mv (Mst P u1 u2 u3 u4) W (Mst P ba bb bc bo) wr):=⟨ae.chg,λb hb=>ae.new b (.inl hb)⟩
    clear aq ae bh bf;subst ho;go_wp2_with fail;go_ret;rw[R.o];exact⟨bA,cy,rfl,ba,bb,bc,bo,ay.o,aB.o,b5.o⟩
def spQ(ts:List Tok)(k:Nat):SpS:=me ⟨0,[],[]⟩ (ts.take k)
theorem Hg(h:k<ts.length):spQ ts (k+1)=iq (spQ ts k) (ts.getD k ih):=by
 unfold spQ;rw[yau h,pl,yai,yam h];rfl
theorem Qi:∀(ts:List Tok) (q:SpS),q.d-ts.length<=(me q ts).d/\(me q ts).d<=q.d+ts.length
 |[],q=>by show q.d-0<=q.d/\q.d<=q.d+0;omega
 |t::ts,q=>by
  rw[kQ,yaq]
  have F:=Qi ts (iq q t)
  grind[iq]
theorem Ov:-(k:Int)<=(spQ ts k).d/\(spQ ts k).d<=k:=by
 have h:=Qi (ts.take k) ⟨0,[],[]⟩;grind[spQ]
def lO(ts:List Tok)(f:Nat×Nat):List Tok:=(ts.drop f.1).take (f.2-f.1)
theorem Ej{br}(h:k<ts.length)(b0:br<=k):lO ts (br,k+1)=lO ts (br,k)++[ts.getD k ih]:=by
 unfold lO;simp only;have e:k+1-br=(k-br)+1:=xaa;have ai:k-br<(ts.drop br).length:=by grind
 rw[e,yau ai,List.getElem_drop,yai,yam h];simp_all
theorem Hh{f}(h:f.2<=ts.length):(lO ts f).length=f.2-f.1:=by
 grind[lO]
def vC(g off cap:Nat)(f:Nat×Nat):Value:=.slice (some ⟨g,off+f.1*3,none⟩) (f.2-f.1) (cap-f.1)
theorem Ow:(prog.info? 133).map (λi=>(i.zero,i.size,i.bytes))=some (some (.slice none 0 0),1,24):=by kernel_rfl
theorem yt:∃b1,prog.info? 133=some b1/\b1.zero=some (.slice none 0 0)/\b1.size=1/\b1.bytes=24:=by
 have h:=Ow;simp_all
theorem oS(w){o a}(au:o.guard=none)(s x)
  (ho:o.op=.call {callee:=.builtin .append,args:=#[s,x],argTypes:=#[174,174]})
  (I) (v) (Y) (aw:a.eval s=v) (bq:w.ownsRow I 133 1 v Y.length Y)
  (av) (aX) (nn aK) (ap:a.eval x=.slice (some av) 1 1) (d:w.cell? av=some (.slice aX nn aK))
  (f:Y.length+1<=1000000) (ae:I<=w.heap.size)
  (h:∀g cap n B,n=Y.length+1->B.ownsRow I 133 1 (h0 g n cap) (Y.length+1) (Y++[.slice aX nn aK])->Chg (λb=>v.ownBlock=some b) w B->(v.ownBlock=some g\/g=w.heap.size)->wpList prog bW Q rest (a.put o.dst (h0 g n cap)) B):wpList prog bW Q (o::rest) a w:=by
 obtain⟨b1,hi,hz0,hz1,hz2⟩:=yt;refine wpList_append_lies w au s x _ ho I 133 _ _ 1 _ underlying174 hi hz0 hz1 hz2 rfl xab v _ _ aw bq _ 1 1 [.slice aX nn aK] ap rfl ?_ ?_ xab (by unfold maxLen;omega) xaa ae _ rfl ?_
 ·grind[Addr.add]
 ·intro u a6;simp at a6;subst a6;rfl
 intro g cap B F h2 h3 _;exact h g _ _ _ rfl F (fT h2) h3
theorem Ak{W}{e s:Nat}{xs}(k:Kept 0 0 w W)(f:W.ownsRow w.heap.size e s v n xs)(c:Chg (λb=>v.ownBlock=some b) W H):Kept 0 0 w H:=
 Chg.kept k c (λ_ hi=>(eG f hi).1)
structure SgR(W:World)(g lo:Nat)(a:Option Addr)(segs:List (List Tok)):Prop where
 at_:0<segs.length->∃gr,a=some ⟨gr,0,none⟩/\lo<=gr/\gr<W.heap.size/\∀i,i<segs.length->∃o c,W.cell? ⟨gr,i,none⟩=some (.slice (some ⟨g,o,none⟩) (segs.getD i []).length c)/\TkA W g o (segs.getD i []).length (segs.getD i [])/\(segs.getD i []).length<=c
theorem Al(W a cap):Calls prog 127 #[.slice a 0 cap] W λe H=>e=.returned (.slice none 0 0)/\H=W:=by
 go_enter func127,ntmps127;go_wp2;go_ret;exact⟨rfl,rfl⟩
theorem CN(W g off m cap ts)(f:TkA W g off m ts)(ao:m<=5000)(ak:0<m)(aW:m<=cap)(bc:(spQ ts m).cur≠[]):
  Calls prog 127 #[.slice (some ⟨g,off,none⟩) m cap] W λe H=>∃a c,e=.returned (.slice a (fL ts).length c)/\SgR H g W.heap.size a (fL ts)/\Kept 0 0 W H:=by
 have aD:V _:=f;have HL:V _:=f.len
 have HE:V (fL ts=(spQ ts m).ou++[(spQ ts m).cur]):=by
  show _=_;unfold fL spQ;rw[h6 (by intro c;rw[c]at f;have:=f.len;grind),<-f.len,List.take_length]
 have cW:V _:=bc;have hz0:((m:Int)==0)=false:=by grind
 clear f bc;go_enter func127,ntmps127;go_wp2_with fail;go_loopw [3,4,5,6] (λaw u cQ S H=>∃(k br:Nat) (Y:List (Nat×Nat)),k<=m/\br<=k/\S=h1 k/\cQ=h1 br/\u=h1 (spQ ts k).d/\Y.length<=k/\V ((spQ ts k).cur=lO ts (br,k))/\V ((spQ ts k).ou=Y.map (lO ts))/\V (∀f∈Y,f.1<=f.2/\f.2<=m)/\V (H.ownsRow W.heap.size 133 1 aw Y.length (Y.map (vC g off cap)))/\V (Kept 0 0 W H)) (λ_ _ _ S _=>m-(intOf S).toNat)
 case atStart=>exact⟨0,0,[],yae,yad,rfl,rfl,rfl,yad,(show(spQ _ 0).cur=lO ts _ from by unfold lO;simp;rfl),(show(spQ _ 0).ou=[] from rfl),(λf ba=>by cases ba),yaw _ _ _ _,Kept.refl 0 0 W⟩
 case round=>
  obtain⟨k,br,Y,O,B,rfl,rfl,rfl,b8,aj,l,a7,K,aG⟩:=hrel;by_cases hlt:k<m
  ·have ab:k<ts.length:=by rw[HL.o];exact hlt
   have c0:=(aD.o.keep aG.o).c0 k hlt;have au:V _:=Hg ab;have bM:=Ov (ts:=ts) (k:=k);have y:V _:=Ej ab B;generalize spQ _ k=Q at au bM aj l⊢;generalize ts.getD k _=C at c0 au y;obtain⟨d,ad,out⟩:=Q;simp only at bM aj l⊢;have t:V (ad++[C]=lO ts (br,k+1)):=by show _=_;rw[y.o,aj.o]
   by_cases F:C.sym=[40]
   ·have R:V (spQ ts _=⟨d+1,ad++[C],out⟩):=au.o.trans (by unfold iq;rw[h7 F]);have h:V ((spQ ts (k+1)).cur=lO ts (br,k+1)):=by show _=_;rw[R.o];exact t.o
    have j:V ((spQ ts (k+1)).ou=Y.map (lO ts)):=by show _=_;rw[R.o];exact l.o
    have aS:(C.sym==[40])=true:=i4 F
    have aR:IntKind.i64.wrap (d+1)=d+1:=by rw[IntKind.wrap_i64];omega
    generalize C.sym=s at c0 aS;clear F au y ab;exact xcn
   by_cases h2:C.sym=[41]
   ·have R:V (spQ ts _=⟨d-1,ad++[C],out⟩):=au.o.trans (by unfold iq;rw[h6 F,h7 h2]);have h:V ((spQ ts (k+1)).cur=lO ts (br,k+1)):=by show _=_;rw[R.o];exact t.o
    have j:V ((spQ ts (k+1)).ou=Y.map (lO ts)):=by show _=_;rw[R.o];exact l.o
    have aS:=yax F;have a9:(C.sym==[41])=true:=i4 h2
    have aR:IntKind.i64.wrap (d-1)=d-1:=by rw[IntKind.wrap_i64];omega
    generalize C.sym=s at c0 aS a9;clear F h2 au y ab;exact xcn
   have aS:=yax F;have a9:=yax h2;by_cases h3:C.sym=[44]
   ·have bV:(C.sym==[44])=true:=by rw[h3];rfl
    by_cases aO:d=0
    ·subst aO;have R:V (spQ ts _=⟨0,_,out++[ad]⟩):=au.o.trans (by unfold iq;rw[h6 F,h6 h2,h7 ⟨h3,rfl⟩]);have h:V ((spQ ts (k+1)).cur=lO ts (k+1,k+1)):=by show _=_;rw[R.o];unfold lO;simp
     have j:V ((spQ ts (k+1)).ou=(Y++[(br,k)]).map (lO ts)):=by show _=_;rw[R.o,List.map_append];simp only;rw[l.o,aj.o];rfl
     have RB:V (∀f∈Y++[(br,k)],f.1<=f.2/\f.2<=m):=λf ba=>by
      rcases List.mem_append.1 ba with c|c
      ·exact a7.o f c
      ·simp only[List.mem_singleton]at c;subst c;exact⟨B,by omega⟩
     generalize C.sym=s at c0 aS a9 bV;clear F h2 h3 au y ab;have bP:(0:Int)<=br:=xaa;have aR:(br:Int)<=k:=xaa;have bd:(k:Int)<=cap:=xaa;have af:((k:Int)-br).toNat=k-br:=xaa;have bC:br<cap:=xaa;have aH:(wr.alloc (.cells #[.slice (some ⟨g,off+br*3,none⟩) (k-br) (cap-br)] 133)).cell? ⟨wr.heap.size,0,none⟩=some (.slice (some ⟨g,off+br*3,none⟩) (k-br) (cap-br)):=by rw[yav];rfl
     have aN:=eA 0 0 wr (.cells #[.slice (some ⟨g,off+br*3,none⟩) (k-br) (cap-br)] 133)
     have b:V ((wr.alloc (.cells #[.slice (some ⟨g,off+br*3,none⟩) (k-br) (cap-br)] 133)).ownsRow W.heap.size 133 1 u3 (Y.map (vC g off cap)).length (Y.map (vC g off cap))):=by
      rw[List.length_map];exact eN K.o aN
     go_wp2_with (first|(at_builtin;refine oS _ rfl _ _ rfl _ _ _ rfl b.o _ _ _ _ rfl aH ?c2 ?c3 ?_)|fail)
     case c2=>rw[List.length_map];omega
     case c3=>have:=aG.o.size;simp;omega
     intro g9 cap9 n9 bn an b9 bF ch
     have R1:V (bn.ownsRow W.heap.size 133 1 (h0 g9 n9 cap9) (Y++[(br,k)]).length ((Y++[(br,k)]).map (vC g off cap))):=by
      rw[List.map_append,yal];show World.ownsRow _ _ _ _ _ _ _;simpa[vC] using b9
     have R2:V _:=Ak (aG.o.trans aN) b.o bF;clear b9 bF ch an aN aH;go_wp2_with fail;go_roundw;exact⟨k+1,k+1,Y++[(br,k)],by omega,yad,by go_num,by go_num,by rw[R.o],by simp;omega,h,j,RB,R1,R2⟩;simp[intOf];omega
    have R:V (spQ ts _=⟨d,ad++[C],out⟩):=au.o.trans (by unfold iq;rw[h6 F,h6 h2,h6 (λc=>aO c.2)]);have h:V ((spQ ts (k+1)).cur=lO ts (br,k+1)):=by show _=_;rw[R.o];exact t.o
    have j:V ((spQ ts (k+1)).ou=Y.map (lO ts)):=by show _=_;rw[R.o];exact l.o
    have hd0:=yax aO;generalize C.sym=s at c0 aS a9 bV;clear F h2 h3 au y ab aO;exact xcn
   have R:V (spQ ts _=⟨d,ad++[C],out⟩):=au.o.trans (by unfold iq;rw[h6 F,h6 h2,h6 (λc=>h3 c.1)]);have h:V ((spQ ts (k+1)).cur=lO ts (br,k+1)):=by show _=_;rw[R.o];exact t.o
   have j:V ((spQ ts (k+1)).ou=Y.map (lO ts)):=by show _=_;rw[R.o];exact l.o
   have bV:=yax h3;generalize C.sym=s at c0 aS a9 bV;clear F h2 h3 au y ab;exact xcn
  obtain rfl:k=m:=xaa
  have Z:br<k:=by
   rcases Nat.lt_or_ge br k with c|c
   ·exact c
   exfalso;apply cW.o;rw[aj.o];unfold lO;simp only;rw[show k-br=0 by omega,List.take_zero]
  have x:V (fL ts=(Y++[(br,k)]).map (lO ts)):=by
   show _=_;rw[HE.o,l.o,aj.o,List.map_append];rfl
  have bP:(0:Int)<=br:=xaa;have aR:(br:Int)<=k:=xaa;have bd:(k:Int)<=cap:=xaa;have af:((k:Int)-br).toNat=k-br:=xaa;have bC:br<cap:=xaa;have aH:(wr.alloc (.cells #[.slice (some ⟨g,off+br*3,none⟩) (k-br) (cap-br)] 133)).cell? ⟨wr.heap.size,0,none⟩=some (.slice (some ⟨g,off+br*3,none⟩) (k-br) (cap-br)):=by rw[yav];rfl
  have aN:=eA 0 0 wr (.cells #[.slice (some ⟨g,off+br*3,none⟩) (k-br) (cap-br)] 133)
  have b:V ((wr.alloc (.cells #[.slice (some ⟨g,off+br*3,none⟩) (k-br) (cap-br)] 133)).ownsRow W.heap.size 133 1 u3 (Y.map (vC g off cap)).length (Y.map (vC g off cap))):=by
   rw[List.length_map];exact eN K.o aN
  generalize spQ _ k=Q at*;go_wp2_with (first|(at_builtin;refine oS _ rfl _ _ rfl _ _ _ rfl b.o _ _ _ _ rfl aH ?c2 ?c3 ?_)|fail)
  case c2=>rw[List.length_map];omega
  case c3=>have:=aG.o.size;simp;omega
  intro g9 cap9 n9 bn an b9 bF ch;have aV:(fL ts).length=Y.length+1:=by rw[x.o];simp
  have R1:V (bn.ownsRow W.heap.size 133 1 (h0 g9 n9 cap9) (Y.length+1) ((Y++[(br,k)]).map (vC g off cap))):=by
   rw[List.map_append];show World.ownsRow _ _ _ _ _ _ _;simpa[vC] using b9
  have R2:V _:=Ak (aG.o.trans aN) b.o bF;have G:n9=(fL ts).length:=by rw[aV,an]
  have ar:V _:=G;have bb:V _:=aV;clear b9 bF ch an aN aH G aV;go_wp2_with fail;go_ret;refine⟨_,_,congrArg (λz=>Ending.returned (.slice _ z _)) ar.o,⟨λev=>?_⟩,R2.o⟩;have a8:=R1.o;have ai:=eG (k:=g9) a8 (by simp[Value.ownBlock]);refine⟨_,rfl,ai.1,ai.2,λi hi=>?_⟩;have bE:i<(Y++[(br,k)]).length:=by rw[x.o,List.length_map]at hi;exact hi
  have bi:=World.ownsRow.cells (g:=g9) a8 rfl i (vC g _ _ ((Y++[(br,k)]).getD i (0,0))) (by rw[List.getElem?_map,yai,yam bE];rfl);rw[iM,Nat.zero_add]at bi
  have T:(fL ts).getD i []=lO ts ((Y++[(br,k)]).getD i (0,0)):=by
   rw[x.o,yai,List.getElem?_map,yai,yam bE];rfl
  have aX:((Y++[(br,k)]).getD i (0,0)).1<=((Y++[(br,k)]).getD i (0,0)).2/\((Y++[(br,k)]).getD i (0,0)).2<=k:=by
   have ao:(Y++[(br,k)]).getD i (0,0)∈Y++[(br,k)]:=by
    rw[yai,yam bE];exact List.getElem_mem _
   rcases List.mem_append.1 ao with c|c
   ·exact a7.o _ c
   simp only[List.mem_singleton]at c;rw[c];exact⟨B,yad⟩
  generalize (Y++[(br,k)]).getD i _=f at bi T aX;rw[T,Hh (i1 HL.o aX.2)];exact⟨_,_,bi,(aD.o.keep R2.o).cut aX.2,by omega⟩
theorem WS.graph{W}(h:WS W P I u1 u2 u3 u4 bs st){lo}(aD:I<=lo)
  (aq:W.ownsRow lo 3 1 aR st.ins.length (st.ins.map (Value.int .i64))) (aT:W.ownsRow lo 86 6 bd vs.length (fN vs)) (b8:W.ownsRow lo 3 1 bu st.outs.length (st.outs.map (Value.int .i64)))
  (B:Apart aR bd) (m:Apart aR bu) (G:Apart bd bu) (hP:P<lo) (h4:∀b,u4.ownBlock=some b->b<lo)
  (d:W0.heap.size<=lo) (ad:Mv (Mst P u1 u2 u3 u4) W0 (Mst P u1 u2 u3 u4) W) (C:∀i,i<bs.length->BcOK (λb=>Mst P u1 u2 u3 u4 b\/W0.heap.size<=b) W (bs.getD i ip) (st.names.getD i (.val [] 0))):
  WS (((W.setCell ⟨P,0,none⟩ aR).setCell ⟨P,1,none⟩ bd).setCell ⟨P,2,none⟩ bu) P I aR bd bu u4 bs {st with vs:=vs}/\Mv (Mst P u1 u2 u3 u4) W0 (Mst P aR bd bu u4) (((W.setCell ⟨P,0,none⟩ aR).setCell ⟨P,1,none⟩ bd).setCell ⟨P,2,none⟩ bu):=by
 have an:∀{z:Value}{e s n:Nat}{xs:List _},W.ownsRow lo e s z n xs->z.ownBlock≠some P:=λaF c=>ix ((eG aF c).1)
 have u:=h.np.2.2.2;have f:∀{z:Value}{e s n:Nat}{xs:List _},W.ownsRow lo e s z n xs->Apart z _:=λaF k O a6=>i0 ((eG aF O).1) (h4 k a6)
 obtain⟨bh,aJ,y2⟩:=fd W P _ _ _ h.c0 h.c1 h.c2 aR bd bu;have aX:=fk W P aR bd bu
 have es:∀o,o≠0->o≠1->o≠2->(((W.setCell ⟨P,0,_⟩ aR).setCell ⟨P,1,_⟩ bd).setCell ⟨P,2,_⟩ bu).cell? _=W.cell? ⟨P,o,_⟩:=λo ak F h2=>by
  rw[eV _ _ _ _ _ _ (.inr (λe=>h2 e.symm)),eV _ _ _ _ _ _ (.inr (λe=>F e.symm)),eV _ _ _ _ _ _ (.inr (λe=>ak e.symm))]
 have au:Mv (Mst P u1 u2 u3 u4) W0 (Mst P aR bd bu u4) (((W.setCell ⟨P,0,none⟩ aR).setCell ⟨P,1,none⟩ bd).setCell ⟨P,2,none⟩ bu):=by
  refine⟨ad.bad (aX.chg1 (.inl rfl)),λb hb=>?_⟩;exact xej
 have j:Mv _ W (λb=>Mst P u1 u2 u3 u4 b\/W0.heap.size<=b) _:=⟨aX.chg1 (.inl (.inl rfl)),λb hb=>.inl hb⟩
 have g:∀{z:Value}{e s n:Nat}{xs:List _},W.ownsRow _ e s z n xs->z.ownBlock≠some P->(((W.setCell ⟨P,0,_⟩ aR).setCell ⟨P,1,_⟩ bd).setCell ⟨P,2,_⟩ bu).ownsRow I e s z n _:=λaF ag=>gy (eI (eI (eI aF ag) ag) ag) aD;refine⟨⟨by simpa using h.lt,λo=>by simp[h.fr o],bh,aJ,y2,(es 3 xab xab xab).trans h.c3,(es 4 xab xab xab).trans h.c4,(es 5 xab xab xab).trans h.c5,(es 6 xab xab xab).trans h.c6,g aq (an aq),g aT (an aT),g b8 (an b8),eI (eI (eI h.r4 u) u) u,⟨an aq,an aT,an b8,u⟩,⟨B,m,f aq,G,f aT,f b8⟩,h.nl,λi hi=>?_,h.sz⟩,au⟩;refine((C i hi).mv j).weak (λb hb=>?_);exact xej
theorem WS.old{W}(h:WS W0 P I u1 u2 u3 u4 bs st)(k:Kept 0 0 W0 W):∀i,i<bs.length->BcOK (λb=>Mst P u1 u2 u3 u4 b\/W0.heap.size<=b) W (bs.getD i ip) (st.names.getD i (.val [] 0)):=λi hi=>by
 have Y:∀{a:Option _}{n:Nat}{ts:List _},TkR _ _ a n _->TkR (λb=>Mst P u1 u2 u3 u4 b\/W0.heap.size<=b) W a n ts:=λht=>⟨ht.len,λag=>by
  obtain⟨g,off,e,F,h2⟩:=ht.at_ ag
  exact⟨g,_,e,λc=>c.elim F (λc=>ix h2.lt),h2.keep k⟩⟩
 have hb:=h.nb i hi
 cases aO:st.names.getD i (.val [] 0) with
 |val aS v=>rw[aO]at hb;exact hb
 |fn aS ps e=>
  rw[aO]at hb
  obtain⟨F,h2,h3,ts,h4,bK,b3⟩:=hb
  exact⟨F,h2,Y h3,_,h4,bK,Y b3⟩
theorem so{W:World}{U aV bg ar aW Z ae:Nat}{u xs ys}(F:W.ownsRow U af ar u Z xs)(h2:W.ownsRow aV bg aW v ae ys)(Y:af≠bg):Apart u v:=λk O aN=>by
 rcases F.2 with⟨c,_⟩|⟨g,c,ad,e,_,aM,_⟩
 ·rw[c]at O;simp[Value.ownBlock]at O
 ·rcases h2.2 with⟨t,_⟩|⟨aC,t,b,a2,_,bi,_⟩<;>grind[Value.ownBlock]
theorem qQ{W}(ak:WS W0 P I u1 u2 u3 u4 bs st)(ad:Kept 0 0 W0 W){aM aI}
  (aq:W.ownsRow W0.heap.size 3 1 (.slice U st.ins.length aM) st.ins.length (st.ins.map (Value.int .i64))) (aT:W.ownsRow W0.heap.size 86 6 (.slice J vs.length cap) vs.length (fN vs)) (b8:W.ownsRow W0.heap.size 3 1 (.slice aa st.outs.length aI) st.outs.length (st.outs.map (Value.int .i64))) (m:Apart (.slice U st.ins.length aM) (.slice aa st.outs.length aI))
  (O:∀v∈vs,v.k<18446744073709551616) (ai:∀k,k<vs.length->1<=(vs.getD k h9).len/\(vs.getD k h9).len<=1000) (j:Nat) (p:Nat):
  Calls prog 135 #[hZ P,eX U st.ins.length aM J vs.length cap aa st.outs.length aI,h1 j,h1 p] W λe H=>TrO W0 P I u1 u2 u3 u4 bs (if kz vs=true then .error (5,p)else .ok ({st with vs:=vs},j)) e H:=by
 have an:=eA 0 0 W (fx U st.ins.length aM J vs.length cap aa st.outs.length aI);have T:V _:=hH W (.slice U st.ins.length aM) (.slice J vs.length cap) (.slice aa st.outs.length aI);have f:GS W _ _ _ _ _ _ _ _ _:=⟨yi aq rfl,GW aT rfl O,yi b8 rfl⟩
 have aD:V _:=BD _ _ _ _ _ aM _ cap _ aI _ _ _ (f.keep an) ai;have bZ:V _:=ad.trans an;have bK:V _:=eN aq an;have aC:V _:=eN aT an;have aG:V _:=eN b8 an;have bO:V (Apart _ _/\Apart (.slice U _ _) _/\Apart (.slice J _ _) _):=⟨so aq aT xab,m,so aT b8 xab⟩
 have l:V _:=ak;clear f ai O an ad aq aT b8 m ak;obtain⟨r,aF⟩:∃r:Rs _,r=(if kz vs=true then .error (5,p)else .ok ({st with vs:=vs},j)):=⟨_,rfl⟩
 rw[<-aF];have aB:V _:=aF;clear aF;go_enter func135,ntmps135;go_wp2_with fail;generalize W.alloc _=ax at T aD bZ bK aC aG⊢;generalize W.heap.size=a7 at T⊢;obtain⟨_,bh,aJ,y2⟩:=T.o;cases hb:kz vs
 ·rw[hb]at aD;have R:V _:=aB.o.trans (h6 (by rw[hb];simp))
  have aA:V (∀H,Kept 0 0 _ H->_):=λH k=>
   WS.graph (l.o.keep (bZ.o.trans k)) (i0 l.o.sz l.o.lt) (eN bK.o k) (eN aC.o k) (eN aG.o k) bO.o.1 bO.o.2.1 bO.o.2.2 l.o.lt (λb hb=>(eG l.o.r4 hb).2) yad (Mv.of (bZ.o.trans k)) (l.o.old (bZ.o.trans k))
  have aw:V (∀H,Kept 0 0 _ H->(H.cell? _=some _/\H.cell? _=some _/\H.cell? _=some _)/\(∀o,H.frozen? _=false)/\G0 _ _ _ _ _):=λH k=>by
   have h:=l.o.keep (bZ.o.trans k)
   exact⟨⟨h.c0,h.c1,h.c2⟩,h.fr,T.o.keep k⟩
  clear hb aB;go_upto_region 3 with (go_at_call 130;refine yaj aD.o ?_;rintro e bf ⟨rfl,au⟩);obtain⟨⟨bH,bk,p2⟩,ba,⟨_,bl,aS,a9⟩⟩:=aw.o _ au;have bN:=ba 0;have f1:=ba 1;have f2:=ba 2;have ap:V _:=aA.o _ au;clear bh aJ y2 T aD aA aw ba au;go_wp2_with fail;go_ret;rw[R.o];exact⟨rfl,_,_,_,_,ap.o.1,ap.o.2⟩
 rw[hb]at aD;have R:V _:=aB.o.trans (h7 hb);have bT:V (∀H,Kept 0 0 _ H->_):=λH k=>jw (l.o.keep (bZ.o.trans k)).c5 (l.o.keep (bZ.o.trans k)).c6 (l.o.keep (bZ.o.trans k)).fr 5 p (Mst P u1 u2 u3 u4) (.inl rfl);clear hb aB
 go_wp2_with (first
  |(go_at_call 130;refine yaj aD.o ?_;rintro e bf ⟨rfl,au⟩)
  |(go_at_call 111;refine yaj (bT.o _ au) ?_;rintro e aO ⟨rfl,G⟩))
 go_ret;rw[R.o];exact⟨rfl,G.c5,G.c6,(Mv.of (bZ.o.trans au)).bad G.chg⟩
structure Sg1(W:World)(gr i q o c:Nat)(t:Tok):Prop where
 lt:gr<W.heap.size
 at_:W.cell? ⟨gr,i,none⟩=some (.slice (some ⟨q,o,none⟩) 1 c)
 tk:TkA W q o 1 [t]
theorem Sg1.keep{W o t}(h:Sg1 W b4 i q o c t)(k:Kept 0 0 W H):Sg1 H b4 i q o c t:=
 ⟨yak h.lt k.size,(k.cell (p:=⟨b4,i,none⟩) h.lt xaa).trans h.at_,h.tk.keep k⟩
theorem Sg1.cells{W o t}(h:Sg1 W b4 i q o c t):W.cell? ⟨b4,i,none⟩=some (.slice (some ⟨q,o,none⟩) 1 c)/\W.cell? ⟨q,o,none⟩=some (eK t.sym)/\W.cell? ⟨q,o+1,none⟩=some (h1 t.pos)/\W.cell? ⟨q,o+2,none⟩=some (eK t.text):=
 ⟨h.at_,by simpa using h.tk.c0 0 xaa,by simpa using h.tk.c1 0 xaa,by simpa using h.tk.c2 0 xaa⟩
theorem TrO.back{e}(k:Kept 0 0 W0 ax)(h:TrO ax P I u1 u2 u3 u4 bs r e H):TrO W0 P I u1 u2 u3 u4 bs r e H:=by
 rcases r with⟨c,p⟩|⟨st,v⟩
 ·obtain⟨F,h2,h3,h4⟩:=h;exact⟨F,h2,h3,(Mv.of k).bad h4⟩
 obtain⟨F,ba,bb,bc,bo,h2,h3⟩:=h;exact⟨F,_,_,_,_,h2,(Mv.of k).trans h3⟩
theorem TrO.ret{W e}(h:TrO W P I u1 u2 u3 u4 bs r e H):∃x:Int,e=.returned (h1 x):=by
 rcases r with⟨c,p⟩|⟨st,v⟩
 ·exact⟨_,h.1⟩
 exact⟨v,h.1⟩
theorem aQ.qbk(h:Zp:=by
 have B:V (mi _ ⟨_,_,C⟩ a n=if a9=qy then
  if eW _ a<=ii _ then .error _ else fI st _ aX
  else if eW _ a≠1 then .error (4,aX)
  else if ii _<1\/1000<ii _ then .error _ else fI _ _ aX):=rfl
 have ci:=ad.len a az;change 1<=eW _ a/\eW _ a<=1000 at ci;have bE:V _:=h;have au:V _:=a2;obtain⟨b0,cap,bg,ck,-⟩:=h.lenc az
 have HL:V (∀H,Kept 0 0 W H->H.cell? _=some (.slice _ _ _)/\H.cell? _=some _/\(H.cell? _=some _/\H.cell? _=some _/\H.cell? _=some _/\H.cell? _=some _)):=λH aj=>by
  obtain⟨a0,be,ah,_,c3⟩:=(bE.o.keep aj).lenc az
  rw[bg]at ah
  cases ah
  exact⟨(bE.o.keep aj).c1.trans (congrArg some bg),c3,(au.o.keep aj).cells⟩
 generalize mi _ _ a n=r at B⊢;generalize eW _ a=l at ci HL B;generalize f:st.vs.length=N at*;clear f h a2 ad bx bE au bg ck;unfold iT at b8⊢;obtain⟨bf,Y,K⟩:=n;simp only at b8 hb HL B⊢;generalize ii _=m at*;exact qeu):Zp:=h
theorem aQ.qev(h:Zp:=by
 obtain⟨aJ,y2,y3,y4,b5,cA⟩:=HL.o _ HK.o;exact qgk):Zp:=h
theorem aQ.qgl(h:Zp:=by
 clear aJ y2 y3 y4 b5 cA bL T HK av b8;obtain⟨aJ,y2,y3,y4,b5,cA⟩:=HL.o _ bQ.o;have bL:=y.o.c0;have U:=y.o.c1;clear HL;rcases O with O|O
 ·subst O;have S:V _:=B.o.trans (h6 xab);unfold vO at*;clear B;by_cases F:l=1
  ·subst F;have d:V _:=S.o.trans (h6 xac);clear S;by_cases h2:m<1
   ·have R:V _:=d.o.trans (h7 (.inl h2));exact xch
   by_cases h3:1000<m
   ·have R:V _:=d.o.trans (h7 (.inr h3));exact xch
   have R:V _:=d.o.trans (h6 xaa);have HQ:V _:=λH aj=>al.o H (eJ 10 m a 0 0) aj (by grind) (by simp_all);go_upto_region 12 with fail;exact xde
  have R:V _:=S.o.trans (h7 F);have ak:=yax F;exact xch
 subst O;have S:V _:=B.o.trans (h7 rfl);unfold qy at*;clear B;by_cases F:l<=m
 ·have R:V _:=S.o.trans (h7 F);exact xch
 have R:V _:=S.o.trans (h6 F);have HQ:V (∀H,Kept 0 0 W H->_):=λH aj=>al.o H (eJ 11 1 (a:Int) 0 m) aj (by show(1:Int)<=1/\(1:Int)<=1000;omega) yah;go_upto_region 6 with fail;exact xde):Zp:=h
open aQ in
theorem Hi{W}(h:WS W P I u1 u2 u3 u4 bs st)(ad:Gd st)(k)(O:k.sym=vO\/k.sym=qy)(a)(az:a<st.vs.length)(n)(bx:Dgs n.text){Z b7 o}(bS:2<=Z)(a2:Sg1 W b4 1 q o c n):
  Calls prog 133 #[hZ P,iT k,h1 a,h0 b4 Z b7] W (TrO W P I u1 u2 u3 u4 bs (mi st k a n)):=by
 obtain⟨a9,aX,C⟩:=k;simp only at O;have b8:V _:=λH=>zW n bx H;have bI:=ad.n;have hb:=pW bx yad;rw[List.take_length]at hb;have T:V _:=gV W a9 aX C;have HK:V _:=eA 0 0 W (.cells #[eK a9,h1 aX,eK C] 137);exact qbj
theorem Ox{W}(Y:V (MS w W U m1 af aa m3 ah vs ⟨o,a5,bj,X,bz,bD⟩ base R R' J cap))(bM:vs.length<=900000):MfC 58 W (MpR w U m1 af aa m3 ah vs ⟨o,a5,bj,X,bz,bD⟩ base R (eJ o a5 aQ 0 bz)) c0 c1 (h1 aQ) c3 c4 (hZ w.heap.size) cd ce b2 bp bY bU (hZ (w.heap.size+1+1)) (h1 a5) co cu cq cg cl cn bU:=by
 unfold MfC;intros;rename_i HK;have bf:V (∀ax,Kept 0 0 W ax->_):=λax k=>MS.call Y.o k (eJ o a5 aQ 0 bz) xaa;have aY:=Y.o.g.c0;have ar:=Y.o.g.c1;have aW:=Y.o.g.c2;have aw:=Y.o.v.c0;exact xcg
theorem Oy{W i}(Y:V (MS w W U m1 af aa m3 ah vs ⟨o,a5,bj,X,bz,bD⟩ base R R' J cap))(bM:vs.length<=900000):MfC 57 W (MpR w U m1 af aa m3 ah vs ⟨o,a5,bj,X,bz,bD⟩ base R (eJ 4 a5 aQ i 0)) c0 (h1 i) (h1 aQ) c3 c4 (hZ w.heap.size) cd ce b2 bp bY bU (hZ (w.heap.size+1+1)) (h1 a5) co cu cq cg cl cn bU:=by
 unfold MfC;intros;rename_i HK;have bf:V (∀ax,Kept 0 0 W ax->_):=λax k=>MS.call Y.o k (eJ 4 a5 aQ i 0) xaa;exact xae
theorem yu{W}(Y:V (MS w W U m1 af aa m3 ah vs ⟨o,a5,bj,X,bz,bD⟩ base R R' J cap))(bM:vs.length<=900000)(bI:(vs.length:Int)-1=N):MfC 53 W (λH=>H.cell? ⟨w.heap.size+1,0,none⟩=some (.slice U m1 af)/\H.cell? ⟨w.heap.size+1,1,none⟩=some (.slice J vs.length cap)/\H.cell? ⟨w.heap.size+1,2,none⟩=some (.slice aa m3 ah)/\V (∃aU,Kept 0 0 W aU/\H=fg aU (w.heap.size+1) (.slice U m1 af) (.slice J vs.length cap) (.slice aa m3 ah))) c0 c1 c2 c3 c4 (hZ w.heap.size) cd ce b2 bp (hZ (w.heap.size+1)) bU b6 cC co cu cq cg cl cn (h1 N):=by
 exact no_implicit_lambda% xaf
theorem Hj{W}(Y:V (MS w W U m1 af aa m3 ah vs ⟨o,a5,bj,X,bz,bD⟩ base R R' J cap))(bM:vs.length<=900000)(bI:(vs.length:Int)-1=N):MfC 59 W (λH=>H.cell? ⟨w.heap.size+1,0,none⟩=some (.slice U m1 af)/\H.cell? ⟨w.heap.size+1,1,none⟩=some (.slice J vs.length cap)/\H.cell? ⟨w.heap.size+1,2,none⟩=some (.slice aa m3 ah)/\V (∃aU,Kept 0 0 W aU/\H=fg aU (w.heap.size+1) (.slice U m1 af) (.slice J vs.length cap) (.slice aa m3 ah))) c0 c1 c2 c3 c4 (hZ w.heap.size) cd ce b2 bp (hZ (w.heap.size+1)) bU b6 cC co cu cq cg cl cn (h1 N):=by
 exact no_implicit_lambda% xaf
