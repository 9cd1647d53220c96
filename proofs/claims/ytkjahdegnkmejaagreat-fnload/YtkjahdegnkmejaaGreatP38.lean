import Derived.Test.YtkjahdegnkmejaaGreatP33
namespace Go.Proofs.Z
variable{Zp:Prop}
open Tryz
set_option maxRecDepth 1000000
set_option maxHeartbeats 0
open Go.RowKit Flt
attribute[local go_sem] eE eC eB
variable{W0 aq F:World}{bS:Array Oper}{M':Nat->Prop}{ts:List Tok}{rest:List Oper}{k P I bu i n q c:Nat}{a:Option Addr}{u1 u2 u3 v u4 aV bg o bq:Value}{Q:Exit->Act->World->Prop}{xs aU:List Nat}{r:Rs (LSt×Nat)}{bs:List Bc}{st:LSt}{vs:List Vl}
structure XsR(M:Nat->Prop)(W:World)(a:Option Addr)(n:Nat)(xs:List Nat):Prop where
 len:xs.length=n
 at_:0<n->∃g off,a=some ⟨g,off,none⟩/\¬M g/\g<W.heap.size/\∀k,k<n->W.cell? ⟨g,off+k,none⟩=some (.int .i64 (xs.getD k 0:Nat))
theorem XsR.mv{M W}(h:XsR M W a n xs)(k:Mv M W M' F):XsR M' F a n xs:=
 ⟨h.len,λhn=>by
  obtain⟨g,an,e,B,N,h3⟩:=h.at_ hn
  exact⟨g,_,e,λc=>(k.new g c).elim B (λc=>by omega),yak N k.chg.size,λj hj=>(k.chg.cell N B).trans (h3 j hj)⟩⟩
theorem XsR.keep{M W}(h:XsR M W a n xs)(k:Kept 0 0 W F):XsR M F a n xs:=h.mv (Mv.of k)
theorem WS.lenc{W}(h:WS W P I u1 u2 u3 u4 bs st)(hi:i<st.vs.length):∃g cap,u2=ia g st.vs.length cap/\g<W.heap.size/\W.cell? ⟨g,i*6+1,none⟩=some (ih (eW st i)):=by
 obtain⟨g,cap,e,_,N,_,bp⟩:=mV h.r2 xaa rfl;exact⟨g,_,e,N,(bp.at_ i hi).c1⟩
theorem TkR.weak{M W}(h:TkR M W a n ts)(bE:∀b,M' b->M b):TkR M' W a n ts:=
 ⟨h.len,λhn=>by obtain⟨g,an,e,B,N⟩:=h.at_ hn;grind⟩
theorem BcOK.weak{M W b d}(h:BcOK M W b d)(bE:∀b,M' b->M b):BcOK M' W b d:=by
 cases d with
 |val aa v=>exact h
 |fn aa ps e=>
  obtain⟨B,N,h3,ts,bp,bU,bz⟩:=h;exact⟨B,N,h3.weak bE,_,bp,bU,bz.weak bE⟩
theorem WS.side{W S}(h:WS W P I u1 u2 u3 u4 bs st)(c:Chg S W F)(a5:∀b,Mst P u1 u2 u3 u4 b->¬S b)(ai:∀i,i<bs.length->BcOK (Mst P u1 u2 u3 u4) F (bs.getD i i2) (st.names.getD i (.val [] 0))):WS F P I u1 u2 u3 u4 bs st:=by
 have d:=a5 P (.inl rfl);have e:∀o,_:=λo=>c.cell (p:=⟨P,o,none⟩) h.lt d;exact⟨yak h.lt c.size,λo=>(c.frozen h.lt d).trans (h.fr o),(e 0).trans h.c0,(e 1).trans h.c1,(e 2).trans h.c2,(e 3).trans h.c3,(e 4).trans h.c4,(e 5).trans h.c5,(e 6).trans h.c6,eQ h.r1 c (λb hb=>a5 b (.inr (.inl hb))),eQ h.r2 c (λb hb=>a5 b (.inr (.inr (.inl hb)))),eQ h.r3 c (λb hb=>a5 b (.inr (.inr (.inr (.inl hb))))),eQ h.r4 c (λb hb=>a5 b (.inr (.inr (.inr (.inr hb))))),h.np,h.ap,h.nl,ai,h.sz⟩
def FtO(W:World)(P B:Nat)(u1 u2 u3 u4:Value)(bs:List Bc)(r:Rs (LSt×List Nat))(e:Ending)(W':World):Prop:=
 match r with
 |.error (c,p)=>e=.returned (.slice none 0 0)/\W'.cell? ⟨P,5,none⟩=some (.int .i64 c)/\W'.cell? ⟨P,6,none⟩=some (.int .i64 (p:Int))/\Chg (Mst P u1 u2 u3 u4) W W'
 |.ok (st,js)=>∃a cap,e=.returned (.slice a js.length cap)/\∃v1 v2 v3 v4,WS W' P B v1 v2 v3 v4 bs st/\Mv (Mst P u1 u2 u3 u4) W (Mst P v1 v2 v3 v4) W'/\XsR (Mst P v1 v2 v3 v4) W' a js.length js
structure FtI(W W':World)(P B:Nat)(u1 u2 u3 u4:Value)(bs:List Bc)(st:LSt)(o:Value)(js:List Nat):Prop where
 ex:∃v1 v2 v3 v4,WS W' P B v1 v2 v3 v4 bs st/\Mv (Mst P u1 u2 u3 u4) W (λb=>Mst P v1 v2 v3 v4 b\/o.ownBlock=some b) W'/\(∀b,o.ownBlock=some b->¬Mst P v1 v2 v3 v4 b)
 row:W'.ownsRow W.heap.size 3 1 o js.length (js.map λj:Nat=>Value.int .i64 (j:Int))
theorem jr(w){o a}(am:o.guard=none)(s x)
  (aR:o.op=.call {callee:=.builtin .append,args:=#[s,x],argTypes:=#[24,24]})
  (I) (v) (aU) (aw:a.eval s=v) (bi:w.ownsRow I 3 1 v aU.length (aU.map λj:Nat=>Value.int .i64 (j:Int)))
  (al) (y:Nat) (aH:a.eval x=.slice (some al) 1 1) (d:w.cell? al=some (ih y))
  (f:aU.length+1<=1000000) (ae:I<=w.heap.size)
  (h:∀g cap n O,n=(aU++[y]).length->O.ownsRow I 3 1 (ia g n cap) (aU++[y]).length ((aU++[y]).map λj:Nat=>Value.int .i64 (j:Int))->Chg (λb=>v.ownBlock=some b) w O->(v.ownBlock=some g\/g=w.heap.size)->wpList prog bS Q rest (a.put o.dst (ia g n cap)) O):wpList prog bS Q (o::rest) a w:=by
 obtain⟨bY,hi,cg,b8,cc⟩:=info_parts qd;refine wpList_append_lies w am s x 24 aR I 3 bY (ih 0) 1 8 underlying24 hi cg b8 cc rfl xab v aU.length _ aw bi al 1 1 [ih y] aH rfl ?_ ?_ xab (by unfold maxLen;omega) xaa ae _ rfl ?_
 ·exact xhv
 ·intro u G;simp at G;subst G;rfl
 exact xfq
theorem FtI.keep{W z}(h:FtI W F P I u1 u2 u3 u4 bs st o aU)(k:Kept 0 0 F z):FtI W z P I u1 u2 u3 u4 bs st o aU:=by
 exact xia
theorem FtI.step{W aM bf bb bc C bB w}(bE:Mv (Mst P u1 u2 u3 u4) W (λb=>Mst P bf bb bc C b\/o.ownBlock=some b) aq)(b8:∀b,o.ownBlock=some b->¬Mst P bf bb bc C b)(bw:aq.ownsRow W.heap.size 3 1 o aU.length (aU.map λj:Nat=>Value.int .i64 (j:Int)))(a8:WS aM P I aV bg bq bB bs w)(bC:Mv (Mst P bf bb bc C) aq (Mst P aV bg bq bB) aM):FtI W aM P I u1 u2 u3 u4 bs w o aU:=by
 exact xcu
theorem aN.qbg(h:Zp:=by
 refine⟨⟨bf,bb,bc,C,B.side bn (λb hb c=>h3 b c hb) (λi hi=>?_),an,λb hb c=>?_⟩,?_⟩
 ·exact xih
 ·rw[l]at hb;subst hb;exact f c
 rw[yal,List.map_append];exact X):Zp:=h
open aN in
theorem FtI.app{W a7 d}(aj:WS W P I u1 u2 u3 u4 bs d)(R:st.names=d.names)(h:FtI W F P I u1 u2 u3 u4 bs st o aU){g9 n9 cap9 x:Nat}(X:a7.ownsRow W.heap.size 3 1 (ia g9 n9 cap9) (aU.length+1) ((aU.map λj:Nat=>Value.int .i64 (j:Int))++[ih x]))(bn:Chg (λb=>o.ownBlock=some b) F a7)(bR:o.ownBlock=some g9\/g9=F.heap.size):FtI W a7 P I u1 u2 u3 u4 bs st (ia g9 n9 cap9) (aU++[x]):=by
 exact qbf
theorem zw{W}(h:WS W P I u1 u2 u3 u4 bs st)(g:Gd st)(co t d4 xs)(a9:XsR (Mst P u1 u2 u3 u4) W co t xs)(hn:t<=100)(aH:∀i∈xs,i<st.vs.length)(p:Nat):
  Calls prog 114 #[ge P,.slice co t d4,ih p] W (FtO W P I u1 u2 u3 u4 bs (jN st xs p)):=by
 have bF:V _:=h;have bD:V _:=g;have bA:V _:=a9;have aD:V _:=a9.len
 have aa:V (∀k,k<t->xs.getD k 0<st.vs.length):=λk J=>aH _ (by
  rw[yai,yam (jn a9.len J)]
  exact List.getElem_mem _)
 have bj:V _:=xw g xs aH;have aO:V (jN st xs p=if xs.all (λi=>eW st i==pB st xs||eW st i==1)=true then iw (pB st xs) p st xs else .error (4,p)):=rfl;generalize jN st xs p=r at aO⊢
 have bx:V (∀F k,Kept 0 0 W F->k<t->∃b5 cap d2 an,u2=ia b5 st.vs.length cap/\co=some ⟨d2,an,none⟩/\F.cell? ⟨P,1,none⟩=some u2/\F.cell? ⟨d2,an+k,none⟩=some (ih (xs.getD k 0:Nat))/\F.cell? ⟨b5,xs.getD k 0*6+1,none⟩=some (ih (eW st (xs.getD k 0)))):=λF k al J=>by
  obtain⟨b5,cap,ad,_,N⟩:=(bF.o.keep al).lenc (aa.o k J)
  obtain⟨d2,an,ah,_,_,bp⟩:=(bA.o.keep al).at_ xaa
  exact⟨b5,cap,d2,an,ad,ah,(bF.o.keep al).c1,bp k J,N⟩
 have bL:=g.n;clear h g a9 aH;go_enter func114,ntmps114;go_wp2_with fail;go_loopw [7,8] (λnv G F=>∃k:Nat,k<=t/\G=ih k/\nv=ih (pB st (xs.take k))/\V (Kept 0 0 W F)) (λ_ G _=>t-(intOf G).toNat)
 case atStart=>exact⟨0,yae,rfl,rfl,Kept.refl 0 0 W⟩
 case round=>
  obtain⟨k,J,rfl,rfl,aS⟩:=hrel;by_cases aY:k<t
  ·obtain⟨b5,cap,d2,an,ad,be,c1,c2,c3⟩:=bx.o wr k aS.o aY;subst ad be;have aG:V _:=uZ st xs k (jn aD.o aY);have c6:=aa.o k aY;generalize xs.getD k 0=x at c2 c3 aG c6;generalize eW st x=l at c3 aG;generalize pB st (xs.take k)=m at aG⊢;go_upto_region 5 with fail;go_quiet (fail)
   have b0:V _:=Kept.trans aS.o (eJ 0 0 wr nq);have aX:(wr.drewN nq).cell? ⟨P,1,none⟩=some (ia b5 st.vs.length cap):=c1;have bk:(wr.drewN nq).cell? ⟨d2,an+k,none⟩=some (ih (x:Nat)):=c2;have ab:(wr.drewN nq).cell? ⟨b5,x*6+1,none⟩=some (ih l):=c3;clear c1 c2 c3 aS;generalize wr.drewN nq=cd at b0 aX bk ab⊢;by_cases u:m<l
   ·have H:V _:=aG.o.trans (iv u);go_upto_region 6 with fail;go_quiet (fail)
    have bm:V _:=Kept.trans b0.o (eJ 0 0 cd nq);generalize cd.drewN nq=bP at bm⊢;clear aX bk ab;go_wp2_with fail;go_roundw;exact⟨k+1,by omega,by go_num,by rw[H.o],bm⟩;simp[intOf];omega
   have H:V _:=aG.o.trans (ip u);clear aX bk ab;go_wp2_with fail;go_roundw;exact⟨k+1,by omega,by go_num,by rw[H.o],b0⟩;simp[intOf];omega
  obtain rfl:k=t:=xaa;have bE:=bj.o k (by rw[aD.o];exact yad);rw[yap (by rw[aD.o];exact yad)]at bE⊢;generalize pB st xs=M at bE aO⊢;clear bj;have aA:V _:=aS.o;clear aS;go_upto_region 7 with fail;go_wp2_with fail;go_loopw [9] (λG F=>∃j:Nat,j<=k/\G=ih j/\V (Kept 0 0 W F)/\V (∀q,q<j->(eW st (xs.getD q 0)==M||eW st (xs.getD q 0)==1)=true)) (λG _=>k-(intOf G).toNat)
  case atStart=>exact⟨0,yae,rfl,aA,λq am=>by omega⟩
  case round=>
   obtain⟨j,hj,rfl,aS,bl⟩:=hrel;by_cases cf:j<k
   ·obtain⟨b5,cap,d2,an,ad,be,c1,c2,c3⟩:=bx.o wr j aS.o cf;subst ad be;have c6:=aa.o j cf
    have bM:V (∀l,eW st (xs.getD j 0)=l->(l==M||l==1)=true->∀q,q<j+1->(eW st (xs.getD q 0)==M||eW st (xs.getD q 0)==1)=true):=λl ag hb q am=>by
     by_cases c:q=j
     ·subst c;rw[ag];exact hb
     ·exact bl.o q xaa
    have b9:V (∀l,eW st (xs.getD j 0)=l->(l==M||l==1)=false->xs.all (λi=>eW st i==M||eW st i==1)=false):=λl ag hb=>by
     rw[List.all_eq_false]
     refine⟨xs.getD j 0,?_,?_⟩
     ·rw[yai,yam (jn aD.o cf)]
      exact List.getElem_mem _
     ·rw[ag,hb];simp
    generalize bG:eW st (xs.getD j 0)=l at c3;have av:V _:=bG;clear bG;generalize xs.getD j 0=x at c2 c3 c6 av bM b9;have bo:V (∀F,Kept 0 0 W F->_):=λF al=>jp (bF.o.keep al).c5 (bF.o.keep al).c6 (bF.o.keep al).fr 4 p (Mst P u1 (ia b5 st.vs.length cap) u3 u4) (.inl rfl);go_upto_region 10 with fail;go_quiet (fail)
    have b0:V _:=Kept.trans aS.o (eJ 0 0 wr nq);clear c1 c2 c3 aS;generalize wr.drewN nq=cd at b0⊢;cases aW:(l==M)
    ·have bR:(l !=M)=true:=by unfold bne;rw[aW];rfl
     cases bd:(l==1)
     ·have bT:(l !=1)=true:=by unfold bne;rw[bd];rfl
      have H:V _:=aO.o.trans (ip (by rw[b9.o l av.o (by rw[aW,bd];rfl)];simp));have aw:V _:=bo.o cd b0.o;clear bM b9;go_wp2_with (go_at_call 101;refine yaj aw.o ?_;rintro e aM ⟨rfl,ba⟩);go_ret;rw[H.o];exact⟨rfl,ba.c5,ba.c6,(Mv.of b0.o).bad ba.chg⟩
     have bT:(l !=1)=false:=by unfold bne;rw[bd];rfl
     have H:V _:=bM.o l av.o (by rw[aW,bd];rfl);exact xha
    have bR:(l !=M)=false:=by unfold bne;rw[aW];rfl
    have H:V _:=bM.o l av.o (jL aW);exact xha
   obtain rfl:j=k:=xaa;have bJ:V _:=bl.o
   have d:V (r=iw M p st xs):=aO.o.trans (iv (by
    rw[List.all_eq_true]
    intro i hi
    obtain⟨q,am,rfl⟩:=List.getElem_of_mem hi
    have:=bl.o q (jv aD.o am)
    rw[yai,yam am]at this
    exact this))
   have bN:V _:=aS.o;clear aS bl aO;have aB:V (FtI W wr P I u1 u2 u3 u4 bs st (.slice none 0 0) []):=⟨⟨u1,u2,u3,u4,bF.o.keep bN.o,⟨(Mv.of (M:=Mst P u1 u2 u3 u4) bN.o).chg,λb hb=>.inl (hb.elim id (λc=>by simp[Value.ownBlock]at c))⟩,λb hb=>by simp[Value.ownBlock]at hb⟩,yaw _ _ _ _⟩
   have aK:V (r=tL [] (iw M p st (xs.drop 0))):=by show _=_;rw[F9];exact d.o
   go_upto_region 14 with fail;go_wp2_with fail;go_loopw [11,12] (λY G F=>∃(q:Nat) (y:LSt) (aU:List Nat),q<=j/\G=ih q/\aU.length=q/\V (FtI W F P I u1 u2 u3 u4 bs y Y aU)/\V (Gd y)/\V (y.names=st.names)/\V (∀i,i<st.vs.length->i<y.vs.length/\eW y i=eW st i)/\V (r=tL aU (iw M p y (xs.drop q)))) (λ_ G _=>j-(intOf G).toNat)
   case atStart=>exact⟨0,st,[],yae,rfl,rfl,aB,bD,(show V (st.names=st.names) from rfl),(show V (∀i,i<st.vs.length->i<st.vs.length/\eW st i=eW st i) from λi hi=>⟨hi,rfl⟩),aK⟩
   case round=>
    obtain⟨q,y,aU,am,rfl,(cu:V _),bi,cl,a5,a0,O⟩:=hrel;by_cases aJ:q<j
    ·obtain⟨bf,bb,bc,C,ar,ae,bI⟩:=bi.o.ex;obtain⟨d2,an,rfl,_,_,br⟩:=(bA.o.mv ae).at_ xaa;have cP:=br q aJ;have ca:=aa.o q aJ;obtain⟨bZ,af⟩:=a0.o _ ca
     have K:V (xs.drop q=xs.getD q 0::xs.drop (q+1)):=by
      show _=_;rw[List.drop_eq_getElem_cons (jn aD.o aJ),yai,yam (jn aD.o aJ)];rfl
     have S:V _:=bJ.o q aJ;obtain⟨b5,bW,be,cr,b4⟩:=ar.lenc bZ;have ce:=ar.c1;rw[af]at b4;have aj:V _:=ar;have aF:V _:=ae;have cq:V _:=bI;rw[<-af]at S;generalize xs.getD q 0=x at cP ca bZ af K S b4;have cR:V _:=ae.chg.size;have bX:=cl.o.n;subst be;clear br ar ae bI;by_cases ax:eW st x<M
     ·have cp:eW y x=1:=by
       have h:=S.o;rw[af]at h;have:(eW st x==M)=false:=yax xaa;rw[this,Bool.false_or]at h;rw[af];simpa using h
      have aI:eW y x<M:=jn af ax
      have X:V (∀F,_):=λF=>gq F 10 M (x:Int) 0 0;have ai:V (∀F,Kept 0 0 wr F->_):=λF al=>lV (aj.o.keep al) cl.o (eK 10 M (x:Int) 0 0) bE (show(0:Nat)<18446744073709551616 by decide) p;have cV:V _:=J3 bZ cp bE;have z:V (fQ y (eK 10 M (x:Int) 0 0) p=if kq (y.vs++[eK 10 M (x:Int) 0 0])=true then .error (5,p)else .ok ({y with vs:=y.vs++[eK 10 M (x:Int) 0 0]},y.vs.length)):=rfl;have aT:V (∀w ga,fQ y (eK 10 M (x:Int) 0 0) p=.ok (w,ga)->r=tL (aU++[ga]) (iw M p w (xs.drop (q+1)))):=λw ga e=>by rw[O.o,K.o,pt aI e,ve]
      have aP:V (∀f,fQ y (eK 10 M (x:Int) 0 0) p=.error f->r=.error f):=λf e=>by rw[O.o,K.o,pw aI e];rfl
      generalize eW st x=l at b4 ax;cases hb:kq (y.vs++[eK 10 M (x:Int) 0 0])
      ·rw[hb,ip xac]at z;rw[z.o]at ai;have R2:V _:=aT.o _ _ z.o;have bO:V _:=cl.o.put cV.o (show(0:Nat)<18446744073709551616 by decide) hb
       have cg:V (∀i,i<st.vs.length->i<(LSt.mk y.ins (y.vs++[eK 10 M (x:Int) 0 0]) y.outs y.names y.calls).vs.length/\eW (LSt.mk y.ins (y.vs++[eK 10 M (x:Int) 0 0]) y.outs y.names y.calls) i=eW st i):=λi hi=>by
        obtain⟨B,N⟩:=a0.o i hi
        refine⟨by simp only[yal];omega,?_⟩
        rw[<-N]
        unfold eW
        simp only
        rw[yai,yat B,<-yai]
       have au:V ((LSt.mk y.ins (y.vs++[eK 10 M (x:Int) 0 0]) y.outs y.names y.calls).names=st.names):=a5.o;have bn:V _:=bi.o.row;generalize d0:y.vs.length=Z at ai R2;have bY:Z<=2000:=xaa;clear hb z aT aP cp aI af S K O cV
       go_upto_region 21 with (first
        |(go_at_call 60;refine yaj (X.o _) ?_;rintro e ak ⟨rfl,aC⟩)
        |(go_at_call 105;refine yaj (ai.o _ aC) ?_;intro e aM bh;obtain⟨rfl,aV,bg,bq,bB,a8,bC⟩:=bh))
       have HFn:V _:=FtI.step (aF.o.keep aC) cq.o (eN bn.o aC) a8 bC;have cI:V (W.heap.size<=aM.heap.size):=by show _<=_;have:=cR.o;have:=aC.size;have:=bC.chg.size;omega
       clear cR bi aj aF cq bn cP b4 ce aC a8 bC ai X d0;have b1:(aM.alloc (.cells #[ih Z] 3)).cell? ⟨aM.heap.size,0,none⟩=some (ih Z):=by rw[yav];rfl
       have aL:=eA 0 0 aM (.cells #[ih Z] 3);have aN:V _:=HFn.o.keep aL;go_wp2_with (first|(at_builtin;refine jr _ rfl _ _ rfl W.heap.size _ aU rfl aN.o.row ⟨aM.heap.size,0,none⟩ Z rfl b1 ?c2 ?c3 ?_)|fail)
       case c2=>have:=cu.o;omega
       case c3=>have:=cI.o;simp;omega
       intro g9 cap9 n9 a7 a2 aQ ap bV;have R1:V _:=FtI.app (st:={y with vs:=y.vs++[eK 10 M (x:Int) 0 0]}) bF.o au.o aN.o aQ ap (bV.imp id (λe=>by rw[e];simp));clear aQ ap bV a2 aL b1;go_wp2_with fail;go_roundw;exact⟨q+1,_,aU++[Z],by omega,by go_num,by rw[yal,cu.o];rfl,R1,bO,au,cg,R2⟩;simp[intOf];omega
      rw[hb,iv rfl]at z;rw[z.o]at ai;have R2:V _:=aP.o _ z.o;clear hb z aT aP cp aI af S K O cV
      go_upto_region 21 with (first
       |(go_at_call 60;refine yaj (X.o _) ?_;rintro e ak ⟨rfl,aC⟩)
       |(go_at_call 105;refine yaj (ai.o _ aC) ?_;intro e aM bh;obtain⟨rfl,bU,bz,aZ⟩:=bh))
      have c9:V _:=bU;have cT:V _:=bz;have bK:V _:=(aF.o.keep aC).bad ⟨aZ.os,aZ.tape,aZ.output,aZ.size,λi hi hn=>aZ.block i hi (λc=>hn (.inl c))⟩;clear bU bz aZ;go_wp2_with fail;go_ret;rw[R2.o];exact⟨rfl,c9.o,cT.o,bK.o⟩
     have R2:V (r=tL (aU++[x]) (iw M p y (xs.drop (q+1)))):=by
      show _=_;rw[O.o,K.o,om (jn af ax),ve]
     generalize eW st x=l at b4 ax;clear af S K O;have b1:(wr.alloc (.cells #[ih x] 3)).cell? ⟨wr.heap.size,0,none⟩=some (ih x):=by rw[yav];rfl
     have aL:=eA 0 0 wr (.cells #[ih x] 3);have aN:V _:=bi.o.keep aL;go_wp2_with (first|(at_builtin;refine jr _ rfl _ _ rfl W.heap.size _ aU rfl aN.o.row ⟨wr.heap.size,0,none⟩ x rfl b1 ?c2 ?c3 ?_)|fail)
     case c2=>have:=cu.o;omega
     case c3=>have:=cR.o;simp;omega
     intro g9 cap9 n9 a7 a2 aQ ap bV;have R1:V _:=FtI.app bF.o a5.o aN.o aQ ap (bV.imp id (λe=>by rw[e];simp));clear aQ ap bV a2 aL b1;go_wp2_with fail;go_roundw;exact⟨q+1,y,aU++[x],by omega,by go_num,by rw[yal,cu.o];rfl,R1,cl,a5,a0,R2⟩;simp[intOf];omega
    obtain rfl:q=j:=xaa
    have H:V (r=.ok (y,aU)):=by
     show _=_;rw[O.o,List.drop_eq_nil_of_le (by rw[aD.o];exact yad)];show Except.ok (y,aU++[])=_;rw[List.append_nil]
    obtain⟨bf,bb,bc,C,ar,ae,bI⟩:=bi.o.ex;obtain⟨cc,ay,aR⟩:=ja bi.o.row
    have bQ:V (XsR (Mst P bf bb bc C) wr cc aU.length aU):=by
     refine⟨rfl,λbH=>?_⟩;have bw:=bi.o.row;rcases bw.2 with⟨_,c⟩|⟨g,c,ao,e,R,a6,U,_,ct,b2⟩
     ·omega
     rw[aR]at e;cases e
     have az:g<wr.heap.size:=by
      rcases Nat.lt_or_ge g wr.heap.size with c|c
      ·exact c
      rw[Array.getElem?_eq_none c]at a6;cases a6
     refine⟨g,0,rfl,bI g (by rw[aR];simp[Value.ownBlock]),az,λk J=>?_⟩;rw[Nat.zero_add,cell_of_row wr g _ ao _ _ a6,<-Array.getElem?_toList];have:(ao.toList.take (aU.length*1))[k]? =(aU.map λj:Nat=>Value.int .i64 (j:Int))[k]?:=by rw[b2]
     rw[List.getElem?_take_of_lt xaa]at this;rw[this,List.getElem?_map,yai,yam J];rfl
    have aj:V _:=ar;have aF:V (Mv (Mst P u1 u2 u3 u4) W (Mst P bf bb bc C) wr):=⟨ae.chg,λb hb=>ae.new b (.inl hb)⟩
    clear ar ae bI bi;subst aR;go_wp2_with fail;go_ret;rw[H.o];exact⟨cc,ay,rfl,bf,bb,bc,C,aj.o,aF.o,bQ.o⟩
def spQ(ts:List Tok)(k:Nat):SpS:=lM ⟨0,[],[]⟩ (ts.take k)
theorem Gy(h:k<ts.length):spQ ts (k+1)=iu (spQ ts k) (ts.getD k i1):=by
 unfold spQ;rw[yau h,oI,yai,yam h];rfl
theorem Px:∀(ts:List Tok) (q:SpS),q.d-ts.length<=(lM q ts).d/\(lM q ts).d<=q.d+ts.length
 |[],q=>by show q.d-0<=q.d/\q.d<=q.d+0;omega
 |t::ts,q=>by
  rw[kM,yaq]
  have B:=Px ts (iu q t)
  grind[iu]
theorem NX:-(k:Int)<=(spQ ts k).d/\(spQ ts k).d<=k:=by
 have h:=Px (ts.take k) ⟨0,[],[]⟩;grind[spQ]
def lF(ts:List Tok)(f:Nat×Nat):List Tok:=(ts.drop f.1).take (f.2-f.1)
theorem Dc{aB}(h:k<ts.length)(bK:aB<=k):lF ts (aB,k+1)=lF ts (aB,k)++[ts.getD k i1]:=by
 unfold lF;simp only;have e:k+1-aB=(k-aB)+1:=xaa;have ag:k-aB<(ts.drop aB).length:=by grind
 rw[e,yau ag,List.getElem_drop,yai,yam h];simp_all
theorem Gz{f}(h:f.2<=ts.length):(lF ts f).length=f.2-f.1:=by
 grind[lF]
def ux(g off cap:Nat)(f:Nat×Nat):Value:=.slice (some ⟨g,off+f.1*3,none⟩) (f.2-f.1) (cap-f.1)
theorem NZ:(prog.info? 123).map (λi=>(i.zero,i.size,i.bytes))=some (some (.slice none 0 0),1,24):=by kernel_rfl
theorem xG:∃bY,prog.info? 123=some bY/\bY.zero=some (.slice none 0 0)/\bY.size=1/\bY.bytes=24:=by
 have h:=NZ;simp_all
theorem oz(w){o a}(am:o.guard=none)(s x)
  (aR:o.op=.call {callee:=.builtin .append,args:=#[s,x],argTypes:=#[164,164]})
  (I) (v) (Z) (aw:a.eval s=v) (bi:w.ownsRow I 123 1 v Z.length Z)
  (al) (au) (nn az) (aH:a.eval x=.slice (some al) 1 1) (d:w.cell? al=some (.slice au nn az))
  (f:Z.length+1<=1000000) (ae:I<=w.heap.size)
  (h:∀g cap n O,n=Z.length+1->O.ownsRow I 123 1 (ia g n cap) (Z.length+1) (Z++[.slice au nn az])->Chg (λb=>v.ownBlock=some b) w O->(v.ownBlock=some g\/g=w.heap.size)->wpList prog bS Q rest (a.put o.dst (ia g n cap)) O):wpList prog bS Q (o::rest) a w:=by
 obtain⟨bY,hi,cg,b8,cc⟩:=xG;refine wpList_append_lies w am s x _ aR I 123 _ _ 1 _ underlying164 hi cg b8 cc rfl xab v _ _ aw bi _ 1 1 [.slice au nn az] aH rfl ?_ ?_ xab (by unfold maxLen;omega) xaa ae _ rfl ?_
 ·grind[Addr.add]
 ·intro u G;simp at G;subst G;rfl
 intro g cap O B N h3 _;exact h g _ _ _ rfl B (fA N) h3
theorem zx{w W}{e s:Nat}{xs}(k:Kept 0 0 w W)(f:W.ownsRow w.heap.size e s v n xs)(c:Chg (λb=>v.ownBlock=some b) W F):Kept 0 0 w F:=
 Chg.kept k c (λ_ hi=>(eF f hi).1)
structure SgR(W:World)(g lo:Nat)(a:Option Addr)(segs:List (List Tok)):Prop where
 at_:0<segs.length->∃gr,a=some ⟨gr,0,none⟩/\lo<=gr/\gr<W.heap.size/\∀i,i<segs.length->∃o c,W.cell? ⟨gr,i,none⟩=some (.slice (some ⟨g,o,none⟩) (segs.getD i []).length c)/\TkA W g o (segs.getD i []).length (segs.getD i [])/\(segs.getD i []).length<=c
theorem zy(W a cap):Calls prog 117 #[.slice a 0 cap] W λe F=>e=.returned (.slice none 0 0)/\F=W:=by
 go_enter func117,ntmps117;go_wp2;go_ret;exact⟨rfl,rfl⟩
theorem BV(W g an m cap ts)(f:TkA W g an m ts)(aD:m<=5000)(aj:0<m)(aI:m<=cap)(bc:(spQ ts m).cur≠[]):
  Calls prog 117 #[.slice (some ⟨g,an,none⟩) m cap] W λe F=>∃a c,e=.returned (.slice a (fT ts).length c)/\SgR F g W.heap.size a (fT ts)/\Kept 0 0 W F:=by
 have aO:V _:=f;have HL:V _:=f.len
 have HE:V (fT ts=(spQ ts m).ou++[(spQ ts m).cur]):=by
  show _=_;unfold fT spQ;rw[ip (by intro c;rw[c]at f;have:=f.len;grind),<-f.len,List.take_length]
 have ea:V _:=bc;have cg:((m:Int)==0)=false:=by grind
 clear f bc;go_enter func117,ntmps117;go_wp2_with fail;go_loopw [3,4,5,6] (λY K dc G F=>∃(k aB:Nat) (Z:List (Nat×Nat)),k<=m/\aB<=k/\G=ih k/\dc=ih aB/\K=ih (spQ ts k).d/\Z.length<=k/\V ((spQ ts k).cur=lF ts (aB,k))/\V ((spQ ts k).ou=Z.map (lF ts))/\V (∀f∈Z,f.1<=f.2/\f.2<=m)/\V (F.ownsRow W.heap.size 123 1 Y Z.length (Z.map (ux g an cap)))/\V (Kept 0 0 W F)) (λ_ _ _ G _=>m-(intOf G).toNat)
 case atStart=>exact⟨0,0,[],yae,yad,rfl,rfl,rfl,yad,(show(spQ _ 0).cur=lF ts _ from by unfold lF;simp;rfl),(show(spQ _ 0).ou=[] from rfl),(λf br=>by cases br),yaw _ _ _ _,Kept.refl 0 0 W⟩
 case round=>
  obtain⟨k,aB,Z,J,u,rfl,rfl,rfl,b2,bn,b8,aZ,X,aS⟩:=hrel;by_cases aY:k<m
  ·have cW:k<ts.length:=by rw[HL.o];exact aY
   have c0:=(aO.o.keep aS.o).c0 k aY;have aG:V _:=Gy cW;have bj:=NX (ts:=ts) (k:=k);have y:V _:=Dc cW u;generalize spQ _ k=Q at aG bj bn b8⊢;generalize ts.getD k _=aa at c0 aG y;obtain⟨d,ao,out⟩:=Q;simp only at bj bn b8⊢;have l:V (ao++[aa]=lF ts (aB,k+1)):=by show _=_;rw[y.o,bn.o]
   by_cases B:aa.sym=[40]
   ·have H:V (spQ ts _=⟨d+1,ao++[aa],out⟩):=aG.o.trans (by unfold iu;rw[iv B]);have h:V ((spQ ts (k+1)).cur=lF ts (aB,k+1)):=by show _=_;rw[H.o];exact l.o
    have j:V ((spQ ts (k+1)).ou=Z.map (lF ts)):=by show _=_;rw[H.o];exact b8.o
    have aW:(aa.sym==[40])=true:=jL B
    have aV:IntKind.i64.wrap (d+1)=d+1:=by rw[IntKind.wrap_i64];omega
    generalize aa.sym=s at c0 aW;clear B aG y cW;exact xco
   by_cases N:aa.sym=[41]
   ·have H:V (spQ ts _=⟨d-1,ao++[aa],out⟩):=aG.o.trans (by unfold iu;rw[ip B,iv N]);have h:V ((spQ ts (k+1)).cur=lF ts (aB,k+1)):=by show _=_;rw[H.o];exact l.o
    have j:V ((spQ ts (k+1)).ou=Z.map (lF ts)):=by show _=_;rw[H.o];exact b8.o
    have aW:=yax B;have bd:(aa.sym==[41])=true:=jL N
    have aV:IntKind.i64.wrap (d-1)=d-1:=by rw[IntKind.wrap_i64];omega
    generalize aa.sym=s at c0 aW bd;clear B N aG y cW;exact xco
   have aW:=yax B;have bd:=yax N;by_cases h3:aa.sym=[44]
   ·have cu:(aa.sym==[44])=true:=by rw[h3];rfl
    by_cases aN:d=0
    ·subst aN;have H:V (spQ ts _=⟨0,_,out++[ao]⟩):=aG.o.trans (by unfold iu;rw[ip B,ip N,iv ⟨h3,rfl⟩]);have h:V ((spQ ts (k+1)).cur=lF ts (k+1,k+1)):=by show _=_;rw[H.o];unfold lF;simp
     have j:V ((spQ ts (k+1)).ou=(Z++[(aB,k)]).map (lF ts)):=by show _=_;rw[H.o,List.map_append];simp only;rw[b8.o,bn.o];rfl
     have RB:V (∀f∈Z++[(aB,k)],f.1<=f.2/\f.2<=m):=λf br=>by
      rcases List.mem_append.1 br with c|c
      ·exact aZ.o f c
      ·simp only[List.mem_singleton]at c;subst c;exact⟨u,by omega⟩
     generalize aa.sym=s at c0 aW bd cu;clear B N h3 aG y cW;have bX:(0:Int)<=aB:=xaa;have aV:(aB:Int)<=k:=xaa;have bg:(k:Int)<=cap:=xaa;have ad:((k:Int)-aB).toNat=k-aB:=xaa;have bB:aB<cap:=xaa;have b1:(wr.alloc (.cells #[.slice (some ⟨g,an+aB*3,none⟩) (k-aB) (cap-aB)] 123)).cell? ⟨wr.heap.size,0,none⟩=some (.slice (some ⟨g,an+aB*3,none⟩) (k-aB) (cap-aB)):=by rw[yav];rfl
     have aL:=eA 0 0 wr (.cells #[.slice (some ⟨g,an+aB*3,none⟩) (k-aB) (cap-aB)] 123)
     have b:V ((wr.alloc (.cells #[.slice (some ⟨g,an+aB*3,none⟩) (k-aB) (cap-aB)] 123)).ownsRow W.heap.size 123 1 u3 (Z.map (ux g an cap)).length (Z.map (ux g an cap))):=by
      rw[List.length_map];exact eN X.o aL
     go_wp2_with (first|(at_builtin;refine oz _ rfl _ _ rfl _ _ _ rfl b.o _ _ _ _ rfl b1 ?c2 ?c3 ?_)|fail)
     case c2=>rw[List.length_map];omega
     case c3=>have:=aS.o.size;simp;omega
     intro g9 cap9 n9 a7 a2 aQ ap bV
     have R1:V (a7.ownsRow W.heap.size 123 1 (ia g9 n9 cap9) (Z++[(aB,k)]).length ((Z++[(aB,k)]).map (ux g an cap))):=by
      rw[List.map_append,yal];show World.ownsRow _ _ _ _ _ _ _;simpa[ux] using aQ
     have R2:V _:=zx (aS.o.trans aL) b.o ap;clear aQ ap bV a2 aL b1;go_wp2_with fail;go_roundw;exact⟨k+1,k+1,Z++[(aB,k)],by omega,yad,by go_num,by go_num,by rw[H.o],by simp;omega,h,j,RB,R1,R2⟩;simp[intOf];omega
    have H:V (spQ ts _=⟨d,ao++[aa],out⟩):=aG.o.trans (by unfold iu;rw[ip B,ip N,ip (λc=>aN c.2)]);have h:V ((spQ ts (k+1)).cur=lF ts (aB,k+1)):=by show _=_;rw[H.o];exact l.o
    have j:V ((spQ ts (k+1)).ou=Z.map (lF ts)):=by show _=_;rw[H.o];exact b8.o
    have hd0:=yax aN;generalize aa.sym=s at c0 aW bd cu;clear B N h3 aG y cW aN;exact xco
   have H:V (spQ ts _=⟨d,ao++[aa],out⟩):=aG.o.trans (by unfold iu;rw[ip B,ip N,ip (λc=>h3 c.1)]);have h:V ((spQ ts (k+1)).cur=lF ts (aB,k+1)):=by show _=_;rw[H.o];exact l.o
   have j:V ((spQ ts (k+1)).ou=Z.map (lF ts)):=by show _=_;rw[H.o];exact b8.o
   have cu:=yax h3;generalize aa.sym=s at c0 aW bd cu;clear B N h3 aG y cW;exact xco
  obtain rfl:k=m:=xaa
  have O:aB<k:=by
   rcases Nat.lt_or_ge aB k with c|c
   ·exact c
   exfalso;apply ea.o;rw[bn.o];unfold lF;simp only;rw[show k-aB=0 by omega,List.take_zero]
  have t:V (fT ts=(Z++[(aB,k)]).map (lF ts)):=by
   show _=_;rw[HE.o,b8.o,bn.o,List.map_append];rfl
  have bX:(0:Int)<=aB:=xaa;have aV:(aB:Int)<=k:=xaa;have bg:(k:Int)<=cap:=xaa;have ad:((k:Int)-aB).toNat=k-aB:=xaa;have bB:aB<cap:=xaa;have b1:(wr.alloc (.cells #[.slice (some ⟨g,an+aB*3,none⟩) (k-aB) (cap-aB)] 123)).cell? ⟨wr.heap.size,0,none⟩=some (.slice (some ⟨g,an+aB*3,none⟩) (k-aB) (cap-aB)):=by rw[yav];rfl
  have aL:=eA 0 0 wr (.cells #[.slice (some ⟨g,an+aB*3,none⟩) (k-aB) (cap-aB)] 123)
  have b:V ((wr.alloc (.cells #[.slice (some ⟨g,an+aB*3,none⟩) (k-aB) (cap-aB)] 123)).ownsRow W.heap.size 123 1 u3 (Z.map (ux g an cap)).length (Z.map (ux g an cap))):=by
   rw[List.length_map];exact eN X.o aL
  generalize spQ _ k=Q at*;go_wp2_with (first|(at_builtin;refine oz _ rfl _ _ rfl _ _ _ rfl b.o _ _ _ _ rfl b1 ?c2 ?c3 ?_)|fail)
  case c2=>rw[List.length_map];omega
  case c3=>have:=aS.o.size;simp;omega
  intro g9 cap9 n9 a7 a2 aQ ap bV;have a6:(fT ts).length=Z.length+1:=by rw[t.o];simp
  have R1:V (a7.ownsRow W.heap.size 123 1 (ia g9 n9 cap9) (Z.length+1) ((Z++[(aB,k)]).map (ux g an cap))):=by
   rw[List.map_append];show World.ownsRow _ _ _ _ _ _ _;simpa[ux] using aQ
  have R2:V _:=zx (aS.o.trans aL) b.o ap;have w:n9=(fT ts).length:=by rw[a6,a2]
  have al:V _:=w;have C:V _:=a6;clear aQ ap bV a2 aL b1 w a6;go_wp2_with fail;go_ret;refine⟨_,_,congrArg (λz=>Ending.returned (.slice _ z _)) al.o,⟨λeT=>?_⟩,R2.o⟩;have bw:=R1.o;have aK:=eF (k:=g9) bw (by simp[Value.ownBlock]);refine⟨_,rfl,aK.1,aK.2,λi hi=>?_⟩;have eg:i<(Z++[(aB,k)]).length:=by rw[t.o,List.length_map]at hi;exact hi
  have bx:=World.ownsRow.cells (g:=g9) bw rfl i (ux g _ _ ((Z++[(aB,k)]).getD i (0,0))) (by rw[List.getElem?_map,yai,yam eg];rfl);rw[il,Nat.zero_add]at bx
  have x:(fT ts).getD i []=lF ts ((Z++[(aB,k)]).getD i (0,0)):=by
   rw[t.o,yai,List.getElem?_map,yai,yam eg];rfl
  have U:((Z++[(aB,k)]).getD i (0,0)).1<=((Z++[(aB,k)]).getD i (0,0)).2/\((Z++[(aB,k)]).getD i (0,0)).2<=k:=by
   have aD:(Z++[(aB,k)]).getD i (0,0)∈Z++[(aB,k)]:=by
    rw[yai,yam eg];exact List.getElem_mem _
   rcases List.mem_append.1 aD with c|c
   ·exact aZ.o _ c
   simp only[List.mem_singleton]at c;rw[c];exact⟨u,yad⟩
  generalize (Z++[(aB,k)]).getD i _=f at bx x U;rw[x,Gz (jn HL.o U.2)];exact⟨_,_,bx,(aO.o.keep R2.o).cut U.2,by omega⟩
theorem WS.graph{W}(h:WS W P I u1 u2 u3 u4 bs st){lo}(aO:I<=lo)
  (ar:W.ownsRow lo 3 1 aV st.ins.length (st.ins.map (Value.int .i64))) (aQ:W.ownsRow lo 79 6 bg vs.length (fU vs)) (aN:W.ownsRow lo 3 1 bq st.outs.length (st.outs.map (Value.int .i64)))
  (m:Apart aV bg) (g:Apart aV bq) (w:Apart bg bq) (hP:P<lo) (bp:∀b,u4.ownBlock=some b->b<lo)
  (d:W0.heap.size<=lo) (bF:Mv (Mst P u1 u2 u3 u4) W0 (Mst P u1 u2 u3 u4) W) (ai:∀i,i<bs.length->BcOK (λb=>Mst P u1 u2 u3 u4 b\/W0.heap.size<=b) W (bs.getD i i2) (st.names.getD i (.val [] 0))):
  WS (((W.setCell ⟨P,0,none⟩ aV).setCell ⟨P,1,none⟩ bg).setCell ⟨P,2,none⟩ bq) P I aV bg bq u4 bs {st with vs:=vs}/\Mv (Mst P u1 u2 u3 u4) W0 (Mst P aV bg bq u4) (((W.setCell ⟨P,0,none⟩ aV).setCell ⟨P,1,none⟩ bg).setCell ⟨P,2,none⟩ bq):=by
 have ae:∀{z:Value}{e s n:Nat}{xs:List _},W.ownsRow lo e s z n xs->z.ownBlock≠some P:=λau c=>i4 ((eF au c).1)
 have U:=h.np.2.2.2;have f:∀{z:Value}{e s n:Nat}{xs:List _},W.ownsRow lo e s z n xs->Apart z _:=λau k J G=>jj ((eF au J).1) (bp k G)
 obtain⟨a8,aJ,aP⟩:=fd W P _ _ _ h.c0 h.c1 h.c2 aV bg bq;have aS:=fy W P aV bg bq
 have es:∀o,o≠0->o≠1->o≠2->(((W.setCell ⟨P,0,_⟩ aV).setCell ⟨P,1,_⟩ bg).setCell ⟨P,2,_⟩ bq).cell? _=W.cell? ⟨P,o,_⟩:=λo aj B N=>by
  rw[eG _ _ _ _ _ _ (.inr (λe=>N e.symm)),eG _ _ _ _ _ _ (.inr (λe=>B e.symm)),eG _ _ _ _ _ _ (.inr (λe=>aj e.symm))]
 have an:Mv (Mst P u1 u2 u3 u4) W0 (Mst P aV bg bq u4) (((W.setCell ⟨P,0,none⟩ aV).setCell ⟨P,1,none⟩ bg).setCell ⟨P,2,none⟩ bq):=by
  refine⟨bF.bad (aS.chg1 (.inl rfl)),λb hb=>?_⟩;exact xeq
 have l:Mv _ W (λb=>Mst P u1 u2 u3 u4 b\/W0.heap.size<=b) _:=⟨aS.chg1 (.inl (.inl rfl)),λb hb=>.inl hb⟩
 have j:∀{z:Value}{e s n:Nat}{xs:List _},W.ownsRow _ e s z n xs->z.ownBlock≠some P->(((W.setCell ⟨P,0,_⟩ aV).setCell ⟨P,1,_⟩ bg).setCell ⟨P,2,_⟩ bq).ownsRow I e s z n _:=λau hn=>gi (eH (eH (eH au hn) hn) hn) aO;refine⟨⟨by simpa using h.lt,λo=>by simp[h.fr o],a8,aJ,aP,(es 3 xab xab xab).trans h.c3,(es 4 xab xab xab).trans h.c4,(es 5 xab xab xab).trans h.c5,(es 6 xab xab xab).trans h.c6,j ar (ae ar),j aQ (ae aQ),j aN (ae aN),eH (eH (eH h.r4 U) U) U,⟨ae ar,ae aQ,ae aN,U⟩,⟨m,g,f ar,w,f aQ,f aN⟩,h.nl,λi hi=>?_,h.sz⟩,an⟩;refine((ai i hi).mv l).weak (λb hb=>?_);exact xeq
theorem WS.old{W}(h:WS W0 P I u1 u2 u3 u4 bs st)(k:Kept 0 0 W0 W):∀i,i<bs.length->BcOK (λb=>Mst P u1 u2 u3 u4 b\/W0.heap.size<=b) W (bs.getD i i2) (st.names.getD i (.val [] 0)):=λi hi=>by
 have G:∀{a:Option _}{n:Nat}{ts:List _},TkR _ _ a n _->TkR (λb=>Mst P u1 u2 u3 u4 b\/W0.heap.size<=b) W a n ts:=λht=>⟨ht.len,λhn=>by
  obtain⟨g,an,e,B,N⟩:=ht.at_ hn
  exact⟨g,_,e,λc=>c.elim B (λc=>i4 N.lt),N.keep k⟩⟩
 have hb:=h.nb i hi
 cases aN:st.names.getD i (.val [] 0) with
 |val aa v=>rw[aN]at hb;exact hb
 |fn aa ps e=>
  rw[aN]at hb
  obtain⟨B,N,h3,ts,bp,bU,bz⟩:=hb
  exact⟨B,N,G h3,_,bp,bU,G bz⟩
theorem rx{W:World}{R a6 ad be av aT Y ae:Nat}{u xs ys}(B:W.ownsRow R ad av u Y xs)(N:W.ownsRow a6 be aT v ae ys)(ay:ad≠be):Apart u v:=λk J aL=>by
 rcases B.2 with⟨c,_⟩|⟨g,c,ao,e,_,aX,_⟩
 ·rw[c]at J;simp[Value.ownBlock]at J
 ·rcases N.2 with⟨t,_⟩|⟨aI,t,b,a2,_,bk,_⟩<;>grind[Value.ownBlock]
theorem qw{W}(aj:WS W0 P I u1 u2 u3 u4 bs st)(bF:Kept 0 0 W0 W){R K U aX cap ab}
  (ar:W.ownsRow W0.heap.size 3 1 (.slice R st.ins.length aX) st.ins.length (st.ins.map (Value.int .i64))) (aQ:W.ownsRow W0.heap.size 79 6 (.slice K vs.length cap) vs.length (fU vs)) (aN:W.ownsRow W0.heap.size 3 1 (.slice U st.outs.length ab) st.outs.length (st.outs.map (Value.int .i64))) (g:Apart (.slice R st.ins.length aX) (.slice U st.outs.length ab))
  (J:∀v∈vs,v.k<18446744073709551616) (ag:∀k,k<vs.length->1<=(vs.getD k i0).len/\(vs.getD k i0).len<=1000) (j:Nat) (p:Nat):
  Calls prog 125 #[ge P,eX R st.ins.length aX K vs.length cap U st.outs.length ab,ih j,ih p] W λe F=>TrO W0 P I u1 u2 u3 u4 bs (if kq vs=true then .error (5,p)else .ok ({st with vs:=vs},j)) e F:=by
 have ap:=eA 0 0 W (fB R st.ins.length aX K vs.length cap U st.outs.length ab);have ao:V _:=ib W (.slice R st.ins.length aX) (.slice K vs.length cap) (.slice U st.outs.length ab);have N:GS W _ _ _ _ _ _ _ _ _:=⟨xu ar rfl,F7 aQ rfl J,xu aN rfl⟩
 have aO:V _:=AN _ _ _ _ _ aX _ cap _ ab _ _ _ (N.keep ap) ag;have aA:V _:=bF.trans ap;have cg:V _:=eN ar ap;have aI:V _:=eN aQ ap;have cn:V _:=eN aN ap;have bM:V (Apart _ _/\Apart (.slice R _ _) _/\Apart (.slice K _ _) _):=⟨rx ar aQ xab,g,rx aQ aN xab⟩
 have u:V _:=aj;clear N ag J ap bF ar aQ aN g aj;obtain⟨r,au⟩:∃r:Rs _,r=(if kq vs=true then .error (5,p)else .ok ({st with vs:=vs},j)):=⟨_,rfl⟩
 rw[<-au];have C:V _:=au;clear au;go_enter func125,ntmps125;go_wp2_with fail;generalize W.alloc _=aq at ao aO aA cg aI cn⊢;generalize W.heap.size=bP at ao⊢;obtain⟨_,a8,aJ,aP⟩:=ao.o;cases hb:kq vs
 ·rw[hb]at aO;have H:V _:=C.o.trans (ip (by rw[hb];simp))
  have bj:V (∀F,Kept 0 0 _ F->_):=λF k=>
   WS.graph (u.o.keep (aA.o.trans k)) (jj u.o.sz u.o.lt) (eN cg.o k) (eN aI.o k) (eN cn.o k) bM.o.1 bM.o.2.1 bM.o.2.2 u.o.lt (λb hb=>(eF u.o.r4 hb).2) yad (Mv.of (aA.o.trans k)) (u.o.old (aA.o.trans k))
  have bk:V (∀F,Kept 0 0 _ F->(F.cell? _=some _/\F.cell? _=some _/\F.cell? _=some _)/\(∀o,F.frozen? _=false)/\G0 _ _ _ _ _):=λF k=>by
   have h:=u.o.keep (aA.o.trans k)
   exact⟨⟨h.c0,h.c1,h.c2⟩,h.fr,ao.o.keep k⟩
  clear hb C;go_upto_region 3 with (go_at_call 120;refine yaj aO.o ?_;rintro e cP ⟨rfl,Y⟩);obtain⟨⟨bG,bn,p2⟩,bp,⟨_,bm,aW,bd⟩⟩:=bk.o _ Y;have bT:=bp 0;have f1:=bp 1;have f2:=bp 2;have G:V _:=bj.o _ Y;clear a8 aJ aP ao aO bj bk bp Y;go_wp2_with fail;go_ret;rw[H.o];exact⟨rfl,_,_,_,_,G.o.1,G.o.2⟩
 rw[hb]at aO;have H:V _:=C.o.trans (iv hb);have bo:V (∀F,Kept 0 0 _ F->_):=λF k=>jp (u.o.keep (aA.o.trans k)).c5 (u.o.keep (aA.o.trans k)).c6 (u.o.keep (aA.o.trans k)).fr 5 p (Mst P u1 u2 u3 u4) (.inl rfl);clear hb C
 go_wp2_with (first
  |(go_at_call 120;refine yaj aO.o ?_;rintro e cP ⟨rfl,Y⟩)
  |(go_at_call 101;refine yaj (bo.o _ Y) ?_;rintro e b0 ⟨rfl,ba⟩))
 go_ret;rw[H.o];exact⟨rfl,ba.c5,ba.c6,(Mv.of (aA.o.trans Y)).bad ba.chg⟩
structure Sg1(W:World)(gr i q o c:Nat)(t:Tok):Prop where
 lt:gr<W.heap.size
 at_:W.cell? ⟨gr,i,none⟩=some (.slice (some ⟨q,o,none⟩) 1 c)
 tk:TkA W q o 1 [t]
theorem Sg1.keep{W o t}(h:Sg1 W bu i q o c t)(k:Kept 0 0 W F):Sg1 F bu i q o c t:=
 ⟨yak h.lt k.size,(k.cell (p:=⟨bu,i,none⟩) h.lt xaa).trans h.at_,h.tk.keep k⟩
theorem Sg1.cells{W o t}(h:Sg1 W bu i q o c t):W.cell? ⟨bu,i,none⟩=some (.slice (some ⟨q,o,none⟩) 1 c)/\W.cell? ⟨q,o,none⟩=some (eL t.sym)/\W.cell? ⟨q,o+1,none⟩=some (ih t.pos)/\W.cell? ⟨q,o+2,none⟩=some (eL t.text):=
 ⟨h.at_,by simpa using h.tk.c0 0 xaa,by simpa using h.tk.c1 0 xaa,by simpa using h.tk.c2 0 xaa⟩
theorem TrO.back{e}(k:Kept 0 0 W0 aq)(h:TrO aq P I u1 u2 u3 u4 bs r e F):TrO W0 P I u1 u2 u3 u4 bs r e F:=by
 rcases r with⟨c,p⟩|⟨st,v⟩
 ·obtain⟨B,N,h3,bp⟩:=h;exact⟨B,N,h3,(Mv.of k).bad bp⟩
 obtain⟨B,bf,bb,bc,C,N,h3⟩:=h;exact⟨B,_,_,_,_,N,(Mv.of k).trans h3⟩
theorem TrO.ret{W e}(h:TrO W P I u1 u2 u3 u4 bs r e F):∃x:Int,e=.returned (ih x):=by
 rcases r with⟨c,p⟩|⟨st,v⟩
 ·exact⟨_,h.1⟩
 exact⟨v,h.1⟩
theorem aS.qbk(h:Zp:=by
 have d:V (lO _ ⟨_,_,aa⟩ a n=if U=pZ then
  if eW _ a<=ii _ then .error _ else fQ st _ aS
  else if eW _ a≠1 then .error (4,aS)
  else if ii _<1\/1000<ii _ then .error _ else fQ _ _ aS):=rfl
 have cp:=aH.len a aB;change 1<=eW _ a/\eW _ a<=1000 at cp;have bF:V _:=h;have aG:V _:=a5;obtain⟨b5,cap,be,cr,-⟩:=h.lenc aB
 have HL:V (∀F,Kept 0 0 W F->F.cell? _=some (.slice _ _ _)/\F.cell? _=some _/\(F.cell? _=some _/\F.cell? _=some _/\F.cell? _=some _/\F.cell? _=some _)):=λF al=>by
  obtain⟨a2,bd,ah,_,c3⟩:=(bF.o.keep al).lenc aB
  rw[be]at ah
  cases ah
  exact⟨(bF.o.keep al).c1.trans (congrArg some be),c3,(aG.o.keep al).cells⟩
 generalize lO _ _ a n=r at d⊢;generalize eW _ a=l at cp HL d;generalize ew:st.vs.length=aZ at*;clear ew h a5 aH bI bF aG be cr;unfold iS at cn⊢;obtain⟨b2,K,b⟩:=n;simp only at cn hb HL d⊢;generalize ii _=m at*;exact qet):Zp:=h
theorem aS.qeu(h:Zp:=by
 obtain⟨aJ,aP,bw,b3,cf,cz⟩:=HL.o _ HK.o;exact qgi):Zp:=h
theorem aS.qgj(h:Zp:=by
 clear aJ aP bw b3 cf cz bE ao HK aC cn;obtain⟨aJ,aP,bw,b3,cf,cz⟩:=HL.o _ bN.o;have bE:=y.o.c0;have R:=y.o.c1;clear HL;rcases J with J|J
 ·subst J;have ae:V _:=d.o.trans (ip xab);unfold uL at*;clear d;by_cases B:l=1
  ·subst B;have aj:V _:=ae.o.trans (ip xac);clear ae;by_cases N:m<1
   ·have H:V _:=aj.o.trans (iv (.inl N));exact xch
   by_cases h3:1000<m
   ·have H:V _:=aj.o.trans (iv (.inr h3));exact xch
   have H:V _:=aj.o.trans (ip xaa);have bQ:V _:=λF al=>ai.o F (eK 10 m a 0 0) al (by grind) (by simp_all);go_upto_region 12 with fail;exact xdk
  have H:V _:=ae.o.trans (iv B);have cU:=yax B;exact xch
 subst J;have ae:V _:=d.o.trans (iv rfl);unfold pZ at*;clear d;by_cases B:l<=m
 ·have H:V _:=ae.o.trans (iv B);exact xch
 have H:V _:=ae.o.trans (ip B);have bQ:V (∀F,Kept 0 0 W F->_):=λF al=>ai.o F (eK 11 1 (a:Int) 0 m) al (by show(1:Int)<=1/\(1:Int)<=1000;omega) yah;go_upto_region 6 with fail;exact xdk):Zp:=h
open aS in
theorem GA{W}(h:WS W P I u1 u2 u3 u4 bs st)(aH:Gd st)(k)(J:k.sym=uL\/k.sym=pZ)(a)(aB:a<st.vs.length)(n)(bI:Dgs n.text){S ce o}(cj:2<=S)(a5:Sg1 W bu 1 q o c n):
  Calls prog 123 #[ge P,iS k,ih a,ia bu S ce] W (TrO W P I u1 u2 u3 u4 bs (lO st k a n)):=by
 obtain⟨U,aS,aa⟩:=k;simp only at J;have cn:V _:=λF=>yZ n bI F;have bL:=aH.n;have hb:=pD bI yad;rw[List.take_length]at hb;have ao:V _:=gY W U aS aa;have HK:V _:=eA 0 0 W (.cells #[eL U,ih aS,eL aa] 127);exact qbj
