import Derived.Test.YtcjhlkdleojbjaaGreatP22
namespace Go.Proofs.Z
variable{Zp:Prop}
open Tryz
set_option maxRecDepth 1000000
set_option maxHeartbeats 0
open Go.RowKit Flt
attribute[local go_sem] eF eE eD
variable{W0 az I:World}{bz:Array Oper}{M':Nat->Prop}{ts:List Tok}{rest:List Oper}{k P J bQ i n q c:Nat}{a:Option Addr}{u1 u2 u3 v u4 aQ a8 o bi:Value}{Q:Exit->Act->World->Prop}{xs aY:List Nat}{r:Rs (LSt×Nat)}{bs:List Bc}{st:LSt}{vs:List Vl}
structure XsR(M:Nat->Prop)(W:World)(a:Option Addr)(n:Nat)(xs:List Nat):Prop where
 len:xs.length=n
 at_:0<n->∃g off,a=some ⟨g,off,none⟩/\¬M g/\g<W.heap.size/\∀k,k<n->W.cell? ⟨g,off+k,none⟩=some (.int .i64 (xs.getD k 0:Nat))
theorem XsR.mv{M W}(h:XsR M W a n xs)(k:Mv M W M' I):XsR M' I a n xs:=
 ⟨h.len,λad=>by
  obtain⟨g,off,e,F,N,h3⟩:=h.at_ ad
  exact⟨g,_,e,λc=>(k.new g c).elim F (λc=>by omega),yak N k.chg.size,λj hj=>(k.chg.cell N F).trans (h3 j hj)⟩⟩
theorem XsR.keep{M W}(h:XsR M W a n xs)(k:Kept 0 0 W I):XsR M I a n xs:=h.mv (Mv.of k)
theorem WS.lenc{W}(h:WS W P J u1 u2 u3 u4 bs st)(hi:i<st.vs.length):∃g cap,u2=hz g st.vs.length cap/\g<W.heap.size/\W.cell? ⟨g,i*6+1,none⟩=some (hA (eX st i)):=by
 obtain⟨g,cap,e,_,N,_,a6⟩:=mX h.r2 xaa rfl;exact⟨g,_,e,N,(a6.at_ i hi).c1⟩
theorem TkR.weak{M W}(h:TkR M W a n ts)(bx:∀b,M' b->M b):TkR M' W a n ts:=
 ⟨h.len,λad=>by obtain⟨g,off,e,F,N⟩:=h.at_ ad;grind⟩
theorem BcOK.weak{M W b d}(h:BcOK M W b d)(bx:∀b,M' b->M b):BcOK M' W b d:=by
 cases d with
 |val bb v=>exact h
 |fn bb ps e=>
  obtain⟨F,N,h3,ts,a6,bF,bp⟩:=h;exact⟨F,N,h3.weak bx,_,a6,bF,bp.weak bx⟩
theorem WS.side{W S}(h:WS W P J u1 u2 u3 u4 bs st)(c:Chg S W I)(aW:∀b,Mst P u1 u2 u3 u4 b->¬S b)(bg:∀i,i<bs.length->BcOK (Mst P u1 u2 u3 u4) I (bs.getD i hH) (st.names.getD i (.val [] 0))):WS I P J u1 u2 u3 u4 bs st:=by
 have f:=aW P (.inl rfl);have e:∀o,_:=λo=>c.cell (p:=⟨P,o,none⟩) h.lt f;exact⟨yak h.lt c.size,λo=>(c.frozen h.lt f).trans (h.fr o),(e 0).trans h.c0,(e 1).trans h.c1,(e 2).trans h.c2,(e 3).trans h.c3,(e 4).trans h.c4,(e 5).trans h.c5,(e 6).trans h.c6,fi h.r1 c (λb hb=>aW b (.inr (.inl hb))),fi h.r2 c (λb hb=>aW b (.inr (.inr (.inl hb)))),fi h.r3 c (λb hb=>aW b (.inr (.inr (.inr (.inl hb))))),fi h.r4 c (λb hb=>aW b (.inr (.inr (.inr (.inr hb))))),h.np,h.ap,h.nl,bg,h.sz⟩
def FtO(W:World)(P B:Nat)(u1 u2 u3 u4:Value)(bs:List Bc)(r:Rs (LSt×List Nat))(e:Ending)(W':World):Prop:=
 match r with
 |.error (c,p)=>e=.returned (.slice none 0 0)/\W'.cell? ⟨P,5,none⟩=some (.int .i64 c)/\W'.cell? ⟨P,6,none⟩=some (.int .i64 (p:Int))/\Chg (Mst P u1 u2 u3 u4) W W'
 |.ok (st,js)=>∃a cap,e=.returned (.slice a js.length cap)/\∃v1 v2 v3 v4,WS W' P B v1 v2 v3 v4 bs st/\Mv (Mst P u1 u2 u3 u4) W (Mst P v1 v2 v3 v4) W'/\XsR (Mst P v1 v2 v3 v4) W' a js.length js
structure FtI(W W':World)(P B:Nat)(u1 u2 u3 u4:Value)(bs:List Bc)(st:LSt)(o:Value)(js:List Nat):Prop where
 ex:∃v1 v2 v3 v4,WS W' P B v1 v2 v3 v4 bs st/\Mv (Mst P u1 u2 u3 u4) W (λb=>Mst P v1 v2 v3 v4 b\/o.ownBlock=some b) W'/\(∀b,o.ownBlock=some b->¬Mst P v1 v2 v3 v4 b)
 row:W'.ownsRow W.heap.size 3 1 o js.length (js.map λj:Nat=>Value.int .i64 (j:Int))
theorem jt(w){o a}(aG:o.guard=none)(s x)
  (ho:o.op=.call {callee:=.builtin .append,args:=#[s,x],argTypes:=#[23,23]})
  (J) (v) (aY) (au:a.eval s=v) (a6:w.ownsRow J 3 1 v aY.length (aY.map λj:Nat=>Value.int .i64 (j:Int)))
  (ak) (y:Nat) (an:a.eval x=.slice (some ak) 1 1) (z:w.cell? ak=some (hA y))
  (f:aY.length+1<=1000000) (ae:J<=w.heap.size)
  (h:∀g cap n B,n=(aY++[y]).length->B.ownsRow J 3 1 (hz g n cap) (aY++[y]).length ((aY++[y]).map λj:Nat=>Value.int .i64 (j:Int))->Chg (λb=>v.ownBlock=some b) w B->(v.ownBlock=some g\/g=w.heap.size)->wpList prog bz Q rest (a.put o.dst (hz g n cap)) B):wpList prog bz Q (o::rest) a w:=by
 obtain⟨bW,hi,b4,b3,b0⟩:=info_parts pX;refine wpList_append_lies w aG s x 23 ho J 3 bW (hA 0) 1 8 underlying23 hi b4 b3 b0 rfl xab v aY.length _ au a6 ak 1 1 [hA y] an rfl ?_ ?_ xab (by unfold maxLen;omega) xaa ae _ rfl ?_
 ·intro j u aB;cases j with
  |zero=>cases aB;obtain⟨b,o,m⟩:=ak;simpa[Addr.add] using z
  |succ j=>cases aB
 ·intro u aB;simp at aB;subst aB;rfl
 intro g cap B F N h3 _;have e:aY.length+1=(aY++[y]).length:=by rw[yal];rfl
 rw[e]at F⊢;refine h g cap _ B rfl ?_ (gh N) h3;rw[List.map_append];exact F
theorem FtI.keep{W ab}(h:FtI W I P J u1 u2 u3 u4 bs st o aY)(k:Kept 0 0 I ab):FtI W ab P J u1 u2 u3 u4 bs st o aY:=by
 exact xhb
theorem FtI.step{W aB a5 a7 z G bk s}(bx:Mv (Mst P u1 u2 u3 u4) W (λb=>Mst P a5 a7 z G b\/o.ownBlock=some b) az)(aZ:∀b,o.ownBlock=some b->¬Mst P a5 a7 z G b)(X:az.ownsRow W.heap.size 3 1 o aY.length (aY.map λj:Nat=>Value.int .i64 (j:Int)))(aK:WS aB P J aQ a8 bi bk bs s)(bv:Mv (Mst P a5 a7 z G) az (Mst P aQ a8 bi bk) aB):FtI W aB P J u1 u2 u3 u4 bs s o aY:=by
 exact xcm
theorem aA.qbe(h:Zp:=by
 refine⟨⟨a5,a7,z,G,F.side bu (λb hb c=>h3 b c hb) (λi hi=>?_),ao,λb hb c=>?_⟩,?_⟩
 ·exact xhh
 ·rw[bU]at hb;subst hb;exact f c
 rw[yal,List.map_append];exact K):Zp:=h
open aA in
theorem FtI.app{W bj g}(al:WS W P J u1 u2 u3 u4 bs g)(R:st.names=g.names)(h:FtI W I P J u1 u2 u3 u4 bs st o aY){g9 n9 cap9 x:Nat}(K:bj.ownsRow W.heap.size 3 1 (hz g9 n9 cap9) (aY.length+1) ((aY.map λj:Nat=>Value.int .i64 (j:Int))++[hA x]))(bu:Chg (λb=>o.ownBlock=some b) I bj)(bg:o.ownBlock=some g9\/g9=I.heap.size):FtI W bj P J u1 u2 u3 u4 bs st (hz g9 n9 cap9) (aY++[x]):=by
 exact qbd
theorem zS{W}(h:WS W P J u1 u2 u3 u4 bs st)(g:Gd st)(cB w d4 xs)(bL:XsR (Mst P u1 u2 u3 u4) W cB w xs)(ad:w<=100)(an:∀i∈xs,i<st.vs.length)(p:Nat):
  Calls prog 120 #[hy P,.slice cB w d4,hA p] W (FtO W P J u1 u2 u3 u4 bs (jJ st xs p)):=by
 have bq:E _:=h;have be:E _:=g;have ar:E _:=bL;have ay:E _:=bL.len
 have K:E (∀k,k<w->xs.getD k 0<st.vs.length):=λk O=>an _ (by
  rw[yai,yam (hL bL.len O)]
  exact List.getElem_mem _)
 have bH:E _:=xU g xs an;have HF:E (jJ st xs p=if xs.all (λi=>eX st i==pI st xs||eX st i==1)=true then iC (pI st xs) p st xs else .error (4,p)):=rfl;generalize jJ st xs p=r at HF⊢
 have bo:E (∀I k,Kept 0 0 W I->k<w->∃bJ cap c8 off,u2=hz bJ st.vs.length cap/\cB=some ⟨c8,off,none⟩/\I.cell? ⟨P,1,none⟩=some u2/\I.cell? ⟨c8,off+k,none⟩=some (hA (xs.getD k 0:Nat))/\I.cell? ⟨bJ,xs.getD k 0*6+1,none⟩=some (hA (eX st (xs.getD k 0)))):=λI k aj O=>by
  obtain⟨bJ,cap,ae,_,N⟩:=(bq.o.keep aj).lenc (K.o k O)
  obtain⟨c8,off,ai,_,_,a6⟩:=(ar.o.keep aj).at_ xaa
  exact⟨bJ,cap,c8,off,ae,ai,(bq.o.keep aj).c1,a6 k O,N⟩
 have bC:=g.n;clear h g bL an;go_enter func120,ntmps120;go_wp2_with fail;go_loopw [7,8] (λnv S I=>∃k:Nat,k<=w/\S=hA k/\nv=hA (pI st (xs.take k))/\E (Kept 0 0 W I)) (λ_ S _=>w-(intOf S).toNat)
 case atStart=>exact⟨0,yae,rfl,rfl,Kept.refl 0 0 W⟩
 case round=>
  obtain⟨k,O,rfl,rfl,aI⟩:=hrel;by_cases aG:k<w
  ·obtain⟨bJ,cap,c8,off,ae,a9,c1,c2,c3⟩:=bo.o wr k aI.o aG;subst ae a9;have ao:E _:=vH st xs k (hL ay.o aG);have bE:=K.o k aG;generalize xs.getD k 0=x at c2 c3 ao bE;generalize eX st x=l at c3 ao;generalize pI st (xs.take k)=m at ao⊢;go_upto_region 5 with fail;go_quiet (fail)
   have bO:E _:=Kept.trans aI.o (eJ 0 0 wr nq);have aH:(wr.drewN nq).cell? ⟨P,1,none⟩=some (hz bJ st.vs.length cap):=c1;have bf:(wr.drewN nq).cell? ⟨c8,off+k,none⟩=some (hA (x:Nat)):=c2;have Y:(wr.drewN nq).cell? ⟨bJ,x*6+1,none⟩=some (hA l):=c3;clear c1 c2 c3 aI;generalize wr.drewN nq=bc at bO aH bf Y⊢;by_cases bw:m<l
   ·have H:E _:=ao.o.trans (hD bw);go_upto_region 6 with fail;go_quiet (fail)
    have co:E _:=Kept.trans bO.o (eJ 0 0 bc nq);generalize bc.drewN nq=aW at co⊢;clear aH bf Y;go_wp2_with fail;go_roundw;exact⟨k+1,by omega,by go_num,by rw[H.o],co⟩;simp[intOf];omega
   have H:E _:=ao.o.trans (hC bw);clear aH bf Y;go_wp2_with fail;go_roundw;exact⟨k+1,by omega,by go_num,by rw[H.o],bO⟩;simp[intOf];omega
  obtain rfl:k=w:=xaa;have bx:=bH.o k (by rw[ay.o];exact yad);rw[yap (by rw[ay.o];exact yad)]at bx⊢;generalize pI st xs=M at bx HF⊢;clear bH;have bX:E _:=aI.o;clear aI;go_upto_region 7 with fail;go_wp2_with fail;go_loopw [9] (λS I=>∃j:Nat,j<=k/\S=hA j/\E (Kept 0 0 W I)/\E (∀q,q<j->(eX st (xs.getD q 0)==M||eX st (xs.getD q 0)==1)=true)) (λS _=>k-(intOf S).toNat)
  case atStart=>exact⟨0,yae,rfl,bX,λq ap=>by omega⟩
  case round=>
   obtain⟨j,hj,rfl,aI,a2⟩:=hrel;by_cases cc:j<k
   ·obtain⟨bJ,cap,c8,off,ae,a9,c1,c2,c3⟩:=bo.o wr j aI.o cc;subst ae a9;have bE:=K.o j cc
    have bl:E (∀l,eX st (xs.getD j 0)=l->(l==M||l==1)=true->∀q,q<j+1->(eX st (xs.getD q 0)==M||eX st (xs.getD q 0)==1)=true):=λl af hb q ap=>by
     by_cases c:q=j
     ·subst c;rw[af];exact hb
     ·exact a2.o q xaa
    have bn:E (∀l,eX st (xs.getD j 0)=l->(l==M||l==1)=false->xs.all (λi=>eX st i==M||eX st i==1)=false):=λl af hb=>by
     rw[List.all_eq_false]
     refine⟨xs.getD j 0,?_,?_⟩
     ·rw[yai,yam (hL ay.o cc)]
      exact List.getElem_mem _
     ·rw[af,hb];simp
    generalize aP:eX st (xs.getD j 0)=l at c3;have aA:E _:=aP;clear aP;generalize xs.getD j 0=x at c2 c3 bE aA bl bn;have br:E (∀I,Kept 0 0 W I->_):=λI aj=>jq (bq.o.keep aj).c5 (bq.o.keep aj).c6 (bq.o.keep aj).fr 4 p (Mst P u1 (hz bJ st.vs.length cap) u3 u4) (.inl rfl);go_upto_region 10 with fail;go_quiet (fail)
    have bO:E _:=Kept.trans aI.o (eJ 0 0 wr nq);clear c1 c2 c3 aI;generalize wr.drewN nq=bc at bO⊢;cases aX:(l==M)
    ·have bY:(l !=M)=true:=by unfold bne;rw[aX];rfl
     cases bb:(l==1)
     ·have bZ:(l !=1)=true:=by unfold bne;rw[bb];rfl
      have H:E _:=HF.o.trans (hC (by rw[bn.o l aA.o (by rw[aX,bb];rfl)];simp));have aD:E _:=br.o bc bO.o;clear bl bn;go_wp2_with (go_at_call 100;refine yaj aD.o ?_;rintro e aF ⟨rfl,aB⟩);go_ret;rw[H.o];exact⟨rfl,aB.c5,aB.c6,(Mv.of bO.o).bad aB.chg⟩
     have bZ:(l !=1)=false:=by unfold bne;rw[bb];rfl
     have H:E _:=bl.o l aA.o (by rw[aX,bb];rfl);exact xgg
    have bY:(l !=M)=false:=by unfold bne;rw[aX];rfl
    have H:E _:=bl.o l aA.o (hO aX);exact xgg
   obtain rfl:j=k:=xaa;have bR:E _:=a2.o
   have bU:E (r=iC M p st xs):=HF.o.trans (hD (by
    rw[List.all_eq_true]
    intro i hi
    obtain⟨q,ap,rfl⟩:=List.getElem_of_mem hi
    have:=a2.o q (hM ay.o ap)
    rw[yai,yam ap]at this
    exact this))
   have bB:E _:=aI.o;clear aI a2 HF;have aZ:E (FtI W wr P J u1 u2 u3 u4 bs st (.slice none 0 0) []):=⟨⟨u1,u2,u3,u4,bq.o.keep bB.o,⟨(Mv.of (M:=Mst P u1 u2 u3 u4) bB.o).chg,λb hb=>.inl (hb.elim id (λc=>by simp[Value.ownBlock]at c))⟩,λb hb=>by simp[Value.ownBlock]at hb⟩,yaw _ _ _ _⟩
   have HR0:E (r=um [] (iC M p st (xs.drop 0))):=by show _=_;rw[Hk];exact bU.o
   go_upto_region 14 with fail;go_wp2_with fail;go_loopw [11,12] (λaq S I=>∃(q:Nat) (y:LSt) (aY:List Nat),q<=j/\S=hA q/\aY.length=q/\E (FtI W I P J u1 u2 u3 u4 bs y aq aY)/\E (Gd y)/\E (y.names=st.names)/\E (∀i,i<st.vs.length->i<y.vs.length/\eX y i=eX st i)/\E (r=um aY (iC M p y (xs.drop q)))) (λ_ S _=>j-(intOf S).toNat)
   case atStart=>exact⟨0,st,[],yae,rfl,rfl,aZ,be,(show E (st.names=st.names) from rfl),(show E (∀i,i<st.vs.length->i<st.vs.length/\eX st i=eX st i) from λi hi=>⟨hi,rfl⟩),HR0⟩
   case round=>
    obtain⟨q,y,aY,ap,rfl,(bI:E _),bh,bW,bD,bm,C⟩:=hrel;by_cases ci:q<j
    ·obtain⟨a5,a7,z,G,aL,am,bG⟩:=bh.o.ex;obtain⟨c8,off,rfl,_,_,au⟩:=(ar.o.mv am).at_ xaa;have cO:=au q ci;have cA:=K.o q ci;obtain⟨b4,aT⟩:=bm.o _ cA
     have B:E (xs.drop q=xs.getD q 0::xs.drop (q+1)):=by
      show _=_;rw[List.drop_eq_getElem_cons (hL ay.o ci),yai,yam (hL ay.o ci)];rfl
     have Z:E _:=bR.o q ci;obtain⟨bJ,b0,a9,b3,b2⟩:=aL.lenc b4;have ce:=aL.c1;rw[aT]at b2;have aC:E _:=aL;have aR:E _:=am;have b5:E _:=bG;rw[<-aT]at Z;generalize xs.getD q 0=x at cO cA b4 aT B Z b2;have cS:E _:=am.chg.size;have b8:=bW.o.n;subst a9;clear au aL am bG;by_cases aM:eX st x<M
     ·have cf:eX y x=1:=by
       have h:=Z.o;rw[aT]at h;have:(eX st x==M)=false:=yax xaa;rw[this,Bool.false_or]at h;rw[aT];simpa using h
      have aO:eX y x<M:=hL aT aM
      have U:E (∀I,_):=λI=>ij I 10 M (x:Int) 0 0;have ah:E (∀I,Kept 0 0 wr I->_):=λI aj=>lY (aC.o.keep aj) bW.o (eK 10 M (x:Int) 0 0) bx (show(0:Nat)<18446744073709551616 by decide) p;have cD:E _:=KM b4 cf bx;have u:E (fN y (eK 10 M (x:Int) 0 0) p=if jY (y.vs++[eK 10 M (x:Int) 0 0])=true then .error (5,p)else .ok ({y with vs:=y.vs++[eK 10 M (x:Int) 0 0]},y.vs.length)):=rfl;have aV:E (∀s f6,fN y (eK 10 M (x:Int) 0 0) p=.ok (s,f6)->r=um (aY++[f6]) (iC M p s (xs.drop (q+1)))):=λs f6 e=>by rw[C.o,B.o,pz aO e,vI]
      have aU:E (∀f,fN y (eK 10 M (x:Int) 0 0) p=.error f->r=.error f):=λf e=>by rw[C.o,B.o,pA aO e];rfl
      generalize eX st x=l at b2 aM;cases hb:jY (y.vs++[eK 10 M (x:Int) 0 0])
      ·rw[hb,hC xac]at u;rw[u.o]at ah;have R2:E _:=aV.o _ _ u.o;have bT:E _:=bW.o.put cD.o (show(0:Nat)<18446744073709551616 by decide) hb
       have cd:E (∀i,i<st.vs.length->i<(LSt.mk y.ins (y.vs++[eK 10 M (x:Int) 0 0]) y.outs y.names y.calls).vs.length/\eX (LSt.mk y.ins (y.vs++[eK 10 M (x:Int) 0 0]) y.outs y.names y.calls) i=eX st i):=λi hi=>by
        obtain⟨F,N⟩:=bm.o i hi
        refine⟨by simp only[yal];omega,?_⟩
        rw[<-N]
        unfold eX
        simp only
        rw[yai,yat F,<-yai]
       have bu:E ((LSt.mk y.ins (y.vs++[eK 10 M (x:Int) 0 0]) y.outs y.names y.calls).names=st.names):=bD.o;have bK:E _:=bh.o.row;generalize bA:y.vs.length=al at ah R2;have ca:al<=2000:=xaa;clear hb u aV aU cf aO aT Z B C cD
       go_upto_region 21 with (first
        |(go_at_call 46;refine yaj (U.o _) ?_;rintro e ag ⟨rfl,ak⟩)
        |(go_at_call 104;refine yaj (ah.o _ ak) ?_;intro e aF bd;obtain⟨rfl,aQ,a8,bi,bk,aK,bv⟩:=bd))
       have HFn:E _:=FtI.step (aR.o.keep ak) b5.o (eO bK.o ak) aK bv;have cG:E (W.heap.size<=aF.heap.size):=by show _<=_;have:=cS.o;have:=ak.size;have:=bv.chg.size;omega
       clear cS bh aC aR b5 bK cO b2 ce ak aK bv ah U bA;have b9:(aF.alloc (.cells #[hA al] 3)).cell? ⟨aF.heap.size,0,none⟩=some (hA al):=by rw[yav];rfl
       have a0:=ez 0 0 aF (.cells #[hA al] 3);have bg:E _:=HFn.o.keep a0;go_wp2_with (first|(at_builtin;refine jt _ rfl _ _ rfl W.heap.size _ aY rfl bg.o.row ⟨aF.heap.size,0,none⟩ al rfl b9 ?c2 ?c3 ?_)|fail)
       case c2=>have:=bI.o;omega
       case c3=>have:=cG.o;simp;omega
       intro g9 cap9 n9 bj aw bM aN b6;have R1:E _:=FtI.app (st:={y with vs:=y.vs++[eK 10 M (x:Int) 0 0]}) bq.o bu.o bg.o bM aN (b6.imp id (λe=>by rw[e];simp));clear bM aN b6 aw a0 b9;go_wp2_with fail;go_roundw;exact⟨q+1,_,aY++[al],by omega,by go_num,by rw[yal,bI.o];rfl,R1,bT,bu,cd,R2⟩;simp[intOf];omega
      rw[hb,hD rfl]at u;rw[u.o]at ah;have R2:E _:=aU.o _ u.o;clear hb u aV aU cf aO aT Z B C cD
      go_upto_region 21 with (first
       |(go_at_call 46;refine yaj (U.o _) ?_;rintro e ag ⟨rfl,ak⟩)
       |(go_at_call 104;refine yaj (ah.o _ ak) ?_;intro e aF bd;obtain⟨rfl,bF,bp,cC⟩:=bd))
      have bN:E _:=bF;have bP:E _:=bp;have bS:E _:=(aR.o.keep ak).bad ⟨cC.os,cC.tape,cC.output,cC.size,λi hi ad=>cC.block i hi (λc=>ad (.inl c))⟩;clear bF bp cC;go_wp2_with fail;go_ret;rw[R2.o];exact⟨rfl,bN.o,bP.o,bS.o⟩
     have R2:E (r=um (aY++[x]) (iC M p y (xs.drop (q+1)))):=by
      show _=_;rw[C.o,B.o,oC (hL aT aM),vI]
     generalize eX st x=l at b2 aM;clear aT Z B C;have b9:(wr.alloc (.cells #[hA x] 3)).cell? ⟨wr.heap.size,0,none⟩=some (hA x):=by rw[yav];rfl
     have a0:=ez 0 0 wr (.cells #[hA x] 3);have bg:E _:=bh.o.keep a0;go_wp2_with (first|(at_builtin;refine jt _ rfl _ _ rfl W.heap.size _ aY rfl bg.o.row ⟨wr.heap.size,0,none⟩ x rfl b9 ?c2 ?c3 ?_)|fail)
     case c2=>have:=bI.o;omega
     case c3=>have:=cS.o;simp;omega
     intro g9 cap9 n9 bj aw bM aN b6;have R1:E _:=FtI.app bq.o bD.o bg.o bM aN (b6.imp id (λe=>by rw[e];simp));clear bM aN b6 aw a0 b9;go_wp2_with fail;go_roundw;exact⟨q+1,y,aY++[x],by omega,by go_num,by rw[yal,bI.o];rfl,R1,bW,bD,bm,R2⟩;simp[intOf];omega
    obtain rfl:q=j:=xaa
    have H:E (r=.ok (y,aY)):=by
     show _=_;rw[C.o,List.drop_eq_nil_of_le (by rw[ay.o];exact yad)];show Except.ok (y,aY++[])=_;rw[List.append_nil]
    obtain⟨a5,a7,z,G,aL,am,bG⟩:=bh.o.ex;obtain⟨b1,cl,ho⟩:=ja bh.o.row
    have bV:E (XsR (Mst P a5 a7 z G) wr b1 aY.length aY):=by
     refine⟨rfl,λab=>?_⟩;have X:=bh.o.row;rcases X.2 with⟨_,c⟩|⟨g,c,av,e,R,aS,aa,_,b7,ba⟩
     ·omega
     rw[ho]at e;cases e
     have aJ:g<wr.heap.size:=by
      rcases Nat.lt_or_ge g wr.heap.size with c|c
      ·exact c
      rw[Array.getElem?_eq_none c]at aS;cases aS
     refine⟨g,0,rfl,bG g (by rw[ho];simp[Value.ownBlock]),aJ,λk O=>?_⟩;rw[Nat.zero_add,cell_of_row wr g _ av _ _ aS,<-Array.getElem?_toList];have:(av.toList.take (aY.length*1))[k]? =(aY.map λj:Nat=>Value.int .i64 (j:Int))[k]?:=by rw[ba]
     rw[List.getElem?_take_of_lt xaa]at this;rw[this,List.getElem?_map,yai,yam O];rfl
    have aC:E _:=aL;have aR:E (Mv (Mst P u1 u2 u3 u4) W (Mst P a5 a7 z G) wr):=⟨am.chg,λb hb=>am.new b (.inl hb)⟩
    clear aL am bG bh;subst ho;go_wp2_with fail;go_ret;rw[H.o];exact⟨b1,cl,rfl,a5,a7,z,G,aC.o,aR.o,bV.o⟩
def spQ(ts:List Tok)(k:Nat):SpS:=lQ ⟨0,[],[]⟩ (ts.take k)
theorem Hl(h:k<ts.length):spQ ts (k+1)=it (spQ ts k) (ts.getD k hG):=by
 unfold spQ;rw[yau h,oS,yai,yam h];rfl
theorem PP:∀(ts:List Tok) (q:SpS),q.d-ts.length<=(lQ q ts).d/\(lQ q ts).d<=q.d+ts.length
 |[],q=>by show q.d-0<=q.d/\q.d<=q.d+0;omega
 |t::ts,q=>by
  rw[kJ,yaq]
  have F:=PP ts (it q t)
  grind[it]
theorem Oa:-(k:Int)<=(spQ ts k).d/\(spQ ts k).d<=k:=by
 have h:=PP (ts.take k) ⟨0,[],[]⟩;grind[spQ]
def lC(ts:List Tok)(f:Nat×Nat):List Tok:=(ts.drop f.1).take (f.2-f.1)
theorem Eo{bg}(h:k<ts.length)(aX:bg<=k):lC ts (bg,k+1)=lC ts (bg,k)++[ts.getD k hG]:=by
 unfold lC;simp only;have e:k+1-bg=(k-bg)+1:=xaa;have af:k-bg<(ts.drop bg).length:=by grind
 rw[e,yau af,List.getElem_drop,yai,yam h];simp_all
theorem Hm{f}(h:f.2<=ts.length):(lC ts f).length=f.2-f.1:=by
 grind[lC]
def uS(g off cap:Nat)(f:Nat×Nat):Value:=.slice (some ⟨g,off+f.1*3,none⟩) (f.2-f.1) (cap-f.1)
theorem Ob:(prog.info? 115).map (λi=>(i.zero,i.size,i.bytes))=some (some (.slice none 0 0),1,24):=by kernel_rfl
theorem xW:∃bW,prog.info? 115=some bW/\bW.zero=some (.slice none 0 0)/\bW.size=1/\bW.bytes=24:=by
 have h:=Ob;simp_all
theorem oE(w){o a}(aG:o.guard=none)(s x)
  (ho:o.op=.call {callee:=.builtin .append,args:=#[s,x],argTypes:=#[179,179]})
  (J) (v) (aa) (au:a.eval s=v) (a6:w.ownsRow J 115 1 v aa.length aa)
  (ak) (bI) (nn bV) (an:a.eval x=.slice (some ak) 1 1) (z:w.cell? ak=some (.slice bI nn bV))
  (f:aa.length+1<=1000000) (ae:J<=w.heap.size)
  (h:∀g cap n B,n=aa.length+1->B.ownsRow J 115 1 (hz g n cap) (aa.length+1) (aa++[.slice bI nn bV])->Chg (λb=>v.ownBlock=some b) w B->(v.ownBlock=some g\/g=w.heap.size)->wpList prog bz Q rest (a.put o.dst (hz g n cap)) B):wpList prog bz Q (o::rest) a w:=by
 obtain⟨bW,hi,b4,b3,b0⟩:=xW;refine wpList_append_lies w aG s x _ ho J 115 _ _ 1 _ underlying179 hi b4 b3 b0 rfl xab v _ _ au a6 _ 1 1 [.slice bI nn bV] an rfl ?_ ?_ xab (by unfold maxLen;omega) xaa ae _ rfl ?_
 ·grind[Addr.add]
 ·intro u aB;simp at aB;subst aB;rfl
 intro g cap B F N h3 _;exact h g _ _ _ rfl F (gh N) h3
theorem zT{w W}{e s:Nat}{xs}(k:Kept 0 0 w W)(f:W.ownsRow w.heap.size e s v n xs)(c:Chg (λb=>v.ownBlock=some b) W I):Kept 0 0 w I:=
 Chg.kept k c (λ_ hi=>(eH f hi).1)
structure SgR(W:World)(g lo:Nat)(a:Option Addr)(segs:List (List Tok)):Prop where
 at_:0<segs.length->∃gr,a=some ⟨gr,0,none⟩/\lo<=gr/\gr<W.heap.size/\∀i,i<segs.length->∃o c,W.cell? ⟨gr,i,none⟩=some (.slice (some ⟨g,o,none⟩) (segs.getD i []).length c)/\TkA W g o (segs.getD i []).length (segs.getD i [])/\(segs.getD i []).length<=c
theorem zU(W a cap):Calls prog 123 #[.slice a 0 cap] W λe I=>e=.returned (.slice none 0 0)/\I=W:=by
 go_enter func123,ntmps123;go_wp2;go_ret;exact⟨rfl,rfl⟩
theorem Cw(W g off m cap ts)(f:TkA W g off m ts)(am:m<=5000)(al:0<m)(u:m<=cap)(bL:(spQ ts m).cur≠[]):
  Calls prog 123 #[.slice (some ⟨g,off,none⟩) m cap] W λe I=>∃a c,e=.returned (.slice a (fQ ts).length c)/\SgR I g W.heap.size a (fQ ts)/\Kept 0 0 W I:=by
 have HF:E _:=f;have HL:E _:=f.len
 have HE:E (fQ ts=(spQ ts m).ou++[(spQ ts m).cur]):=by
  show _=_;unfold fQ spQ;rw[hC (by intro c;rw[c]at f;have:=f.len;grind),<-f.len,List.take_length]
 have x:E _:=bL;have b4:((m:Int)==0)=false:=by grind
 clear f bL;go_enter func123,ntmps123;go_wp2_with fail;go_loopw [3,4,5,6] (λaq Z cW S I=>∃(k bg:Nat) (aa:List (Nat×Nat)),k<=m/\bg<=k/\S=hA k/\cW=hA bg/\Z=hA (spQ ts k).d/\aa.length<=k/\E ((spQ ts k).cur=lC ts (bg,k))/\E ((spQ ts k).ou=aa.map (lC ts))/\E (∀f∈aa,f.1<=f.2/\f.2<=m)/\E (I.ownsRow W.heap.size 115 1 aq aa.length (aa.map (uS g off cap)))/\E (Kept 0 0 W I)) (λ_ _ _ S _=>m-(intOf S).toNat)
 case atStart=>exact⟨0,0,[],yae,yad,rfl,rfl,rfl,yad,(show(spQ _ 0).cur=lC ts _ from by unfold lC;simp;rfl),(show(spQ _ 0).ou=[] from rfl),(λf a5=>by cases a5),yaw _ _ _ _,Kept.refl 0 0 W⟩
 case round=>
  obtain⟨k,bg,aa,O,w,rfl,rfl,rfl,aB,bu,aZ,aT,K,aI⟩:=hrel;by_cases aG:k<m
  ·have U:k<ts.length:=by rw[HL.o];exact aG
   have c0:=(HF.o.keep aI.o).c0 k aG;have ao:E _:=Hl U;have au:=Oa (ts:=ts) (k:=k);have y:E _:=Eo U w;generalize spQ _ k=Q at ao au bu aZ⊢;generalize ts.getD k _=C at c0 ao y;obtain⟨d,av,out⟩:=Q;simp only at au bu aZ⊢;have j:E (av++[C]=lC ts (bg,k+1)):=by show _=_;rw[y.o,bu.o]
   by_cases F:C.sym=[40]
   ·have H:E (spQ ts _=⟨d+1,av++[C],out⟩):=ao.o.trans (by unfold it;rw[hD F]);have p:E ((spQ ts (k+1)).cur=lC ts (bg,k+1)):=by show _=_;rw[H.o];exact j.o
    have h:E ((spQ ts (k+1)).ou=aa.map (lC ts)):=by show _=_;rw[H.o];exact aZ.o
    have aX:(C.sym==[40])=true:=hO F
    have aQ:IntKind.i64.wrap (d+1)=d+1:=by rw[IntKind.wrap_i64];omega
    generalize C.sym=s at c0 aX;clear F ao y U;exact xch
   by_cases N:C.sym=[41]
   ·have H:E (spQ ts _=⟨d-1,av++[C],out⟩):=ao.o.trans (by unfold it;rw[hC F,hD N]);have p:E ((spQ ts (k+1)).cur=lC ts (bg,k+1)):=by show _=_;rw[H.o];exact j.o
    have h:E ((spQ ts (k+1)).ou=aa.map (lC ts)):=by show _=_;rw[H.o];exact aZ.o
    have aX:=yax F;have bb:(C.sym==[41])=true:=hO N
    have aQ:IntKind.i64.wrap (d-1)=d-1:=by rw[IntKind.wrap_i64];omega
    generalize C.sym=s at c0 aX bb;clear F N ao y U;exact xch
   have aX:=yax F;have bb:=yax N;by_cases h3:C.sym=[44]
   ·have co:(C.sym==[44])=true:=by rw[h3];rfl
    by_cases aK:d=0
    ·subst aK;have H:E (spQ ts _=⟨0,_,out++[av]⟩):=ao.o.trans (by unfold it;rw[hC F,hC N,hD ⟨h3,rfl⟩]);have p:E ((spQ ts (k+1)).cur=lC ts (k+1,k+1)):=by show _=_;rw[H.o];unfold lC;simp
     have h:E ((spQ ts (k+1)).ou=(aa++[(bg,k)]).map (lC ts)):=by show _=_;rw[H.o,List.map_append];simp only;rw[aZ.o,bu.o];rfl
     have RB:E (∀f∈aa++[(bg,k)],f.1<=f.2/\f.2<=m):=λf a5=>by
      rcases List.mem_append.1 a5 with c|c
      ·exact aT.o f c
      ·simp only[List.mem_singleton]at c;subst c;exact⟨w,by omega⟩
     generalize C.sym=s at c0 aX bb co;clear F N h3 ao y U;have bD:(0:Int)<=bg:=xaa;have aQ:(bg:Int)<=k:=xaa;have a8:(k:Int)<=cap:=xaa;have ae:((k:Int)-bg).toNat=k-bg:=xaa;have bk:bg<cap:=xaa;have b9:(wr.alloc (.cells #[.slice (some ⟨g,off+bg*3,none⟩) (k-bg) (cap-bg)] 115)).cell? ⟨wr.heap.size,0,none⟩=some (.slice (some ⟨g,off+bg*3,none⟩) (k-bg) (cap-bg)):=by rw[yav];rfl
     have a0:=ez 0 0 wr (.cells #[.slice (some ⟨g,off+bg*3,none⟩) (k-bg) (cap-bg)] 115)
     have ax:E ((wr.alloc (.cells #[.slice (some ⟨g,off+bg*3,none⟩) (k-bg) (cap-bg)] 115)).ownsRow W.heap.size 115 1 u3 (aa.map (uS g off cap)).length (aa.map (uS g off cap))):=by
      rw[List.length_map];exact eO K.o a0
     go_wp2_with (first|(at_builtin;refine oE _ rfl _ _ rfl _ _ _ rfl ax.o _ _ _ _ rfl b9 ?c2 ?c3 ?_)|fail)
     case c2=>rw[List.length_map];omega
     case c3=>have:=aI.o.size;simp;omega
     intro g9 cap9 n9 bj aw bM aN b6
     have R1:E (bj.ownsRow W.heap.size 115 1 (hz g9 n9 cap9) (aa++[(bg,k)]).length ((aa++[(bg,k)]).map (uS g off cap))):=by
      rw[List.map_append,yal];show World.ownsRow _ _ _ _ _ _ _;simpa[uS] using bM
     have R2:E _:=zT (aI.o.trans a0) ax.o aN;clear bM aN b6 aw a0 b9;go_wp2_with fail;go_roundw;exact⟨k+1,k+1,aa++[(bg,k)],by omega,yad,by go_num,by go_num,by rw[H.o],by simp;omega,p,h,RB,R1,R2⟩;simp[intOf];omega
    have H:E (spQ ts _=⟨d,av++[C],out⟩):=ao.o.trans (by unfold it;rw[hC F,hC N,hC (λc=>aK c.2)]);have p:E ((spQ ts (k+1)).cur=lC ts (bg,k+1)):=by show _=_;rw[H.o];exact j.o
    have h:E ((spQ ts (k+1)).ou=aa.map (lC ts)):=by show _=_;rw[H.o];exact aZ.o
    have hd0:=yax aK;generalize C.sym=s at c0 aX bb co;clear F N h3 ao y U aK;exact xch
   have H:E (spQ ts _=⟨d,av++[C],out⟩):=ao.o.trans (by unfold it;rw[hC F,hC N,hC (λc=>h3 c.1)]);have p:E ((spQ ts (k+1)).cur=lC ts (bg,k+1)):=by show _=_;rw[H.o];exact j.o
   have h:E ((spQ ts (k+1)).ou=aa.map (lC ts)):=by show _=_;rw[H.o];exact aZ.o
   have co:=yax h3;generalize C.sym=s at c0 aX bb co;clear F N h3 ao y U;exact xch
  obtain rfl:k=m:=xaa
  have ab:bg<k:=by
   rcases Nat.lt_or_ge bg k with c|c
   ·exact c
   exfalso;apply x.o;rw[bu.o];unfold lC;simp only;rw[show k-bg=0 by omega,List.take_zero]
  have l:E (fQ ts=(aa++[(bg,k)]).map (lC ts)):=by
   show _=_;rw[HE.o,aZ.o,bu.o,List.map_append];rfl
  have bD:(0:Int)<=bg:=xaa;have aQ:(bg:Int)<=k:=xaa;have a8:(k:Int)<=cap:=xaa;have ae:((k:Int)-bg).toNat=k-bg:=xaa;have bk:bg<cap:=xaa;have b9:(wr.alloc (.cells #[.slice (some ⟨g,off+bg*3,none⟩) (k-bg) (cap-bg)] 115)).cell? ⟨wr.heap.size,0,none⟩=some (.slice (some ⟨g,off+bg*3,none⟩) (k-bg) (cap-bg)):=by rw[yav];rfl
  have a0:=ez 0 0 wr (.cells #[.slice (some ⟨g,off+bg*3,none⟩) (k-bg) (cap-bg)] 115)
  have ax:E ((wr.alloc (.cells #[.slice (some ⟨g,off+bg*3,none⟩) (k-bg) (cap-bg)] 115)).ownsRow W.heap.size 115 1 u3 (aa.map (uS g off cap)).length (aa.map (uS g off cap))):=by
   rw[List.length_map];exact eO K.o a0
  generalize spQ _ k=Q at*;go_wp2_with (first|(at_builtin;refine oE _ rfl _ _ rfl _ _ _ rfl ax.o _ _ _ _ rfl b9 ?c2 ?c3 ?_)|fail)
  case c2=>rw[List.length_map];omega
  case c3=>have:=aI.o.size;simp;omega
  intro g9 cap9 n9 bj aw bM aN b6;have ca:(fQ ts).length=aa.length+1:=by rw[l.o];simp
  have R1:E (bj.ownsRow W.heap.size 115 1 (hz g9 n9 cap9) (aa.length+1) ((aa++[(bg,k)]).map (uS g off cap))):=by
   rw[List.map_append];show World.ownsRow _ _ _ _ _ _ _;simpa[uS] using bM
  have R2:E _:=zT (aI.o.trans a0) ax.o aN;have B:n9=(fQ ts).length:=by rw[ca,aw]
  have G:E _:=B;have Y:E _:=ca;clear bM aN b6 aw a0 b9 B ca;go_wp2_with fail;go_ret;refine⟨_,_,congrArg (λz=>Ending.returned (.slice _ z _)) G.o,⟨λe0=>?_⟩,R2.o⟩;have X:=R1.o;have ak:=eH (k:=g9) X (by simp[Value.ownBlock]);refine⟨_,rfl,ak.1,ak.2,λi hi=>?_⟩;have ce:i<(aa++[(bg,k)]).length:=by rw[l.o,List.length_map]at hi;exact hi
  have af:=World.ownsRow.cells (g:=g9) X rfl i (uS g _ _ ((aa++[(bg,k)]).getD i (0,0))) (by rw[List.getElem?_map,yai,yam ce];rfl);rw[jG,Nat.zero_add]at af
  have R:(fQ ts).getD i []=lC ts ((aa++[(bg,k)]).getD i (0,0)):=by
   rw[l.o,yai,List.getElem?_map,yai,yam ce];rfl
  have ai:((aa++[(bg,k)]).getD i (0,0)).1<=((aa++[(bg,k)]).getD i (0,0)).2/\((aa++[(bg,k)]).getD i (0,0)).2<=k:=by
   have am:(aa++[(bg,k)]).getD i (0,0)∈aa++[(bg,k)]:=by
    rw[yai,yam ce];exact List.getElem_mem _
   rcases List.mem_append.1 am with c|c
   ·exact aT.o _ c
   simp only[List.mem_singleton]at c;rw[c];exact⟨w,yad⟩
  generalize (aa++[(bg,k)]).getD i _=f at af R ai;rw[R,Hm (hL HL.o ai.2)];exact⟨_,_,af,(HF.o.keep R2.o).cut ai.2,by omega⟩
theorem WS.graph{W}(h:WS W P J u1 u2 u3 u4 bs st){lo}(aq:J<=lo)
  (ay:W.ownsRow lo 3 1 aQ st.ins.length (st.ins.map (Value.int .i64))) (a0:W.ownsRow lo 62 6 a8 vs.length (fF vs)) (ch:W.ownsRow lo 3 1 bi st.outs.length (st.outs.map (Value.int .i64)))
  (l:Apart aQ a8) (g:Apart aQ bi) (m:Apart a8 bi) (hP:P<lo) (a6:∀b,u4.ownBlock=some b->b<lo)
  (f:W0.heap.size<=lo) (bq:Mv (Mst P u1 u2 u3 u4) W0 (Mst P u1 u2 u3 u4) W) (bg:∀i,i<bs.length->BcOK (λb=>Mst P u1 u2 u3 u4 b\/W0.heap.size<=b) W (bs.getD i hH) (st.names.getD i (.val [] 0))):
  WS (((W.setCell ⟨P,0,none⟩ aQ).setCell ⟨P,1,none⟩ a8).setCell ⟨P,2,none⟩ bi) P J aQ a8 bi u4 bs {st with vs:=vs}/\Mv (Mst P u1 u2 u3 u4) W0 (Mst P aQ a8 bi u4) (((W.setCell ⟨P,0,none⟩ aQ).setCell ⟨P,1,none⟩ a8).setCell ⟨P,2,none⟩ bi):=by
 have G:∀{z:Value}{e s n:Nat}{xs:List _},W.ownsRow lo e s z n xs->z.ownBlock≠some P:=λaD c=>hJ ((eH aD c).1)
 have u:=h.np.2.2.2;have j:∀{z:Value}{e s n:Nat}{xs:List _},W.ownsRow lo e s z n xs->Apart z _:=λaD k O aB=>hK ((eH aD O).1) (a6 k aB)
 obtain⟨ba,aP,y2⟩:=fp W P _ _ _ h.c0 h.c1 h.c2 aQ a8 bi;have S:=ft W P aQ a8 bi
 have es:∀o,o≠0->o≠1->o≠2->(((W.setCell ⟨P,0,_⟩ aQ).setCell ⟨P,1,_⟩ a8).setCell ⟨P,2,_⟩ bi).cell? _=W.cell? ⟨P,o,_⟩:=λo al F N=>by
  rw[eQ _ _ _ _ _ _ (.inr (λe=>N e.symm)),eQ _ _ _ _ _ _ (.inr (λe=>F e.symm)),eQ _ _ _ _ _ _ (.inr (λe=>al e.symm))]
 have ao:Mv (Mst P u1 u2 u3 u4) W0 (Mst P aQ a8 bi u4) (((W.setCell ⟨P,0,none⟩ aQ).setCell ⟨P,1,none⟩ a8).setCell ⟨P,2,none⟩ bi):=by
  refine⟨bq.bad (S.chg1 (.inl rfl)),λb hb=>?_⟩;exact xea
 have w:Mv _ W (λb=>Mst P u1 u2 u3 u4 b\/W0.heap.size<=b) _:=⟨S.chg1 (.inl (.inl rfl)),λb hb=>.inl hb⟩
 have p:∀{z:Value}{e s n:Nat}{xs:List _},W.ownsRow _ e s z n xs->z.ownBlock≠some P->(((W.setCell ⟨P,0,_⟩ aQ).setCell ⟨P,1,_⟩ a8).setCell ⟨P,2,_⟩ bi).ownsRow J e s z n _:=λaD ad=>iE (eI (eI (eI aD ad) ad) ad) aq;refine⟨⟨by simpa using h.lt,λo=>by simp[h.fr o],ba,aP,y2,(es 3 xab xab xab).trans h.c3,(es 4 xab xab xab).trans h.c4,(es 5 xab xab xab).trans h.c5,(es 6 xab xab xab).trans h.c6,p ay (G ay),p a0 (G a0),p ch (G ch),eI (eI (eI h.r4 u) u) u,⟨G ay,G a0,G ch,u⟩,⟨l,g,j ay,m,j a0,j ch⟩,h.nl,λi hi=>?_,h.sz⟩,ao⟩;refine((bg i hi).mv w).weak (λb hb=>?_);exact xea
theorem WS.old{W}(h:WS W0 P J u1 u2 u3 u4 bs st)(k:Kept 0 0 W0 W):∀i,i<bs.length->BcOK (λb=>Mst P u1 u2 u3 u4 b\/W0.heap.size<=b) W (bs.getD i hH) (st.names.getD i (.val [] 0)):=λi hi=>by
 have aB:∀{a:Option _}{n:Nat}{ts:List _},TkR _ _ a n _->TkR (λb=>Mst P u1 u2 u3 u4 b\/W0.heap.size<=b) W a n ts:=λht=>⟨ht.len,λad=>by
  obtain⟨g,off,e,F,N⟩:=ht.at_ ad
  exact⟨g,_,e,λc=>c.elim F (λc=>hJ N.lt),N.keep k⟩⟩
 have hb:=h.nb i hi
 cases aK:st.names.getD i (.val [] 0) with
 |val bb v=>rw[aK]at hb;exact hb
 |fn bb ps e=>
  rw[aK]at hb
  obtain⟨F,N,h3,ts,a6,bF,bp⟩:=hb
  exact⟨F,N,aB h3,_,a6,bF,aB bp⟩
theorem rQ{W:World}{R aS ae a9 ax aU Z n2:Nat}{u xs bJ}(F:W.ownsRow R ae ax u Z xs)(N:W.ownsRow aS a9 aU v n2 bJ)(aZ:ae≠a9):Apart u v:=λk O aO=>by
 rcases F.2 with⟨c,_⟩|⟨g,c,av,e,_,aH,_⟩
 ·rw[c]at O;simp[Value.ownBlock]at O
 ·rcases N.2 with⟨ar,_⟩|⟨aq,ar,f,aN,_,bf,_⟩<;>grind[Value.ownBlock]
theorem qG{W}(al:WS W0 P J u1 u2 u3 u4 bs st)(bq:Kept 0 0 W0 W){R U aa aH cap Y}
  (ay:W.ownsRow W0.heap.size 3 1 (.slice R st.ins.length aH) st.ins.length (st.ins.map (Value.int .i64))) (a0:W.ownsRow W0.heap.size 62 6 (.slice U vs.length cap) vs.length (fF vs)) (ch:W.ownsRow W0.heap.size 3 1 (.slice aa st.outs.length Y) st.outs.length (st.outs.map (Value.int .i64))) (g:Apart (.slice R st.ins.length aH) (.slice aa st.outs.length Y))
  (O:∀v∈vs,v.k<18446744073709551616) (af:∀k,k<vs.length->1<=(vs.getD k hF).len/\(vs.getD k hF).len<=1000) (j:Nat) (p:Nat):
  Calls prog 135 #[hy P,eZ R st.ins.length aH U vs.length cap aa st.outs.length Y,hA j,hA p] W λe I=>TrO W0 P J u1 u2 u3 u4 bs (if jY vs=true then .error (5,p)else .ok ({st with vs:=vs},j)) e I:=by
 have aw:=ez 0 0 W (e9 R st.ins.length aH U vs.length cap aa st.outs.length Y);have av:E _:=fB W (.slice R st.ins.length aH) (.slice U vs.length cap) (.slice aa st.outs.length Y);have Z:GS W _ _ _ _ _ _ _ _ _:=⟨xT ay rfl,Hi a0 rfl O,xT ch rfl⟩
 have HF:E _:=Br _ _ _ _ _ aH _ cap _ Y _ _ _ (Z.keep aw) af;have bX:E _:=bq.trans aw;have aj:E _:=eO ay aw;have bI:E _:=eO a0 aw;have X:E _:=eO ch aw;have bl:E (Apart _ _/\Apart (.slice R _ _) _/\Apart (.slice U _ _) _):=⟨rQ ay a0 xab,g,rQ a0 ch xab⟩
 have l:E _:=al;clear Z af O aw bq ay a0 ch g al;obtain⟨r,aD⟩:∃r:Rs _,r=(if jY vs=true then .error (5,p)else .ok ({st with vs:=vs},j)):=⟨_,rfl⟩
 rw[<-aD];have G:E _:=aD;clear aD;go_enter func135,ntmps135;go_wp2_with fail;generalize W.alloc _=az at av HF bX aj bI X⊢;generalize W.heap.size=aJ at av⊢;obtain⟨_,ba,aP,y2⟩:=av.o;cases hb:jY vs
 ·rw[hb]at HF;have H:E _:=G.o.trans (hC (by rw[hb];simp))
  have bV:E (∀I,Kept 0 0 _ I->_):=λI k=>
   WS.graph (l.o.keep (bX.o.trans k)) (hK l.o.sz l.o.lt) (eO aj.o k) (eO bI.o k) (eO X.o k) bl.o.1 bl.o.2.1 bl.o.2.2 l.o.lt (λb hb=>(eH l.o.r4 hb).2) yad (Mv.of (bX.o.trans k)) (l.o.old (bX.o.trans k))
  have bA:E (∀I,Kept 0 0 _ I->(I.cell? _=some _/\I.cell? _=some _/\I.cell? _=some _)/\(∀o,I.frozen? _=false)/\G0 _ _ _ _ _):=λI k=>by
   have h:=l.o.keep (bX.o.trans k)
   exact⟨⟨h.c0,h.c1,h.c2⟩,h.fr,av.o.keep k⟩
  clear hb G;go_upto_region 3 with (go_at_call 126;refine yaj HF.o ?_;rintro e K ⟨rfl,f⟩);obtain⟨⟨bK,bu,p2⟩,cu,⟨_,bn,aX,bb⟩⟩:=bA.o _ f;have bG:=cu 0;have f1:=cu 1;have f2:=cu 2;have an:E _:=bV.o _ f;clear ba aP y2 av HF bV bA cu f;go_wp2_with fail;go_ret;rw[H.o];exact⟨rfl,_,_,_,_,an.o.1,an.o.2⟩
 rw[hb]at HF;have H:E _:=G.o.trans (hD hb);have br:E (∀I,Kept 0 0 _ I->_):=λI k=>jq (l.o.keep (bX.o.trans k)).c5 (l.o.keep (bX.o.trans k)).c6 (l.o.keep (bX.o.trans k)).fr 5 p (Mst P u1 u2 u3 u4) (.inl rfl);clear hb G
 go_wp2_with (first
  |(go_at_call 126;refine yaj HF.o ?_;rintro e K ⟨rfl,f⟩)
  |(go_at_call 100;refine yaj (br.o _ f) ?_;rintro e s ⟨rfl,aB⟩))
 go_ret;rw[H.o];exact⟨rfl,aB.c5,aB.c6,(Mv.of (bX.o.trans f)).bad aB.chg⟩
structure Sg1(W:World)(gr i q o c:Nat)(t:Tok):Prop where
 lt:gr<W.heap.size
 at_:W.cell? ⟨gr,i,none⟩=some (.slice (some ⟨q,o,none⟩) 1 c)
 tk:TkA W q o 1 [t]
theorem Sg1.keep{W o t}(h:Sg1 W bQ i q o c t)(k:Kept 0 0 W I):Sg1 I bQ i q o c t:=
 ⟨yak h.lt k.size,(k.cell (p:=⟨bQ,i,none⟩) h.lt xaa).trans h.at_,h.tk.keep k⟩
theorem Sg1.cells{W o t}(h:Sg1 W bQ i q o c t):W.cell? ⟨bQ,i,none⟩=some (.slice (some ⟨q,o,none⟩) 1 c)/\W.cell? ⟨q,o,none⟩=some (eN t.sym)/\W.cell? ⟨q,o+1,none⟩=some (hA t.pos)/\W.cell? ⟨q,o+2,none⟩=some (eN t.text):=
 ⟨h.at_,by simpa using h.tk.c0 0 xaa,by simpa using h.tk.c1 0 xaa,by simpa using h.tk.c2 0 xaa⟩
theorem TrO.back{e}(k:Kept 0 0 W0 az)(h:TrO az P J u1 u2 u3 u4 bs r e I):TrO W0 P J u1 u2 u3 u4 bs r e I:=by
 rcases r with⟨c,p⟩|⟨st,v⟩
 ·obtain⟨F,N,h3,a6⟩:=h;exact⟨F,N,h3,(Mv.of k).bad a6⟩
 obtain⟨F,a5,a7,z,G,N,h3⟩:=h;exact⟨F,_,_,_,_,N,(Mv.of k).trans h3⟩
theorem TrO.ret{W e}(h:TrO W P J u1 u2 u3 u4 bs r e I):∃x:Int,e=.returned (hA x):=by
 rcases r with⟨c,p⟩|⟨st,v⟩
 ·exact⟨_,h.1⟩
 exact⟨v,h.1⟩
theorem aE.qbi(h:Zp:=by
 have j:E (lV _ ⟨_,_,C⟩ a n=if aa=ql then
  if eX _ a<=ik _ then .error _ else fN st _ S
  else if eX _ a≠1 then .error (4,S)
  else if ik _<1\/1000<ik _ then .error _ else fN _ _ S):=rfl
 have cf:=an.len a ar;change 1<=eX _ a/\eX _ a<=1000 at cf;have bq:E _:=h;have ao:E _:=aW;obtain⟨bJ,cap,a9,b3,-⟩:=h.lenc ar
 have HL:E (∀I,Kept 0 0 W I->I.cell? _=some (.slice _ _ _)/\I.cell? _=some _/\(I.cell? _=some _/\I.cell? _=some _/\I.cell? _=some _/\I.cell? _=some _)):=λI aj=>by
  obtain⟨aN,aw,ai,_,c3⟩:=(bq.o.keep aj).lenc ar
  rw[a9]at ai
  cases ai
  exact⟨(bq.o.keep aj).c1.trans (congrArg some a9),c3,(ao.o.keep aj).cells⟩
 generalize lV _ _ a n=r at j⊢;generalize eX _ a=l at cf HL j;generalize w:st.vs.length=aV at*;clear w h aW an bl bq ao a9 b3;unfold iR at cc⊢;obtain⟨bw,U,B⟩:=n;simp only at cc hb HL j⊢;generalize ik _=m at*;exact qeo):Zp:=h
theorem aE.qep(h:Zp:=by
 obtain⟨aP,y2,y3,y4,ck,cU⟩:=HL.o _ HK.o;exact qfy):Zp:=h
theorem aE.qfz(h:Zp:=by
 clear aP y2 y3 y4 ck cU bE av HK ak cc;obtain⟨aP,y2,y3,y4,ck,cU⟩:=HL.o _ bB.o;have bE:=y.o.c0;have R:=y.o.c1;clear HL;rcases O with O|O
 ·subst O;have aX:E _:=j.o.trans (hC xab);unfold vh at*;clear j;by_cases F:l=1
  ·subst F;have aD:E _:=aX.o.trans (hC xac);clear aX;by_cases N:m<1
   ·have H:E _:=aD.o.trans (hD (.inl N));exact xbz
   by_cases h3:1000<m
   ·have H:E _:=aD.o.trans (hD (.inr h3));exact xbz
   have H:E _:=aD.o.trans (hC xaa);have bY:E _:=λI aj=>ah.o I (eK 10 m a 0 0) aj (by grind) (by simp_all);go_upto_region 12 with fail;exact xcu
  have H:E _:=aX.o.trans (hD F);have bb:=yax F;exact xbz
 subst O;have aX:E _:=j.o.trans (hD rfl);unfold ql at*;clear j;by_cases F:l<=m
 ·have H:E _:=aX.o.trans (hD F);exact xbz
 have H:E _:=aX.o.trans (hC F);have bY:E (∀I,Kept 0 0 W I->_):=λI aj=>ah.o I (eK 11 1 (a:Int) 0 m) aj (by show(1:Int)<=1/\(1:Int)<=1000;omega) yah;go_upto_region 6 with fail;exact xcu):Zp:=h
open aE in
theorem Hn{W}(h:WS W P J u1 u2 u3 u4 bs st)(an:Gd st)(k)(O:k.sym=vh\/k.sym=ql)(a)(ar:a<st.vs.length)(n)(bl:Dgs n.text){al ce o}(cq:2<=al)(aW:Sg1 W bQ 1 q o c n):
  Calls prog 133 #[hy P,iR k,hA a,hz bQ al ce] W (TrO W P J u1 u2 u3 u4 bs (lV st k a n)):=by
 obtain⟨aa,S,C⟩:=k;simp only at O;have cc:E _:=λI=>zQ n bl I;have bC:=an.n;have hb:=pK bl yad;rw[List.take_length]at hb;have av:E _:=gW W aa S C;have HK:E _:=ez 0 0 W (.cells #[eN aa,hA S,eN C] 119);exact qbh
