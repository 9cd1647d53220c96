import Derived.Test.YtaheilbiakhlgaaGreatP23
namespace Go.Proofs.Z
variable{Zp:Prop}
open Tryz
set_option maxRecDepth 1000000
set_option maxHeartbeats 0
open Go.RowKit Flt
attribute[local go_sem] eF eE eD
variable{W0 ay W':World}{bA:Array Oper}{M':Nat->Prop}{ts:List Tok}{rest:List Oper}{k P I bz i n q c:Nat}{a:Option Addr}{u1 u2 u3 v u4 aS bb o bq:Value}{Q:Exit->Act->World->Prop}{xs aW:List Nat}{r:Rs (LSt×Nat)}{bs:List Bc}{st:LSt}{vs:List Vl}
structure XsR(M:Nat->Prop)(W:World)(a:Option Addr)(n:Nat)(xs:List Nat):Prop where
 len:xs.length=n
 at_:0<n->∃g off,a=some ⟨g,off,none⟩/\¬M g/\g<W.heap.size/\∀k,k<n->W.cell? ⟨g,off+k,none⟩=some (.int .i64 (xs.getD k 0:Nat))
theorem XsR.mv{M W}(h:XsR M W a n xs)(k:Mv M W M' W'):XsR M' W' a n xs:=
 ⟨h.len,λhn=>by
  obtain⟨g,off,e,B,U,h3⟩:=h.at_ hn
  exact⟨g,_,e,λc=>(k.new g c).elim B (λc=>by omega),yaj U k.chg.size,λj hj=>(k.chg.cell U B).trans (h3 j hj)⟩⟩
theorem XsR.keep{M W}(h:XsR M W a n xs)(k:Kept 0 0 W W'):XsR M W' a n xs:=h.mv (Mv.of k)
theorem WS.lenc{W}(h:WS W P I u1 u2 u3 u4 bs st)(hi:i<st.vs.length):∃g cap,u2=hE g st.vs.length cap/\g<W.heap.size/\W.cell? ⟨g,i*6+1,none⟩=some (hF (fe st i)):=by
 obtain⟨g,cap,e,_,U,_,a6⟩:=mb h.r2 xaa rfl;exact⟨g,_,e,U,(a6.at_ i hi).c1⟩
theorem TkR.weak{M W}(h:TkR M W a n ts)(C:∀b,M' b->M b):TkR M' W a n ts:=
 ⟨h.len,λhn=>by obtain⟨g,off,e,B,U⟩:=h.at_ hn;grind⟩
theorem BcOK.weak{M W b d}(h:BcOK M W b d)(C:∀b,M' b->M b):BcOK M' W b d:=by
 cases d with
 |val bJ v=>exact h
 |fn bJ aT e=>
  obtain⟨B,U,h3,ts,a6,bK,bm⟩:=h;exact⟨B,U,h3.weak C,_,a6,bK,bm.weak C⟩
theorem WS.side{W S}(h:WS W P I u1 u2 u3 u4 bs st)(c:Chg S W W')(aU:∀b,Mst P u1 u2 u3 u4 b->¬S b)(cR:∀i,i<bs.length->BcOK (Mst P u1 u2 u3 u4) W' (bs.getD i hM) (st.names.getD i (.val [] 0))):WS W' P I u1 u2 u3 u4 bs st:=by
 have f:=aU P (.inl rfl);have e:∀o,_:=λo=>c.cell (p:=⟨P,o,none⟩) h.lt f;exact⟨yaj h.lt c.size,λo=>(c.frozen h.lt f).trans (h.fr o),(e 0).trans h.c0,(e 1).trans h.c1,(e 2).trans h.c2,(e 3).trans h.c3,(e 4).trans h.c4,(e 5).trans h.c5,(e 6).trans h.c6,fI h.r1 c (λb hb=>aU b (.inr (.inl hb))),fI h.r2 c (λb hb=>aU b (.inr (.inr (.inl hb)))),fI h.r3 c (λb hb=>aU b (.inr (.inr (.inr (.inl hb))))),fI h.r4 c (λb hb=>aU b (.inr (.inr (.inr (.inr hb))))),h.np,h.ap,h.nl,cR,h.sz⟩
def FtO(W:World)(P B:Nat)(u1 u2 u3 u4:Value)(bs:List Bc)(r:Rs (LSt×List Nat))(e:Ending)(W':World):Prop:=
 match r with
 |.error (c,p)=>e=.returned (.slice none 0 0)/\W'.cell? ⟨P,5,none⟩=some (.int .i64 c)/\W'.cell? ⟨P,6,none⟩=some (.int .i64 (p:Int))/\Chg (Mst P u1 u2 u3 u4) W W'
 |.ok (st,js)=>∃a cap,e=.returned (.slice a js.length cap)/\∃v1 v2 v3 v4,WS W' P B v1 v2 v3 v4 bs st/\Mv (Mst P u1 u2 u3 u4) W (Mst P v1 v2 v3 v4) W'/\XsR (Mst P v1 v2 v3 v4) W' a js.length js
structure FtI(W W':World)(P B:Nat)(u1 u2 u3 u4:Value)(bs:List Bc)(st:LSt)(o:Value)(js:List Nat):Prop where
 ex:∃v1 v2 v3 v4,WS W' P B v1 v2 v3 v4 bs st/\Mv (Mst P u1 u2 u3 u4) W (λb=>Mst P v1 v2 v3 v4 b\/o.ownBlock=some b) W'/\(∀b,o.ownBlock=some b->¬Mst P v1 v2 v3 v4 b)
 row:W'.ownsRow W.heap.size 3 1 o js.length (js.map λj:Nat=>Value.int .i64 (j:Int))
theorem jK(w){o a}(H:o.guard=none)(s x)
  (ax:o.op=.call {callee:=.builtin .append,args:=#[s,x],argTypes:=#[23,23]})
  (I) (v) (aW) (ae:a.eval s=v) (aU:w.ownsRow I 3 1 v aW.length (aW.map λj:Nat=>Value.int .i64 (j:Int)))
  (aM) (y:Nat) (ap:a.eval x=.slice (some aM) 1 1) (f:w.cell? aM=some (hF y))
  (l:aW.length+1<=1000000) (af:I<=w.heap.size)
  (h:∀g cap n J,n=(aW++[y]).length->J.ownsRow I 3 1 (hE g n cap) (aW++[y]).length ((aW++[y]).map λj:Nat=>Value.int .i64 (j:Int))->Chg (λb=>v.ownBlock=some b) w J->(v.ownBlock=some g\/g=w.heap.size)->wpList prog bA Q rest (a.put o.dst (hE g n cap)) J):wpList prog bA Q (o::rest) a w:=by
 obtain⟨bC,hi,bn,bQ,br⟩:=info_parts qk;refine wpList_append_lies w H s x 23 ax I 3 bC (hF 0) 1 8 underlying23 hi bn bQ br rfl xab v aW.length _ ae aU aM 1 1 [hF y] ap rfl ?_ ?_ xab (by unfold maxLen;omega) xaa af _ rfl ?_
 ·exact xik
 ·intro u aI;simp at aI;subst aI;rfl
 exact xgl
theorem FtI.keep{W aA}(h:FtI W W' P I u1 u2 u3 u4 bs st o aW)(k:Kept 0 0 W' aA):FtI W aA P I u1 u2 u3 u4 bs st o aW:=by
 exact xir
theorem FtI.step{W aF ba bc z aa bD s}(C:Mv (Mst P u1 u2 u3 u4) W (λb=>Mst P ba bc z aa b\/o.ownBlock=some b) ay)(y:∀b,o.ownBlock=some b->¬Mst P ba bc z aa b)(ae:ay.ownsRow W.heap.size 3 1 o aW.length (aW.map λj:Nat=>Value.int .i64 (j:Int)))(aJ:WS aF P I aS bb bq bD bs s)(G:Mv (Mst P ba bc z aa) ay (Mst P aS bb bq bD) aF):FtI W aF P I u1 u2 u3 u4 bs s o aW:=by
 exact xdn
theorem bA.qbo(h:Zp:=by
 refine⟨⟨ba,bc,z,aa,B.side al (λb hb c=>h3 b c hb) (λi hi=>?_),aL,λb hb c=>?_⟩,?_⟩
 ·exact xiz
 ·rw[bB]at hb;subst hb;exact f c
 rw[yak,List.map_append];exact C):Zp:=h
open bA in
theorem FtI.app{W be g}(ai:WS W P I u1 u2 u3 u4 bs g)(ae:st.names=g.names)(h:FtI W W' P I u1 u2 u3 u4 bs st o aW){g9 n9 cap9 x:Nat}(C:be.ownsRow W.heap.size 3 1 (hE g9 n9 cap9) (aW.length+1) ((aW.map λj:Nat=>Value.int .i64 (j:Int))++[hF x]))(al:Chg (λb=>o.ownBlock=some b) W' be)(bl:o.ownBlock=some g9\/g9=W'.heap.size):FtI W be P I u1 u2 u3 u4 bs st (hE g9 n9 cap9) (aW++[x]):=by
 exact qbn
theorem yU{W}(h:WS W P I u1 u2 u3 u4 bs st)(g:Gd st)(cF t ee xs)(co:XsR (Mst P u1 u2 u3 u4) W cF t xs)(hn:t<=100)(ap:∀i∈xs,i<st.vs.length)(p:Nat):
  Calls prog 138 #[hD P,.slice cF t ee,hF p] W (FtO W P I u1 u2 u3 u4 bs (kj st xs p)):=by
 have bp:V _:=h;have bk:V _:=g;have bu:V _:=co;have aG:V _:=co.len
 have ab:V (∀k,k<t->xs.getD k 0<st.vs.length):=λk O=>ap _ (by
  rw[yah,yal (hR co.len O)]
  exact List.getElem_mem _)
 have a5:V _:=xw g xs ap;have aL:V (kj st xs p=if xs.all (λi=>fe st i==pL st xs||fe st i==1)=true then iL (pL st xs) p st xs else .error (4,p)):=rfl;generalize kj st xs p=r at aL⊢
 have bi:V (∀W' k,Kept 0 0 W W'->k<t->∃bx cap dg off,u2=hE bx st.vs.length cap/\cF=some ⟨dg,off,none⟩/\W'.cell? ⟨P,1,none⟩=some u2/\W'.cell? ⟨dg,off+k,none⟩=some (hF (xs.getD k 0:Nat))/\W'.cell? ⟨bx,xs.getD k 0*6+1,none⟩=some (hF (fe st (xs.getD k 0)))):=λW' k al O=>by
  obtain⟨bx,cap,af,_,U⟩:=(bp.o.keep al).lenc (ab.o k O)
  obtain⟨dg,off,aj,_,_,a6⟩:=(bu.o.keep al).at_ xaa
  exact⟨bx,cap,dg,off,af,aj,(bp.o.keep al).c1,a6 k O,U⟩
 have bB:=g.n;clear h g co ap;go_enter func138,ntmps138;go_wp2_with fail;go_loopw [7,8] (λnv aM W'=>∃k:Nat,k<=t/\aM=hF k/\nv=hF (pL st (xs.take k))/\V (Kept 0 0 W W')) (λ_ aM _=>t-(intOf aM).toNat)
 case atStart=>exact⟨0,Nat.zero_le _,rfl,rfl,Kept.refl 0 0 W⟩
 case round=>
  obtain⟨k,O,rfl,rfl,ar⟩:=hrel;by_cases aB:k<t
  ·obtain⟨bx,cap,dg,off,af,a0,c1,c2,c3⟩:=bi.o wr k ar.o aB;subst af a0;have au:V _:=uY st xs k (hR aG.o aB);have aU:=ab.o k aB;generalize xs.getD k 0=x at c2 c3 au aU;generalize fe st x=l at c3 au;generalize pL st (xs.take k)=m at au⊢;go_upto_region 5 with fail;go_quiet (fail)
   have bU:V _:=Kept.trans ar.o (eL 0 0 wr nq);have d1:(wr.drewN nq).cell? ⟨P,1,none⟩=some (hE bx st.vs.length cap):=c1;have d2:(wr.drewN nq).cell? ⟨dg,off+k,none⟩=some (hF (x:Nat)):=c2;have d3:(wr.drewN nq).cell? ⟨bx,x*6+1,none⟩=some (hF l):=c3;clear c1 c2 c3 ar;generalize wr.drewN nq=b8 at bU d1 d2 d3⊢;by_cases bj:m<l
   ·have R:V _:=au.o.trans (hI bj);go_upto_region 6 with fail;go_quiet (fail)
    have bf:V _:=Kept.trans bU.o (eL 0 0 b8 nq);generalize b8.drewN nq=cf at bf⊢;clear d1 d2 d3;go_wp2_with fail;go_roundw;exact⟨k+1,by omega,by go_num,by rw[R.o],bf⟩;simp[intOf];omega
   have R:V _:=au.o.trans (hG bj);clear d1 d2 d3;go_wp2_with fail;go_roundw;exact⟨k+1,by omega,by go_num,by rw[R.o],bU⟩;simp[intOf];omega
  obtain rfl:k=t:=xaa;have C:=a5.o k (by rw[aG.o];exact yad);rw[yao (by rw[aG.o];exact yad)]at C⊢;generalize pL st xs=M at C aL⊢;clear a5;have b4:V _:=ar.o;clear ar;go_upto_region 7 with fail;go_wp2_with fail;go_loopw [9] (λaM W'=>∃j:Nat,j<=k/\aM=hF j/\V (Kept 0 0 W W')/\V (∀q,q<j->(fe st (xs.getD q 0)==M||fe st (xs.getD q 0)==1)=true)) (λaM _=>k-(intOf aM).toNat)
  case atStart=>exact⟨0,Nat.zero_le _,rfl,b4,λq ao=>by omega⟩
  case round=>
   obtain⟨j,hj,rfl,ar,a2⟩:=hrel;by_cases aN:j<k
   ·obtain⟨bx,cap,dg,off,af,a0,c1,c2,c3⟩:=bi.o wr j ar.o aN;subst af a0;have aU:=ab.o j aN
    have aY:V (∀l,fe st (xs.getD j 0)=l->(l==M||l==1)=true->∀q,q<j+1->(fe st (xs.getD q 0)==M||fe st (xs.getD q 0)==1)=true):=λl ah hb q ao=>by
     by_cases c:q=j
     ·subst c;rw[ah];exact hb
     ·exact a2.o q xaa
    have cc:V (∀l,fe st (xs.getD j 0)=l->(l==M||l==1)=false->xs.all (λi=>fe st i==M||fe st i==1)=false):=λl ah hb=>by
     rw[List.all_eq_false]
     refine⟨xs.getD j 0,?_,?_⟩
     ·rw[yah,yal (hR aG.o aN)]
      exact List.getElem_mem _
     ·rw[ah,hb];simp
    generalize aH:fe st (xs.getD j 0)=l at c3;have aq:V _:=aH;clear aH;generalize xs.getD j 0=x at c2 c3 aU aq aY cc;have bT:V (∀W',Kept 0 0 W W'->_):=λW' al=>jI (bp.o.keep al).c5 (bp.o.keep al).c6 (bp.o.keep al).fr 4 p (Mst P u1 (hE bx st.vs.length cap) u3 u4) (.inl rfl);go_upto_region 10 with fail;go_quiet (fail)
    have bU:V _:=Kept.trans ar.o (eL 0 0 wr nq);clear c1 c2 c3 ar;generalize wr.drewN nq=b8 at bU⊢;cases aO:(l==M)
    ·have bI:(l !=M)=true:=by unfold bne;rw[aO];rfl
     cases aX:(l==1)
     ·have bL:(l !=1)=true:=by unfold bne;rw[aX];rfl
      have R:V _:=aL.o.trans (hG (by rw[cc.o l aq.o (by rw[aO,aX];rfl)];simp));have ai:V _:=bT.o b8 bU.o;clear aY cc;go_wp2_with (go_at_call 102;refine yai ai.o ?_;rintro e a8 ⟨rfl,aI⟩);go_ret;rw[R.o];exact⟨rfl,aI.c5,aI.c6,(Mv.of bU.o).bad aI.chg⟩
     have bL:(l !=1)=false:=by unfold bne;rw[aX];rfl
     have R:V _:=aY.o l aq.o (by rw[aO,aX];rfl);exact xhx
    have bI:(l !=M)=false:=by unfold bne;rw[aO];rfl
    have R:V _:=aY.o l aq.o (hU aO);exact xhx
   obtain rfl:j=k:=xaa;have bv:V _:=a2.o
   have aF:V (r=iL M p st xs):=aL.o.trans (hI (by
    rw[List.all_eq_true]
    intro i hi
    obtain⟨q,ao,rfl⟩:=List.getElem_of_mem hi
    have:=a2.o q (hS aG.o ao)
    rw[yah,yal ao]at this
    exact this))
   have bN:V _:=ar.o;clear ar a2 aL;have cG:V (FtI W wr P I u1 u2 u3 u4 bs st (.slice none 0 0) []):=⟨⟨u1,u2,u3,u4,bp.o.keep bN.o,⟨(Mv.of (M:=Mst P u1 u2 u3 u4) bN.o).chg,λb hb=>.inl (hb.elim id (λc=>by simp[Value.ownBlock]at c))⟩,λb hb=>by simp[Value.ownBlock]at hb⟩,yav _ _ _ _⟩
   have bG:V (r=tG [] (iL M p st (xs.drop 0))):=by show _=_;rw[F7];exact aF.o
   go_upto_region 14 with fail;go_wp2_with fail;go_loopw [11,12] (λZ aM W'=>∃(q:Nat) (y:LSt) (aW:List Nat),q<=j/\aM=hF q/\aW.length=q/\V (FtI W W' P I u1 u2 u3 u4 bs y Z aW)/\V (Gd y)/\V (y.names=st.names)/\V (∀i,i<st.vs.length->i<y.vs.length/\fe y i=fe st i)/\V (r=tG aW (iL M p y (xs.drop q)))) (λ_ aM _=>j-(intOf aM).toNat)
   case atStart=>exact⟨0,st,[],Nat.zero_le _,rfl,rfl,cG,bk,(show V (st.names=st.names) from rfl),(show V (∀i,i<st.vs.length->i<st.vs.length/\fe st i=fe st i) from λi hi=>⟨hi,rfl⟩),bG⟩
   case round=>
    obtain⟨q,y,aW,ao,rfl,(cd:V _),bl,cr,aT,aR,J⟩:=hrel;by_cases cb:q<j
    ·obtain⟨ba,bc,z,aa,az,aw,bQ⟩:=bl.o.ex;obtain⟨dg,off,rfl,_,_,a9⟩:=(bu.o.mv aw).at_ xaa;have cM:=a9 q cb;have cq:=ab.o q cb;obtain⟨bX,K⟩:=aR.o _ cq
     have w:V (xs.drop q=xs.getD q 0::xs.drop (q+1)):=by
      show _=_;rw[List.drop_eq_getElem_cons (hR aG.o cb),yah,yal (hR aG.o cb)];rfl
     have S:V _:=bv.o q cb;obtain⟨bx,bM,a0,b9,bd⟩:=az.lenc bX;have b0:=az.c1;rw[K]at bd;have am:V _:=az;have aP:V _:=aw;have cl:V _:=bQ;rw[<-K]at S;generalize xs.getD q 0=x at cM cq bX K w S bd;have cU:V _:=aw.chg.size;have bP:=cr.o.n;subst a0;clear a9 az aw bQ;by_cases av:fe st x<M
     ·have ci:fe y x=1:=by
       have h:=S.o;rw[K]at h;have:(fe st x==M)=false:=yaw xaa;rw[this,Bool.false_or]at h;rw[K];simpa using h
      have aA:fe y x<M:=hR K av
      have F:V (∀W',_):=λW'=>gS W' 10 M (x:Int) 0 0;have ak:V (∀W',Kept 0 0 wr W'->_):=λW' al=>ms (am.o.keep al) cr.o (eK 10 M (x:Int) 0 0) C (show(0:Nat)<18446744073709551616 by decide) p;have cH:V _:=JO bX ci C;have u:V (gh y (eK 10 M (x:Int) 0 0) p=if kM (y.vs++[eK 10 M (x:Int) 0 0])=true then .error (5,p)else .ok ({y with vs:=y.vs++[eK 10 M (x:Int) 0 0]},y.vs.length)):=rfl;have aK:V (∀s gc,gh y (eK 10 M (x:Int) 0 0) p=.ok (s,gc)->r=tG (aW++[gc]) (iL M p s (xs.drop (q+1)))):=λs gc e=>by rw[J.o,w.o,pB aA e,uZ]
      have aC:V (∀f,gh y (eK 10 M (x:Int) 0 0) p=.error f->r=.error f):=λf e=>by rw[J.o,w.o,pC aA e];rfl
      generalize fe st x=l at bd av;cases hb:kM (y.vs++[eK 10 M (x:Int) 0 0])
      ·rw[hb,hG xac]at u;rw[u.o]at ak;have R2:V _:=aK.o _ _ u.o;have bC:V _:=cr.o.put cH.o (show(0:Nat)<18446744073709551616 by decide) hb
       have cn:V (∀i,i<st.vs.length->i<(LSt.mk y.ins (y.vs++[eK 10 M (x:Int) 0 0]) y.outs y.names y.calls).vs.length/\fe (LSt.mk y.ins (y.vs++[eK 10 M (x:Int) 0 0]) y.outs y.names y.calls) i=fe st i):=λi hi=>by
        obtain⟨B,U⟩:=aR.o i hi
        refine⟨by simp only[yak];omega,?_⟩
        rw[<-U]
        unfold fe
        simp only
        rw[yah,yas B,<-yah]
       have Y:V ((LSt.mk y.ins (y.vs++[eK 10 M (x:Int) 0 0]) y.outs y.names y.calls).names=st.names):=aT.o;have a7:V _:=bl.o.row;generalize bJ:y.vs.length=X at ak R2;have bR:X<=2000:=xaa;clear hb u aK aC ci aA K S w J cH
       go_upto_region 21 with (first
        |(go_at_call 39;refine yai (F.o _) ?_;rintro e ag ⟨rfl,an⟩)
        |(go_at_call 106;refine yai (ak.o _ an) ?_;intro e a8 bh;obtain⟨rfl,aS,bb,bq,bD,aJ,G⟩:=bh))
       have HFn:V _:=FtI.step (aP.o.keep an) cl.o (eW a7.o an) aJ G;have cK:V (W.heap.size<=a8.heap.size):=by show _<=_;have:=cU.o;have:=an.size;have:=G.chg.size;omega
       clear cU bl am aP cl a7 cM bd b0 an aJ G ak F bJ;have b7:(a8.alloc (.cells #[hF X] 3)).cell? ⟨a8.heap.size,0,none⟩=some (hF X):=by rw[yau];rfl
       have aZ:=ez 0 0 a8 (.cells #[hF X] 3);have bH:V _:=HFn.o.keep aZ;go_wp2_with (first|(at_builtin;refine jK _ rfl _ _ rfl W.heap.size _ aW rfl bH.o.row ⟨a8.heap.size,0,none⟩ X rfl b7 ?c2 ?c3 ?_)|fail)
       case c2=>have:=cd.o;omega
       case c3=>have:=cK.o;simp;omega
       intro g9 cap9 n9 be bO b1 bV b6;have R1:V _:=FtI.app (st:={y with vs:=y.vs++[eK 10 M (x:Int) 0 0]}) bp.o Y.o bH.o b1 bV (b6.imp id (λe=>by rw[e];simp));clear b1 bV b6 bO aZ b7;go_wp2_with fail;go_roundw;exact⟨q+1,_,aW++[X],by omega,by go_num,by rw[yak,cd.o];rfl,R1,bC,Y,cn,R2⟩;simp[intOf];omega
      rw[hb,hI rfl]at u;rw[u.o]at ak;have R2:V _:=aC.o _ u.o;clear hb u aK aC ci aA K S w J cH
      go_upto_region 21 with (first
       |(go_at_call 39;refine yai (F.o _) ?_;rintro e ag ⟨rfl,an⟩)
       |(go_at_call 106;refine yai (ak.o _ an) ?_;intro e a8 bh;obtain⟨rfl,bK,bm,cI⟩:=bh))
      have bn:V _:=bK;have br:V _:=bm;have bw:V _:=(aP.o.keep an).bad ⟨cI.os,cI.tape,cI.output,cI.size,λi hi hn=>cI.block i hi (λc=>hn (.inl c))⟩;clear bK bm cI;go_wp2_with fail;go_ret;rw[R2.o];exact⟨rfl,bn.o,br.o,bw.o⟩
     have R2:V (r=tG (aW++[x]) (iL M p y (xs.drop (q+1)))):=by
      show _=_;rw[J.o,w.o,oA (hR K av),uZ]
     generalize fe st x=l at bd av;clear K S w J;have b7:(wr.alloc (.cells #[hF x] 3)).cell? ⟨wr.heap.size,0,none⟩=some (hF x):=by rw[yau];rfl
     have aZ:=ez 0 0 wr (.cells #[hF x] 3);have bH:V _:=bl.o.keep aZ;go_wp2_with (first|(at_builtin;refine jK _ rfl _ _ rfl W.heap.size _ aW rfl bH.o.row ⟨wr.heap.size,0,none⟩ x rfl b7 ?c2 ?c3 ?_)|fail)
     case c2=>have:=cd.o;omega
     case c3=>have:=cU.o;simp;omega
     intro g9 cap9 n9 be bO b1 bV b6;have R1:V _:=FtI.app bp.o aT.o bH.o b1 bV (b6.imp id (λe=>by rw[e];simp));clear b1 bV b6 bO aZ b7;go_wp2_with fail;go_roundw;exact⟨q+1,y,aW++[x],by omega,by go_num,by rw[yak,cd.o];rfl,R1,cr,aT,aR,R2⟩;simp[intOf];omega
    obtain rfl:q=j:=xaa
    have R:V (r=.ok (y,aW)):=by
     show _=_;rw[J.o,List.drop_eq_nil_of_le (by rw[aG.o];exact yad)];show Except.ok (y,aW++[])=_;rw[List.append_nil]
    obtain⟨ba,bc,z,aa,az,aw,bQ⟩:=bl.o.ex;obtain⟨aV,b5,ax⟩:=jr bl.o.row
    have bF:V (XsR (Mst P ba bc z aa) wr aV aW.length aW):=by
     refine⟨rfl,λbo=>?_⟩;have ae:=bl.o.row;rcases ae.2 with⟨_,c⟩|⟨g,c,H,e,N,aD,ad,_,bE,bY⟩
     ·omega
     rw[ax]at e;cases e
     have aQ:g<wr.heap.size:=by
      rcases Nat.lt_or_ge g wr.heap.size with c|c
      ·exact c
      rw[Array.getElem?_eq_none c]at aD;cases aD
     refine⟨g,0,rfl,bQ g (by rw[ax];simp[Value.ownBlock]),aQ,λk O=>?_⟩;rw[Nat.zero_add,cell_of_row wr g _ H _ _ aD,<-Array.getElem?_toList];have:(H.toList.take (aW.length*1))[k]? =(aW.map λj:Nat=>Value.int .i64 (j:Int))[k]?:=by rw[bY]
     rw[List.getElem?_take_of_lt xaa]at this;rw[this,List.getElem?_map,yah,yal O];rfl
    have am:V _:=az;have aP:V (Mv (Mst P u1 u2 u3 u4) W (Mst P ba bc z aa) wr):=⟨aw.chg,λb hb=>aw.new b (.inl hb)⟩
    clear az aw bQ bl;subst ax;go_wp2_with fail;go_ret;rw[R.o];exact⟨aV,b5,rfl,ba,bc,z,aa,am.o,aP.o,bF.o⟩
def spQ(ts:List Tok)(k:Nat):SpS:=ml ⟨0,[],[]⟩ (ts.take k)
theorem F8(h:k<ts.length):spQ ts (k+1)=iK (spQ ts k) (ts.getD k hL):=by
 unfold spQ;rw[yat h,oZ,yah,yal h];rfl
theorem Pb:∀(ts:List Tok) (q:SpS),q.d-ts.length<=(ml q ts).d/\(ml q ts).d<=q.d+ts.length
 |[],q=>by show q.d-0<=q.d/\q.d<=q.d+0;omega
 |t::ts,q=>by
  rw[lh,yap]
  have B:=Pb ts (iK q t)
  grind[iK]
theorem M9:-(k:Int)<=(spQ ts k).d/\(spQ ts k).d<=k:=by
 have h:=Pb (ts.take k) ⟨0,[],[]⟩;grind[spQ]
def lR(ts:List Tok)(f:Nat×Nat):List Tok:=(ts.drop f.1).take (f.2-f.1)
theorem C9{F}(h:k<ts.length)(bx:F<=k):lR ts (F,k+1)=lR ts (F,k)++[ts.getD k hL]:=by
 unfold lR;simp only;have e:k+1-F=(k-F)+1:=xaa;have ah:k-F<(ts.drop F).length:=by grind
 rw[e,yat ah,List.getElem_drop,yah,yal h];simp_all
theorem F9{f}(h:f.2<=ts.length):(lR ts f).length=f.2-f.1:=by
 grind[lR]
def uo(g off cap:Nat)(f:Nat×Nat):Value:=.slice (some ⟨g,off+f.1*3,none⟩) (f.2-f.1) (cap-f.1)
theorem Na:(prog.info? 85).map (λi=>(i.zero,i.size,i.bytes))=some (some (.slice none 0 0),1,24):=by kernel_rfl
theorem xz:∃bC,prog.info? 85=some bC/\bC.zero=some (.slice none 0 0)/\bC.size=1/\bC.bytes=24:=by
 have h:=Na;simp_all
theorem oC(w){o a}(H:o.guard=none)(s x)
  (ax:o.op=.call {callee:=.builtin .append,args:=#[s,x],argTypes:=#[163,163]})
  (I) (v) (ab) (ae:a.eval s=v) (aU:w.ownsRow I 85 1 v ab.length ab)
  (aM) (aT) (nn bT) (ap:a.eval x=.slice (some aM) 1 1) (f:w.cell? aM=some (.slice aT nn bT))
  (l:ab.length+1<=1000000) (af:I<=w.heap.size)
  (h:∀g cap n J,n=ab.length+1->J.ownsRow I 85 1 (hE g n cap) (ab.length+1) (ab++[.slice aT nn bT])->Chg (λb=>v.ownBlock=some b) w J->(v.ownBlock=some g\/g=w.heap.size)->wpList prog bA Q rest (a.put o.dst (hE g n cap)) J):wpList prog bA Q (o::rest) a w:=by
 obtain⟨bC,hi,bn,bQ,br⟩:=xz;refine wpList_append_lies w H s x _ ax I 85 _ _ 1 _ underlying163 hi bn bQ br rfl xab v _ _ ae aU _ 1 1 [.slice aT nn bT] ap rfl ?_ ?_ xab (by unfold maxLen;omega) xaa af _ rfl ?_
 ·grind[Addr.add]
 ·intro u aI;simp at aI;subst aI;rfl
 intro g cap J B U h3 _;exact h g _ _ _ rfl B (gX U) h3
theorem yV{w W}{e s:Nat}{xs}(k:Kept 0 0 w W)(f:W.ownsRow w.heap.size e s v n xs)(c:Chg (λb=>v.ownBlock=some b) W W'):Kept 0 0 w W':=
 Chg.kept k c (λ_ hi=>(eI f hi).1)
structure SgR(W:World)(g lo:Nat)(a:Option Addr)(segs:List (List Tok)):Prop where
 at_:0<segs.length->∃gr,a=some ⟨gr,0,none⟩/\lo<=gr/\gr<W.heap.size/\∀i,i<segs.length->∃o c,W.cell? ⟨gr,i,none⟩=some (.slice (some ⟨g,o,none⟩) (segs.getD i []).length c)/\TkA W g o (segs.getD i []).length (segs.getD i [])/\(segs.getD i []).length<=c
theorem yW(W a cap):Calls prog 141 #[.slice a 0 cap] W λe W'=>e=.returned (.slice none 0 0)/\W'=W:=by
 go_enter func141,ntmps141;go_wp2;go_ret;exact⟨rfl,rfl⟩
theorem BH(W g off m cap ts)(f:TkA W g off m ts)(aw:m<=5000)(ai:0<m)(ax:m<=cap)(ca:(spQ ts m).cur≠[]):
  Calls prog 141 #[.slice (some ⟨g,off,none⟩) m cap] W λe W'=>∃a c,e=.returned (.slice a (gj ts).length c)/\SgR W' g W.heap.size a (gj ts)/\Kept 0 0 W W':=by
 have aL:V _:=f;have HL:V _:=f.len
 have HE:V (gj ts=(spQ ts m).ou++[(spQ ts m).cur]):=by
  show _=_;unfold gj spQ;rw[hG (by intro c;rw[c]at f;have:=f.len;grind),<-f.len,List.take_length]
 have dg:V _:=ca;have bn:((m:Int)==0)=false:=by grind
 clear f ca;go_enter func141,ntmps141;go_wp2_with fail;go_loopw [3,4,5,6] (λZ X c7 aM W'=>∃(k F:Nat) (ab:List (Nat×Nat)),k<=m/\F<=k/\aM=hF k/\c7=hF F/\X=hF (spQ ts k).d/\ab.length<=k/\V ((spQ ts k).cur=lR ts (F,k))/\V ((spQ ts k).ou=ab.map (lR ts))/\V (∀f∈ab,f.1<=f.2/\f.2<=m)/\V (W'.ownsRow W.heap.size 85 1 Z ab.length (ab.map (uo g off cap)))/\V (Kept 0 0 W W')) (λ_ _ _ aM _=>m-(intOf aM).toNat)
 case atStart=>exact⟨0,0,[],Nat.zero_le _,yad,rfl,rfl,rfl,yad,(show(spQ _ 0).cur=lR ts _ from by unfold lR;simp;rfl),(show(spQ _ 0).ou=[] from rfl),(λf a9=>by cases a9),yav _ _ _ _,Kept.refl 0 0 W⟩
 case round=>
  obtain⟨k,F,ab,O,p,rfl,rfl,rfl,aI,al,y,aT,C,ar⟩:=hrel;by_cases aB:k<m
  ·have j:k<ts.length:=by rw[HL.o];exact aB
   have c0:=(aL.o.keep ar.o).c0 k aB;have au:V _:=F8 j;have aH:=M9 (ts:=ts) (k:=k);have S:V _:=C9 j p;generalize spQ _ k=Q at au aH al y⊢;generalize ts.getD k _=K at c0 au S;obtain⟨d,H,out⟩:=Q;simp only at aH al y⊢;have t:V (H++[K]=lR ts (F,k+1)):=by show _=_;rw[S.o,al.o]
   by_cases B:K.sym=[40]
   ·have R:V (spQ ts _=⟨d+1,H++[K],out⟩):=au.o.trans (by unfold iK;rw[hI B]);have h:V ((spQ ts (k+1)).cur=lR ts (F,k+1)):=by show _=_;rw[R.o];exact t.o
    have l:V ((spQ ts (k+1)).ou=ab.map (lR ts)):=by show _=_;rw[R.o];exact y.o
    have aO:(K.sym==[40])=true:=hU B
    have aS:IntKind.i64.wrap (d+1)=d+1:=by rw[IntKind.wrap_i64];omega
    generalize K.sym=s at c0 aO;clear B au S j;exact xdg
   by_cases U:K.sym=[41]
   ·have R:V (spQ ts _=⟨d-1,H++[K],out⟩):=au.o.trans (by unfold iK;rw[hG B,hI U]);have h:V ((spQ ts (k+1)).cur=lR ts (F,k+1)):=by show _=_;rw[R.o];exact t.o
    have l:V ((spQ ts (k+1)).ou=ab.map (lR ts)):=by show _=_;rw[R.o];exact y.o
    have aO:=yaw B;have aX:(K.sym==[41])=true:=hU U
    have aS:IntKind.i64.wrap (d-1)=d-1:=by rw[IntKind.wrap_i64];omega
    generalize K.sym=s at c0 aO aX;clear B U au S j;exact xdg
   have aO:=yaw B;have aX:=yaw U;by_cases h3:K.sym=[44]
   ·have ah:(K.sym==[44])=true:=by rw[h3];rfl
    by_cases G:d=0
    ·subst G;have R:V (spQ ts _=⟨0,_,out++[H]⟩):=au.o.trans (by unfold iK;rw[hG B,hG U,hI ⟨h3,rfl⟩]);have h:V ((spQ ts (k+1)).cur=lR ts (k+1,k+1)):=by show _=_;rw[R.o];unfold lR;simp
     have l:V ((spQ ts (k+1)).ou=(ab++[(F,k)]).map (lR ts)):=by show _=_;rw[R.o,List.map_append];simp only;rw[y.o,al.o];rfl
     have RB:V (∀f∈ab++[(F,k)],f.1<=f.2/\f.2<=m):=λf a9=>by
      rcases List.mem_append.1 a9 with c|c
      ·exact aT.o f c
      ·simp only[List.mem_singleton]at c;subst c;exact⟨p,by omega⟩
     generalize K.sym=s at c0 aO aX ah;clear B U h3 au S j;have bR:(0:Int)<=F:=xaa;have aS:(F:Int)<=k:=xaa;have bb:(k:Int)<=cap:=xaa;have af:((k:Int)-F).toNat=k-F:=xaa;have bD:F<cap:=xaa;have b7:(wr.alloc (.cells #[.slice (some ⟨g,off+F*3,none⟩) (k-F) (cap-F)] 85)).cell? ⟨wr.heap.size,0,none⟩=some (.slice (some ⟨g,off+F*3,none⟩) (k-F) (cap-F)):=by rw[yau];rfl
     have aZ:=ez 0 0 wr (.cells #[.slice (some ⟨g,off+F*3,none⟩) (k-F) (cap-F)] 85)
     have N:V ((wr.alloc (.cells #[.slice (some ⟨g,off+F*3,none⟩) (k-F) (cap-F)] 85)).ownsRow W.heap.size 85 1 u3 (ab.map (uo g off cap)).length (ab.map (uo g off cap))):=by
      rw[List.length_map];exact eW C.o aZ
     go_wp2_with (first|(at_builtin;refine oC _ rfl _ _ rfl _ _ _ rfl N.o _ _ _ _ rfl b7 ?c2 ?c3 ?_)|fail)
     case c2=>rw[List.length_map];omega
     case c3=>have:=ar.o.size;simp;omega
     intro g9 cap9 n9 be bO b1 bV b6
     have R1:V (be.ownsRow W.heap.size 85 1 (hE g9 n9 cap9) (ab++[(F,k)]).length ((ab++[(F,k)]).map (uo g off cap))):=by
      rw[List.map_append,yak];show World.ownsRow _ _ _ _ _ _ _;simpa[uo] using b1
     have R2:V _:=yV (ar.o.trans aZ) N.o bV;clear b1 bV b6 bO aZ b7;go_wp2_with fail;go_roundw;exact⟨k+1,k+1,ab++[(F,k)],by omega,yad,by go_num,by go_num,by rw[R.o],by simp;omega,h,l,RB,R1,R2⟩;simp[intOf];omega
    have R:V (spQ ts _=⟨d,H++[K],out⟩):=au.o.trans (by unfold iK;rw[hG B,hG U,hG (λc=>G c.2)]);have h:V ((spQ ts (k+1)).cur=lR ts (F,k+1)):=by show _=_;rw[R.o];exact t.o
    have l:V ((spQ ts (k+1)).ou=ab.map (lR ts)):=by show _=_;rw[R.o];exact y.o
    have hd0:=yaw G;generalize K.sym=s at c0 aO aX ah;clear B U h3 au S j G;exact xdg
   have R:V (spQ ts _=⟨d,H++[K],out⟩):=au.o.trans (by unfold iK;rw[hG B,hG U,hG (λc=>h3 c.1)]);have h:V ((spQ ts (k+1)).cur=lR ts (F,k+1)):=by show _=_;rw[R.o];exact t.o
   have l:V ((spQ ts (k+1)).ou=ab.map (lR ts)):=by show _=_;rw[R.o];exact y.o
   have ah:=yaw h3;generalize K.sym=s at c0 aO aX ah;clear B U h3 au S j;exact xdg
  obtain rfl:k=m:=xaa
  have Y:F<k:=by
   rcases Nat.lt_or_ge F k with c|c
   ·exact c
   exfalso;apply dg.o;rw[al.o];unfold lR;simp only;rw[show k-F=0 by omega,List.take_zero]
  have w:V (gj ts=(ab++[(F,k)]).map (lR ts)):=by
   show _=_;rw[HE.o,y.o,al.o,List.map_append];rfl
  have bR:(0:Int)<=F:=xaa;have aS:(F:Int)<=k:=xaa;have bb:(k:Int)<=cap:=xaa;have af:((k:Int)-F).toNat=k-F:=xaa;have bD:F<cap:=xaa;have b7:(wr.alloc (.cells #[.slice (some ⟨g,off+F*3,none⟩) (k-F) (cap-F)] 85)).cell? ⟨wr.heap.size,0,none⟩=some (.slice (some ⟨g,off+F*3,none⟩) (k-F) (cap-F)):=by rw[yau];rfl
  have aZ:=ez 0 0 wr (.cells #[.slice (some ⟨g,off+F*3,none⟩) (k-F) (cap-F)] 85)
  have N:V ((wr.alloc (.cells #[.slice (some ⟨g,off+F*3,none⟩) (k-F) (cap-F)] 85)).ownsRow W.heap.size 85 1 u3 (ab.map (uo g off cap)).length (ab.map (uo g off cap))):=by
   rw[List.length_map];exact eW C.o aZ
  generalize spQ _ k=Q at*;go_wp2_with (first|(at_builtin;refine oC _ rfl _ _ rfl _ _ _ rfl N.o _ _ _ _ rfl b7 ?c2 ?c3 ?_)|fail)
  case c2=>rw[List.length_map];omega
  case c3=>have:=ar.o.size;simp;omega
  intro g9 cap9 n9 be bO b1 bV b6;have b8:(gj ts).length=ab.length+1:=by rw[w.o];simp
  have R1:V (be.ownsRow W.heap.size 85 1 (hE g9 n9 cap9) (ab.length+1) ((ab++[(F,k)]).map (uo g off cap))):=by
   rw[List.map_append];show World.ownsRow _ _ _ _ _ _ _;simpa[uo] using b1
  have R2:V _:=yV (ar.o.trans aZ) N.o bV;have x:n9=(gj ts).length:=by rw[b8,bO]
  have u:V _:=x;have aD:V _:=b8;clear b1 bV b6 bO aZ b7 x b8;go_wp2_with fail;go_ret;refine⟨_,_,congrArg (λz=>Ending.returned (.slice _ z _)) u.o,⟨λe9=>?_⟩,R2.o⟩;have ae:=R1.o;have an:=eI (k:=g9) ae (by simp[Value.ownBlock]);refine⟨_,rfl,an.1,an.2,λi hi=>?_⟩;have bf:i<(ab++[(F,k)]).length:=by rw[w.o,List.length_map]at hi;exact hi
  have ba:=World.ownsRow.cells (g:=g9) ae rfl i (uo g _ _ ((ab++[(F,k)]).getD i (0,0))) (by rw[List.getElem?_map,yah,yal bf];rfl);rw[j9,Nat.zero_add]at ba
  have J:(gj ts).getD i []=lR ts ((ab++[(F,k)]).getD i (0,0)):=by
   rw[w.o,yah,List.getElem?_map,yah,yal bf];rfl
  have ad:((ab++[(F,k)]).getD i (0,0)).1<=((ab++[(F,k)]).getD i (0,0)).2/\((ab++[(F,k)]).getD i (0,0)).2<=k:=by
   have aw:(ab++[(F,k)]).getD i (0,0)∈ab++[(F,k)]:=by
    rw[yah,yal bf];exact List.getElem_mem _
   rcases List.mem_append.1 aw with c|c
   ·exact aT.o _ c
   simp only[List.mem_singleton]at c;rw[c];exact⟨p,yad⟩
  generalize (ab++[(F,k)]).getD i _=f at ba J ad;rw[J,F9 (hR HL.o ad.2)];exact⟨_,_,ba,(aL.o.keep R2.o).cut ad.2,by omega⟩
theorem WS.graph{W}(h:WS W P I u1 u2 u3 u4 bs st){lo}(ax:I<=lo)
  (az:W.ownsRow lo 3 1 aS st.ins.length (st.ins.map (Value.int .i64))) (aZ:W.ownsRow lo 40 6 bb vs.length (fW vs)) (ar:W.ownsRow lo 3 1 bq st.outs.length (st.outs.map (Value.int .i64)))
  (f:Apart aS bb) (m:Apart aS bq) (C:Apart bb bq) (hP:P<lo) (a6:∀b,u4.ownBlock=some b->b<lo)
  (g:W0.heap.size<=lo) (H:Mv (Mst P u1 u2 u3 u4) W0 (Mst P u1 u2 u3 u4) W) (cR:∀i,i<bs.length->BcOK (λb=>Mst P u1 u2 u3 u4 b\/W0.heap.size<=b) W (bs.getD i hM) (st.names.getD i (.val [] 0))):
  WS (((W.setCell ⟨P,0,none⟩ aS).setCell ⟨P,1,none⟩ bb).setCell ⟨P,2,none⟩ bq) P I aS bb bq u4 bs {st with vs:=vs}/\Mv (Mst P u1 u2 u3 u4) W0 (Mst P aS bb bq u4) (((W.setCell ⟨P,0,none⟩ aS).setCell ⟨P,1,none⟩ bb).setCell ⟨P,2,none⟩ bq):=by
 have am:∀{z:Value}{e s n:Nat}{xs:List _},W.ownsRow lo e s z n xs->z.ownBlock≠some P:=λav c=>hO ((eI av c).1)
 have l:=h.np.2.2.2;have j:∀{z:Value}{e s n:Nat}{xs:List _},W.ownsRow lo e s z n xs->Apart z _:=λav k O aI=>hQ ((eI av O).1) (a6 k aI)
 obtain⟨bd,aR,aV⟩:=fg W P _ _ _ h.c0 h.c1 h.c2 aS bb bq;have K:=fh W P aS bb bq
 have es:∀o,o≠0->o≠1->o≠2->(((W.setCell ⟨P,0,_⟩ aS).setCell ⟨P,1,_⟩ bb).setCell ⟨P,2,_⟩ bq).cell? _=W.cell? ⟨P,o,_⟩:=λo ai B U=>by
  rw[eN _ _ _ _ _ _ (.inr (λe=>U e.symm)),eN _ _ _ _ _ _ (.inr (λe=>B e.symm)),eN _ _ _ _ _ _ (.inr (λe=>ai e.symm))]
 have aL:Mv (Mst P u1 u2 u3 u4) W0 (Mst P aS bb bq u4) (((W.setCell ⟨P,0,none⟩ aS).setCell ⟨P,1,none⟩ bb).setCell ⟨P,2,none⟩ bq):=by
  refine⟨H.bad (K.chg1 (.inl rfl)),λb hb=>?_⟩;exact xfr
 have t:Mv _ W (λb=>Mst P u1 u2 u3 u4 b\/W0.heap.size<=b) _:=⟨K.chg1 (.inl (.inl rfl)),λb hb=>.inl hb⟩
 have p:∀{z:Value}{e s n:Nat}{xs:List _},W.ownsRow _ e s z n xs->z.ownBlock≠some P->(((W.setCell ⟨P,0,_⟩ aS).setCell ⟨P,1,_⟩ bb).setCell ⟨P,2,_⟩ bq).ownsRow I e s z n _:=λav hn=>jc (eJ (eJ (eJ av hn) hn) hn) ax;refine⟨⟨by simpa using h.lt,λo=>by simp[h.fr o],bd,aR,aV,(es 3 xab xab xab).trans h.c3,(es 4 xab xab xab).trans h.c4,(es 5 xab xab xab).trans h.c5,(es 6 xab xab xab).trans h.c6,p az (am az),p aZ (am aZ),p ar (am ar),eJ (eJ (eJ h.r4 l) l) l,⟨am az,am aZ,am ar,l⟩,⟨f,m,j az,C,j aZ,j ar⟩,h.nl,λi hi=>?_,h.sz⟩,aL⟩;refine((cR i hi).mv t).weak (λb hb=>?_);exact xfr
theorem WS.old{W}(h:WS W0 P I u1 u2 u3 u4 bs st)(k:Kept 0 0 W0 W):∀i,i<bs.length->BcOK (λb=>Mst P u1 u2 u3 u4 b\/W0.heap.size<=b) W (bs.getD i hM) (st.names.getD i (.val [] 0)):=λi hi=>by
 have au:∀{a:Option _}{n:Nat}{ts:List _},TkR _ _ a n _->TkR (λb=>Mst P u1 u2 u3 u4 b\/W0.heap.size<=b) W a n ts:=λht=>⟨ht.len,λhn=>by
  obtain⟨g,off,e,B,U⟩:=ht.at_ hn
  exact⟨g,_,e,λc=>c.elim B (λc=>hO U.lt),U.keep k⟩⟩
 have hb:=h.nb i hi
 cases G:st.names.getD i (.val [] 0) with
 |val bJ v=>rw[G]at hb;exact hb
 |fn bJ aT e=>
  rw[G]at hb
  obtain⟨B,U,h3,ts,a6,bK,bm⟩:=hb
  exact⟨B,U,au h3,_,a6,bK,au bm⟩
theorem rS{W:World}{N aD af a0 aq aN Y ab:Nat}{u xs bc}(B:W.ownsRow N af aq u Y xs)(U:W.ownsRow aD a0 aN v ab bc)(ad:af≠a0):Apart u v:=λk O aM=>by
 rcases B.2 with⟨c,_⟩|⟨g,c,H,e,_,d1,_⟩
 ·rw[c]at O;simp[Value.ownBlock]at O
 ·rcases U.2 with⟨y,_⟩|⟨aA,y,f,C,_,d2,_⟩<;>grind[Value.ownBlock]
theorem qI{W}(ai:WS W0 P I u1 u2 u3 u4 bs st)(H:Kept 0 0 W0 W){N Z ad d1 cap d3}
  (az:W.ownsRow W0.heap.size 3 1 (.slice N st.ins.length d1) st.ins.length (st.ins.map (Value.int .i64))) (aZ:W.ownsRow W0.heap.size 40 6 (.slice Z vs.length cap) vs.length (fW vs)) (ar:W.ownsRow W0.heap.size 3 1 (.slice ad st.outs.length d3) st.outs.length (st.outs.map (Value.int .i64))) (m:Apart (.slice N st.ins.length d1) (.slice ad st.outs.length d3))
  (O:∀v∈vs,v.k<18446744073709551616) (ah:∀k,k<vs.length->1<=(vs.getD k hK).len/\(vs.getD k hK).len<=1000) (j:Nat) (p:Nat):
  Calls prog 157 #[hD P,eX N st.ins.length d1 Z vs.length cap ad st.outs.length d3,hF j,hF p] W λe W'=>TrO W0 P I u1 u2 u3 u4 bs (if kM vs=true then .error (5,p)else .ok ({st with vs:=vs},j)) e W':=by
 have am:=ez 0 0 W (eZ N st.ins.length d1 Z vs.length cap ad st.outs.length d3);have aH:V _:=fO W (.slice N st.ins.length d1) (.slice Z vs.length cap) (.slice ad st.outs.length d3);have B:GS W _ _ _ _ _ _ _ _ _:=⟨xv az rfl,F5 aZ rfl O,xv ar rfl⟩
 have aL:V _:=AI _ _ _ _ _ d1 _ cap _ d3 _ _ _ (B.keep am) ah;have b4:V _:=H.trans am;have a6:V _:=eW az am;have bP:V _:=eW aZ am;have bR:V _:=eW ar am;have aY:V (Apart _ _/\Apart (.slice N _ _) _/\Apart (.slice Z _ _) _):=⟨rS az aZ xab,m,rS aZ ar xab⟩
 have l:V _:=ai;clear B ah O am H az aZ ar m ai;obtain⟨r,av⟩:∃r:Rs _,r=(if kM vs=true then .error (5,p)else .ok ({st with vs:=vs},j)):=⟨_,rfl⟩
 rw[<-av];have w:V _:=av;clear av;go_enter func157,ntmps157;go_wp2_with fail;generalize W.alloc _=ay at aH aL b4 a6 bP bR⊢;generalize W.heap.size=bI at aH⊢;obtain⟨_,bd,aR,aV⟩:=aH.o;cases hb:kM vs
 ·rw[hb]at aL;have R:V _:=w.o.trans (hG (by rw[hb];simp))
  have br:V (∀W',Kept 0 0 _ W'->_):=λW' k=>
   WS.graph (l.o.keep (b4.o.trans k)) (hQ l.o.sz l.o.lt) (eW a6.o k) (eW bP.o k) (eW bR.o k) aY.o.1 aY.o.2.1 aY.o.2.2 l.o.lt (λb hb=>(eI l.o.r4 hb).2) yad (Mv.of (b4.o.trans k)) (l.o.old (b4.o.trans k))
  have ae:V (∀W',Kept 0 0 _ W'->(W'.cell? _=some _/\W'.cell? _=some _/\W'.cell? _=some _)/\(∀o,W'.frozen? _=false)/\G0 _ _ _ _ _):=λW' k=>by
   have h:=l.o.keep (b4.o.trans k)
   exact⟨⟨h.c0,h.c1,h.c2⟩,h.fr,aH.o.keep k⟩
  clear hb w;go_upto_region 3 with (go_at_call 144;refine yai aL.o ?_;rintro e s ⟨rfl,f⟩);obtain⟨⟨bi,a5,p2⟩,bN,⟨_,bf,aO,aX⟩⟩:=ae.o _ f;have bH:=bN 0;have f1:=bN 1;have f2:=bN 2;have ao:V _:=br.o _ f;clear bd aR aV aH aL br ae bN f;go_wp2_with fail;go_ret;rw[R.o];exact⟨rfl,_,_,_,_,ao.o.1,ao.o.2⟩
 rw[hb]at aL;have R:V _:=w.o.trans (hI hb);have bT:V (∀W',Kept 0 0 _ W'->_):=λW' k=>jI (l.o.keep (b4.o.trans k)).c5 (l.o.keep (b4.o.trans k)).c6 (l.o.keep (b4.o.trans k)).fr 5 p (Mst P u1 u2 u3 u4) (.inl rfl);clear hb w
 go_wp2_with (first
  |(go_at_call 144;refine yai aL.o ?_;rintro e s ⟨rfl,f⟩)
  |(go_at_call 102;refine yai (bT.o _ f) ?_;rintro e F ⟨rfl,aI⟩))
 go_ret;rw[R.o];exact⟨rfl,aI.c5,aI.c6,(Mv.of (b4.o.trans f)).bad aI.chg⟩
structure Sg1(W:World)(gr i q o c:Nat)(t:Tok):Prop where
 lt:gr<W.heap.size
 at_:W.cell? ⟨gr,i,none⟩=some (.slice (some ⟨q,o,none⟩) 1 c)
 tk:TkA W q o 1 [t]
theorem Sg1.keep{W o t}(h:Sg1 W bz i q o c t)(k:Kept 0 0 W W'):Sg1 W' bz i q o c t:=
 ⟨yaj h.lt k.size,(k.cell (p:=⟨bz,i,none⟩) h.lt xaa).trans h.at_,h.tk.keep k⟩
theorem Sg1.cells{W o t}(h:Sg1 W bz i q o c t):W.cell? ⟨bz,i,none⟩=some (.slice (some ⟨q,o,none⟩) 1 c)/\W.cell? ⟨q,o,none⟩=some (eO t.sym)/\W.cell? ⟨q,o+1,none⟩=some (hF t.pos)/\W.cell? ⟨q,o+2,none⟩=some (eO t.text):=
 ⟨h.at_,by simpa using h.tk.c0 0 xaa,by simpa using h.tk.c1 0 xaa,by simpa using h.tk.c2 0 xaa⟩
theorem TrO.back{e}(k:Kept 0 0 W0 ay)(h:TrO ay P I u1 u2 u3 u4 bs r e W'):TrO W0 P I u1 u2 u3 u4 bs r e W':=by
 rcases r with⟨c,p⟩|⟨st,v⟩
 ·obtain⟨B,U,h3,a6⟩:=h;exact⟨B,U,h3,(Mv.of k).bad a6⟩
 obtain⟨B,ba,bc,z,aa,U,h3⟩:=h;exact⟨B,_,_,_,_,U,(Mv.of k).trans h3⟩
theorem TrO.ret{W e}(h:TrO W P I u1 u2 u3 u4 bs r e W'):∃x:Int,e=.returned (hF x):=by
 rcases r with⟨c,p⟩|⟨st,v⟩
 ·exact⟨_,h.1⟩
 exact⟨v,h.1⟩
theorem bC.qbq(h:Zp:=by
 have j:V (mo _ ⟨_,_,S⟩ a n=if ae=qy then
  if fe _ a<=iC _ then .error _ else gh st _ K
  else if fe _ a≠1 then .error (4,K)
  else if iC _<1\/1000<iC _ then .error _ else gh _ _ K):=rfl
 have ci:=H.len a F;change 1<=fe _ a/\fe _ a<=1000 at ci;have bp:V _:=h;have au:V _:=aU;obtain⟨bx,cap,a0,b9,-⟩:=h.lenc F
 have HL:V (∀W',Kept 0 0 W W'->W'.cell? _=some (.slice _ _ _)/\W'.cell? _=some _/\(W'.cell? _=some _/\W'.cell? _=some _/\W'.cell? _=some _/\W'.cell? _=some _)):=λW' al=>by
  obtain⟨aC,aT,aj,_,c3⟩:=(bp.o.keep al).lenc F
  rw[a0]at aj
  cases aj
  exact⟨(bp.o.keep al).c1.trans (congrArg some a0),c3,(au.o.keep al).cells⟩
 generalize mo _ _ a n=r at j⊢;generalize fe _ a=l at ci HL j;generalize w:st.vs.length=bK at*;clear w h aU H aY bp au a0 b9;unfold i7 at bU⊢;obtain⟨bR,Z,J⟩:=n;simp only at bU hb HL j⊢;generalize iC _=m at*;exact qfm):Zp:=h
theorem bC.qfn(h:Zp:=by
 obtain⟨aR,aV,bY,ce,cl,cV⟩:=HL.o _ HK.o;exact qhk):Zp:=h
theorem bC.qhl(h:Zp:=by
 clear aR aV bY ce cl cV a9 aH HK an bU;obtain⟨aR,aV,bY,ce,cl,cV⟩:=HL.o _ bN.o;have a9:=y.o.c0;have N:=y.o.c1;clear HL;rcases O with O|O
 ·subst O;have u:V _:=j.o.trans (hG xab);unfold uO at*;clear j;by_cases B:l=1
  ·subst B;have f:V _:=u.o.trans (hG xac);clear u;by_cases U:m<1
   ·have R:V _:=f.o.trans (hI (.inl U));exact xcy
   by_cases h3:1000<m
   ·have R:V _:=f.o.trans (hI (.inr h3));exact xcy
   have R:V _:=f.o.trans (hG xaa);have cd:V _:=λW' al=>ak.o W' (eK 10 m a 0 0) al (by grind) (by simp_all);go_upto_region 12 with fail;exact xek
  have R:V _:=u.o.trans (hI B);have bf:=yaw B;exact xcy
 subst O;have u:V _:=j.o.trans (hI rfl);unfold qy at*;clear j;by_cases B:l<=m
 ·have R:V _:=u.o.trans (hI B);exact xcy
 have R:V _:=u.o.trans (hG B);have cd:V (∀W',Kept 0 0 W W'->_):=λW' al=>ak.o W' (eK 11 1 (a:Int) 0 m) al (by show(1:Int)<=1/\(1:Int)<=1000;omega) yag;go_upto_region 6 with fail;exact xek):Zp:=h
open bC in
theorem Ga{W}(h:WS W P I u1 u2 u3 u4 bs st)(H:Gd st)(k)(O:k.sym=uO\/k.sym=qy)(a)(F:a<st.vs.length)(n)(aY:Dgs n.text){aB b0 o}(cx:2<=aB)(aU:Sg1 W bz 1 q o c n):
  Calls prog 155 #[hD P,i7 k,hF a,hE bz aB b0] W (TrO W P I u1 u2 u3 u4 bs (mo st k a n)):=by
 obtain⟨ae,K,S⟩:=k;simp only at O;have bU:V _:=λW'=>yR n aY W';have bB:=H.n;have hb:=pN aY yad;rw[List.take_length]at hb;have aH:V _:=im W ae K S;have HK:V _:=ez 0 0 W (.cells #[eO ae,hF K,eO S] 89);exact qbp
