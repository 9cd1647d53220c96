import Derived.Test.YtbhmhdllnfkjhaaGreatP24
namespace Go.Proofs.Z
variable{Zp:Prop}
open Tryz
set_option maxRecDepth 1000000
set_option maxHeartbeats 0
open Go.RowKit Flt
attribute[local go_sem] eG eE eD
variable{W0 az W':World}{br:Array Oper}{M':Nat->Prop}{ts:List Tok}{rest:List Oper}{k P R bl i n q c:Nat}{a:Option Addr}{u1 u2 u3 v u4 aN a2 o bk:Value}{Q:Exit->Act->World->Prop}{xs aT:List Nat}{r:Rs (LSt×Nat)}{bs:List Bc}{st:LSt}{vs:List Vl}
structure XsR(M:Nat->Prop)(W:World)(a:Option Addr)(n:Nat)(xs:List Nat):Prop where
 len:xs.length=n
 at_:0<n->∃g off,a=some ⟨g,off,none⟩/\¬M g/\g<W.heap.size/\∀k,k<n->W.cell? ⟨g,off+k,none⟩=some (.int .i64 (xs.getD k 0:Nat))
theorem XsR.mv{M W}(h:XsR M W a n xs)(k:Mv M W M' W'):XsR M' W' a n xs:=
 ⟨h.len,λhn=>by
  obtain⟨g,off,e,B,J,h3⟩:=h.at_ hn
  exact⟨g,_,e,λc=>(k.new g c).elim B (λc=>by omega),yak J k.chg.size,λj hj=>(k.chg.cell J B).trans (h3 j hj)⟩⟩
theorem XsR.keep{M W}(h:XsR M W a n xs)(k:Kept 0 0 W W'):XsR M W' a n xs:=h.mv (Mv.of k)
theorem WS.lenc{W}(h:WS W P R u1 u2 u3 u4 bs st)(hi:i<st.vs.length):∃g cap,u2=hC g st.vs.length cap/\g<W.heap.size/\W.cell? ⟨g,i*6+1,none⟩=some (hD (fe st i)):=by
 obtain⟨g,cap,e,_,J,_,a0⟩:=mh h.r2 xaa rfl;exact⟨g,_,e,J,(a0.at_ i hi).c1⟩
theorem TkR.weak{M W}(h:TkR M W a n ts)(C:∀b,M' b->M b):TkR M' W a n ts:=
 ⟨h.len,λhn=>by obtain⟨g,off,e,B,J⟩:=h.at_ hn;grind⟩
theorem BcOK.weak{M W b d}(h:BcOK M W b d)(C:∀b,M' b->M b):BcOK M' W b d:=by
 cases d with
 |val af v=>exact h
 |fn af X e=>
  obtain⟨B,J,h3,ts,a0,bz,bP⟩:=h;exact⟨B,J,h3.weak C,_,a0,bz,bP.weak C⟩
theorem WS.side{W S}(h:WS W P R u1 u2 u3 u4 bs st)(c:Chg S W W')(aZ:∀b,Mst P u1 u2 u3 u4 b->¬S b)(bc:∀i,i<bs.length->BcOK (Mst P u1 u2 u3 u4) W' (bs.getD i hK) (st.names.getD i (.val [] 0))):WS W' P R u1 u2 u3 u4 bs st:=by
 have f:=aZ P (.inl rfl);have e:∀o,_:=λo=>c.cell (p:=⟨P,o,none⟩) h.lt f;exact⟨yak h.lt c.size,λo=>(c.frozen h.lt f).trans (h.fr o),(e 0).trans h.c0,(e 1).trans h.c1,(e 2).trans h.c2,(e 3).trans h.c3,(e 4).trans h.c4,(e 5).trans h.c5,(e 6).trans h.c6,fy h.r1 c (λb hb=>aZ b (.inr (.inl hb))),fy h.r2 c (λb hb=>aZ b (.inr (.inr (.inl hb)))),fy h.r3 c (λb hb=>aZ b (.inr (.inr (.inr (.inl hb))))),fy h.r4 c (λb hb=>aZ b (.inr (.inr (.inr (.inr hb))))),h.np,h.ap,h.nl,bc,h.sz⟩
def FtO(W:World)(P B:Nat)(u1 u2 u3 u4:Value)(bs:List Bc)(r:Rs (LSt×List Nat))(e:Ending)(W':World):Prop:=
 match r with
 |.error (c,p)=>e=.returned (.slice none 0 0)/\W'.cell? ⟨P,5,none⟩=some (.int .i64 c)/\W'.cell? ⟨P,6,none⟩=some (.int .i64 (p:Int))/\Chg (Mst P u1 u2 u3 u4) W W'
 |.ok (st,js)=>∃a cap,e=.returned (.slice a js.length cap)/\∃v1 v2 v3 v4,WS W' P B v1 v2 v3 v4 bs st/\Mv (Mst P u1 u2 u3 u4) W (Mst P v1 v2 v3 v4) W'/\XsR (Mst P v1 v2 v3 v4) W' a js.length js
structure FtI(W W':World)(P B:Nat)(u1 u2 u3 u4:Value)(bs:List Bc)(st:LSt)(o:Value)(js:List Nat):Prop where
 ex:∃v1 v2 v3 v4,WS W' P B v1 v2 v3 v4 bs st/\Mv (Mst P u1 u2 u3 u4) W (λb=>Mst P v1 v2 v3 v4 b\/o.ownBlock=some b) W'/\(∀b,o.ownBlock=some b->¬Mst P v1 v2 v3 v4 b)
 row:W'.ownsRow W.heap.size 3 1 o js.length (js.map λj:Nat=>Value.int .i64 (j:Int))
theorem jI(w){o a}(X:o.guard=none)(s x)
  (al:o.op=.call {callee:=.builtin .append,args:=#[s,x],argTypes:=#[23,23]})
  (R) (v) (aT) (ar:a.eval s=v) (aZ:w.ownsRow R 3 1 v aT.length (aT.map λj:Nat=>Value.int .i64 (j:Int)))
  (ai) (y:Nat) (ak:a.eval x=.slice (some ai) 1 1) (f:w.cell? ai=some (hD y))
  (C:aT.length+1<=1000000) (T:R<=w.heap.size)
  (h:∀g cap n I,n=(aT++[y]).length->I.ownsRow R 3 1 (hC g n cap) (aT++[y]).length ((aT++[y]).map λj:Nat=>Value.int .i64 (j:Int))->Chg (λb=>v.ownBlock=some b) w I->(v.ownBlock=some g\/g=w.heap.size)->wpList prog br Q rest (a.put o.dst (hC g n cap)) I):wpList prog br Q (o::rest) a w:=by
 obtain⟨b3,hi,a6,b8,b5⟩:=info_parts qz;refine wpList_append_lies w X s x 23 al R 3 b3 (hD 0) 1 8 underlying23 hi a6 b8 b5 rfl xab v aT.length _ ar aZ ai 1 1 [hD y] ak rfl ?_ ?_ xab (by unfold maxLen;omega) xaa T _ rfl ?_
 ·exact xhf
 ·intro u aH;simp at aH;subst aH;rfl
 exact xfh
theorem FtI.keep{W aB}(h:FtI W W' P R u1 u2 u3 u4 bs st o aT)(k:Kept 0 0 W' aB):FtI W aB P R u1 u2 u3 u4 bs st o aT:=by
 exact xhl
theorem FtI.step{W ab a9 ba be bi bq s}(C:Mv (Mst P u1 u2 u3 u4) W (λb=>Mst P a9 ba be bi b\/o.ownBlock=some b) az)(al:∀b,o.ownBlock=some b->¬Mst P a9 ba be bi b)(ar:az.ownsRow W.heap.size 3 1 o aT.length (aT.map λj:Nat=>Value.int .i64 (j:Int)))(aF:WS ab P R aN a2 bk bq bs s)(G:Mv (Mst P a9 ba be bi) az (Mst P aN a2 bk bq) ab):FtI W ab P R u1 u2 u3 u4 bs s o aT:=by
 exact xct
theorem aR.qbg(h:Zp:=by
 refine⟨⟨a9,ba,be,bi,B.side bT (λb hb c=>h3 b c hb) (λi hi=>?_),aw,λb hb c=>?_⟩,?_⟩
 ·exact xhr
 ·rw[aP]at hb;subst hb;exact f c
 rw[yal,List.map_append];exact C):Zp:=h
open aR in
theorem FtI.app{W bg g}(ae:WS W P R u1 u2 u3 u4 bs g)(am:st.names=g.names)(h:FtI W W' P R u1 u2 u3 u4 bs st o aT){g9 n9 cap9 x:Nat}(C:bg.ownsRow W.heap.size 3 1 (hC g9 n9 cap9) (aT.length+1) ((aT.map λj:Nat=>Value.int .i64 (j:Int))++[hD x]))(bT:Chg (λb=>o.ownBlock=some b) W' bg)(bv:o.ownBlock=some g9\/g9=W'.heap.size):FtI W bg P R u1 u2 u3 u4 bs st (hC g9 n9 cap9) (aT++[x]):=by
 exact qbf
theorem zN{W}(h:WS W P R u1 u2 u3 u4 bs st)(g:Gd st)(cF t eb xs)(a5:XsR (Mst P u1 u2 u3 u4) W cF t xs)(hn:t<=100)(ak:∀i∈xs,i<st.vs.length)(p:Nat):
  Calls prog 143 #[hB P,.slice cF t eb,hD p] W (FtO W P R u1 u2 u3 u4 bs (jZ st xs p)):=by
 have bo:V _:=h;have aX:V _:=g;have bn:V _:=a5;have aq:V _:=a5.len
 have K:V (∀k,k<t->xs.getD k 0<st.vs.length):=λk N=>ak _ (by
  rw[yai,yam (hO a5.len N)]
  exact List.getElem_mem _)
 have aZ:V _:=xR g xs ak;have aI:V (jZ st xs p=if xs.all (λi=>fe st i==qg st xs||fe st i==1)=true then iM (qg st xs) p st xs else .error (4,p)):=rfl;generalize jZ st xs p=r at aI⊢
 have bA:V (∀W' k,Kept 0 0 W W'->k<t->∃bp cap cf off,u2=hC bp st.vs.length cap/\cF=some ⟨cf,off,none⟩/\W'.cell? ⟨P,1,none⟩=some u2/\W'.cell? ⟨cf,off+k,none⟩=some (hD (xs.getD k 0:Nat))/\W'.cell? ⟨bp,xs.getD k 0*6+1,none⟩=some (hD (fe st (xs.getD k 0)))):=λW' k ai N=>by
  obtain⟨bp,cap,e1,_,J⟩:=(bo.o.keep ai).lenc (K.o k N)
  obtain⟨cf,off,af,_,_,a0⟩:=(bn.o.keep ai).at_ xaa
  exact⟨bp,cap,cf,off,e1,af,(bo.o.keep ai).c1,a0 k N,J⟩
 have bw:=g.n;clear h g a5 ak;go_enter func143,ntmps143;go_wp2_with fail;go_loopw [7,8] (λnv aD W'=>∃k:Nat,k<=t/\aD=hD k/\nv=hD (qg st (xs.take k))/\V (Kept 0 0 W W')) (λ_ aD _=>t-(intOf aD).toNat)
 case atStart=>exact⟨0,yae,rfl,rfl,Kept.refl 0 0 W⟩
 case round=>
  obtain⟨k,N,rfl,rfl,aw⟩:=hrel;by_cases aC:k<t
  ·obtain⟨bp,cap,cf,off,e1,e2,c1,c2,c3⟩:=bA.o wr k aw.o aC;subst e1 e2;have au:V _:=vS st xs k (hO aq.o aC);have aW:=K.o k aC;generalize xs.getD k 0=x at c2 c3 au aW;generalize fe st x=l at c3 au;generalize qg st (xs.take k)=m at au⊢;go_upto_region 5 with fail;go_quiet (fail)
   have b0:V _:=Kept.trans aw.o (eK 0 0 wr nq);have d1:(wr.drewN nq).cell? ⟨P,1,none⟩=some (hC bp st.vs.length cap):=c1;have d2:(wr.drewN nq).cell? ⟨cf,off+k,none⟩=some (hD (x:Nat)):=c2;have d3:(wr.drewN nq).cell? ⟨bp,x*6+1,none⟩=some (hD l):=c3;clear c1 c2 c3 aw;generalize wr.drewN nq=bj at b0 d1 d2 d3⊢;by_cases bv:m<l
   ·have U:V _:=au.o.trans (hG bv);go_upto_region 6 with fail;go_quiet (fail)
    have cC:V _:=Kept.trans b0.o (eK 0 0 bj nq);generalize bj.drewN nq=ci at cC⊢;clear d1 d2 d3;go_wp2_with fail;go_roundw;exact⟨k+1,by omega,by go_num,by rw[U.o],cC⟩;simp[intOf];omega
   have U:V _:=au.o.trans (hF bv);clear d1 d2 d3;go_wp2_with fail;go_roundw;exact⟨k+1,by omega,by go_num,by rw[U.o],b0⟩;simp[intOf];omega
  obtain rfl:k=t:=xaa;have C:=aZ.o k (by rw[aq.o];exact yad);rw[yap (by rw[aq.o];exact yad)]at C⊢;generalize qg st xs=M at C aI⊢;clear aZ;have bY:V _:=aw.o;clear aw;go_upto_region 7 with fail;go_wp2_with fail;go_loopw [9] (λaD W'=>∃j:Nat,j<=k/\aD=hD j/\V (Kept 0 0 W W')/\V (∀q,q<j->(fe st (xs.getD q 0)==M||fe st (xs.getD q 0)==1)=true)) (λaD _=>k-(intOf aD).toNat)
  case atStart=>exact⟨0,yae,rfl,bY,λq am=>by omega⟩
  case round=>
   obtain⟨j,hj,rfl,aw,aU⟩:=hrel;by_cases aB:j<k
   ·obtain⟨bp,cap,cf,off,e1,e2,c1,c2,c3⟩:=bA.o wr j aw.o aB;subst e1 e2;have aW:=K.o j aB
    have aa:V (∀l,fe st (xs.getD j 0)=l->(l==M||l==1)=true->∀q,q<j+1->(fe st (xs.getD q 0)==M||fe st (xs.getD q 0)==1)=true):=λl ab hb q am=>by
     by_cases c:q=j
     ·subst c;rw[ab];exact hb
     ·exact aU.o q xaa
    have bf:V (∀l,fe st (xs.getD j 0)=l->(l==M||l==1)=false->xs.all (λi=>fe st i==M||fe st i==1)=false):=λl ab hb=>by
     rw[List.all_eq_false]
     refine⟨xs.getD j 0,?_,?_⟩
     ·rw[yai,yam (hO aq.o aB)]
      exact List.getElem_mem _
     ·rw[ab,hb];simp
    generalize aK:fe st (xs.getD j 0)=l at c3;have ao:V _:=aK;clear aK;generalize xs.getD j 0=x at c2 c3 aW ao aa bf;have bm:V (∀W',Kept 0 0 W W'->_):=λW' ai=>jG (bo.o.keep ai).c5 (bo.o.keep ai).c6 (bo.o.keep ai).fr 4 p (Mst P u1 (hC bp st.vs.length cap) u3 u4) (.inl rfl);go_upto_region 10 with fail;go_quiet (fail)
    have b0:V _:=Kept.trans aw.o (eK 0 0 wr nq);clear c1 c2 c3 aw;generalize wr.drewN nq=bj at b0⊢;cases aP:(l==M)
    ·have bR:(l !=M)=true:=by unfold bne;rw[aP];rfl
     cases aY:(l==1)
     ·have bT:(l !=1)=true:=by unfold bne;rw[aY];rfl
      have U:V _:=aI.o.trans (hF (by rw[bf.o l ao.o (by rw[aP,aY];rfl)];simp));have z:V _:=bm.o bj b0.o;clear aa bf;go_wp2_with (go_at_call 117;refine yaj z.o ?_;rintro e a7 ⟨rfl,S⟩);go_ret;rw[U.o];exact⟨rfl,S.c5,S.c6,(Mv.of b0.o).bad S.chg⟩
     have bT:(l !=1)=false:=by unfold bne;rw[aY];rfl
     have U:V _:=aa.o l ao.o (by rw[aP,aY];rfl);exact xgs
    have bR:(l !=M)=false:=by unfold bne;rw[aP];rfl
    have U:V _:=aa.o l ao.o (hS aP);exact xgs
   obtain rfl:j=k:=xaa;have bF:V _:=aU.o
   have aH:V (r=iM M p st xs):=aI.o.trans (hG (by
    rw[List.all_eq_true]
    intro i hi
    obtain⟨q,am,rfl⟩:=List.getElem_of_mem hi
    have:=aU.o q (hQ aq.o am)
    rw[yai,yam am]at this
    exact this))
   have bD:V _:=aw.o;clear aw aU aI;have cG:V (FtI W wr P R u1 u2 u3 u4 bs st (.slice none 0 0) []):=⟨⟨u1,u2,u3,u4,bo.o.keep bD.o,⟨(Mv.of (M:=Mst P u1 u2 u3 u4) bD.o).chg,λb hb=>.inl (hb.elim id (λc=>by simp[Value.ownBlock]at c))⟩,λb hb=>by simp[Value.ownBlock]at hb⟩,yaw _ _ _ _⟩
   have b4:V (r=uw [] (iM M p st (xs.drop 0))):=by show _=_;rw[G6];exact aH.o
   go_upto_region 14 with fail;go_wp2_with fail;go_loopw [11,12] (λX aD W'=>∃(q:Nat) (y:LSt) (aT:List Nat),q<=j/\aD=hD q/\aT.length=q/\V (FtI W W' P R u1 u2 u3 u4 bs y X aT)/\V (Gd y)/\V (y.names=st.names)/\V (∀i,i<st.vs.length->i<y.vs.length/\fe y i=fe st i)/\V (r=uw aT (iM M p y (xs.drop q)))) (λ_ aD _=>j-(intOf aD).toNat)
   case atStart=>exact⟨0,st,[],yae,rfl,rfl,cG,aX,(show V (st.names=st.names) from rfl),(show V (∀i,i<st.vs.length->i<st.vs.length/\fe st i=fe st i) from λi hi=>⟨hi,rfl⟩),b4⟩
   case round=>
    obtain⟨q,y,aT,am,rfl,(bU:V _),bx,cl,aS,aO,I⟩:=hrel;by_cases cx:q<j
    ·obtain⟨a9,ba,be,bi,ap,T,bS⟩:=bx.o.ex;obtain⟨cf,off,rfl,_,_,bd⟩:=(bn.o.mv T).at_ xaa;have b1:=bd q cx;have cr:=K.o q cx;obtain⟨cb,F⟩:=aO.o _ cr
     have w:V (xs.drop q=xs.getD q 0::xs.drop (q+1)):=by
      show _=_;rw[List.drop_eq_getElem_cons (hO aq.o cx),yai,yam (hO aq.o cx)];rfl
     have Y:V _:=bF.o q cx;obtain⟨bp,bV,e2,bQ,bb⟩:=ap.lenc cb;have cp:=ap.c1;rw[F]at bb;have an:V _:=ap;have ay:V _:=T;have ca:V _:=bS;rw[<-F]at Y;generalize xs.getD q 0=x at b1 cr cb F w Y bb;have cW:V _:=T.chg.size;have bX:=cl.o.n;subst e2;clear bd ap T bS;by_cases av:fe st x<M
     ·have ck:fe y x=1:=by
       have h:=Y.o;rw[F]at h;have:(fe st x==M)=false:=yax xaa;rw[this,Bool.false_or]at h;rw[F];simpa using h
      have aJ:fe y x<M:=hO F av
      have aA:V (∀W',_):=λW'=>gO W' 10 M (x:Int) 0 0;have bC:V (∀W',Kept 0 0 wr W'->_):=λW' ai=>mB (an.o.keep ai) cl.o (eL 10 M (x:Int) 0 0) C (show(0:Nat)<18446744073709551616 by decide) p;have cd:V _:=Kj cb ck C;have u:V (fV y (eL 10 M (x:Int) 0 0) p=if kM (y.vs++[eL 10 M (x:Int) 0 0])=true then .error (5,p)else .ok ({y with vs:=y.vs++[eL 10 M (x:Int) 0 0]},y.vs.length)):=rfl;have aM:V (∀s ga,fV y (eL 10 M (x:Int) 0 0) p=.ok (s,ga)->r=uw (aT++[ga]) (iM M p s (xs.drop (q+1)))):=λs ga e=>by rw[I.o,w.o,pT aJ e,vT]
      have aL:V (∀f,fV y (eL 10 M (x:Int) 0 0) p=.error f->r=.error f):=λf e=>by rw[I.o,w.o,pU aJ e];rfl
      generalize fe st x=l at bb av;cases hb:kM (y.vs++[eL 10 M (x:Int) 0 0])
      ·rw[hb,hF xac]at u;rw[u.o]at bC;have R2:V _:=aM.o _ _ u.o;have bK:V _:=cl.o.put cd.o (show(0:Nat)<18446744073709551616 by decide) hb
       have b3:V (∀i,i<st.vs.length->i<(LSt.mk y.ins (y.vs++[eL 10 M (x:Int) 0 0]) y.outs y.names y.calls).vs.length/\fe (LSt.mk y.ins (y.vs++[eL 10 M (x:Int) 0 0]) y.outs y.names y.calls) i=fe st i):=λi hi=>by
        obtain⟨B,J⟩:=aO.o i hi
        refine⟨by simp only[yal];omega,?_⟩
        rw[<-J]
        unfold fe
        simp only
        rw[yai,yat B,<-yai]
       have aj:V ((LSt.mk y.ins (y.vs++[eL 10 M (x:Int) 0 0]) y.outs y.names y.calls).names=st.names):=aS.o;have a6:V _:=bx.o.row;generalize bW:y.vs.length=ae at bC R2;have bZ:ae<=2000:=xaa;clear hb u aM aL ck aJ F Y w I cd
       go_upto_region 21 with (first
        |(go_at_call 40;refine yaj (aA.o _) ?_;rintro e ag ⟨rfl,ah⟩)
        |(go_at_call 121;refine yaj (bC.o _ ah) ?_;intro e a7 bh;obtain⟨rfl,aN,a2,bk,bq,aF,G⟩:=bh))
       have HFn:V _:=FtI.step (ay.o.keep ah) ca.o (eR a6.o ah) aF G;have cH:V (W.heap.size<=a7.heap.size):=by show _<=_;have:=cW.o;have:=ah.size;have:=G.chg.size;omega
       clear cW bx an ay ca a6 b1 bb cp ah aF G bC aA bW;have bN:(a7.alloc (.cells #[hD ae] 3)).cell? ⟨a7.heap.size,0,none⟩=some (hD ae):=by rw[yav];rfl
       have bc:=ez 0 0 a7 (.cells #[hD ae] 3);have a8:V _:=HFn.o.keep bc;go_wp2_with (first|(at_builtin;refine jI _ rfl _ _ rfl W.heap.size _ aT rfl a8.o.row ⟨a7.heap.size,0,none⟩ ae rfl bN ?c2 ?c3 ?_)|fail)
       case c2=>have:=bU.o;omega
       case c3=>have:=cH.o;simp;omega
       intro g9 cap9 n9 bg bJ bM bI bL;have R1:V _:=FtI.app (st:={y with vs:=y.vs++[eL 10 M (x:Int) 0 0]}) bo.o aj.o a8.o bM bI (bL.imp id (λe=>by rw[e];simp));clear bM bI bL bJ bc bN;go_wp2_with fail;go_roundw;exact⟨q+1,_,aT++[ae],by omega,by go_num,by rw[yal,bU.o];rfl,R1,bK,aj,b3,R2⟩;simp[intOf];omega
      rw[hb,hG rfl]at u;rw[u.o]at bC;have R2:V _:=aL.o _ u.o;clear hb u aM aL ck aJ F Y w I cd
      go_upto_region 21 with (first
       |(go_at_call 40;refine yaj (aA.o _) ?_;rintro e ag ⟨rfl,ah⟩)
       |(go_at_call 121;refine yaj (bC.o _ ah) ?_;intro e a7 bh;obtain⟨rfl,bz,bP,ad⟩:=bh))
      have bB:V _:=bz;have bE:V _:=bP;have bH:V _:=(ay.o.keep ah).bad ⟨ad.os,ad.tape,ad.output,ad.size,λi hi hn=>ad.block i hi (λc=>hn (.inl c))⟩;clear bz bP ad;go_wp2_with fail;go_ret;rw[R2.o];exact⟨rfl,bB.o,bE.o,bH.o⟩
     have R2:V (r=uw (aT++[x]) (iM M p y (xs.drop (q+1)))):=by
      show _=_;rw[I.o,w.o,oR (hO F av),vT]
     generalize fe st x=l at bb av;clear F Y w I;have bN:(wr.alloc (.cells #[hD x] 3)).cell? ⟨wr.heap.size,0,none⟩=some (hD x):=by rw[yav];rfl
     have bc:=ez 0 0 wr (.cells #[hD x] 3);have a8:V _:=bx.o.keep bc;go_wp2_with (first|(at_builtin;refine jI _ rfl _ _ rfl W.heap.size _ aT rfl a8.o.row ⟨wr.heap.size,0,none⟩ x rfl bN ?c2 ?c3 ?_)|fail)
     case c2=>have:=bU.o;omega
     case c3=>have:=cW.o;simp;omega
     intro g9 cap9 n9 bg bJ bM bI bL;have R1:V _:=FtI.app bo.o aS.o a8.o bM bI (bL.imp id (λe=>by rw[e];simp));clear bM bI bL bJ bc bN;go_wp2_with fail;go_roundw;exact⟨q+1,y,aT++[x],by omega,by go_num,by rw[yal,bU.o];rfl,R1,cl,aS,aO,R2⟩;simp[intOf];omega
    obtain rfl:q=j:=xaa
    have U:V (r=.ok (y,aT)):=by
     show _=_;rw[I.o,List.drop_eq_nil_of_le (by rw[aq.o];exact yad)];show Except.ok (y,aT++[])=_;rw[List.append_nil]
    obtain⟨a9,ba,be,bi,ap,T,bS⟩:=bx.o.ex;obtain⟨aQ,aG,al⟩:=jt bx.o.row
    have bO:V (XsR (Mst P a9 ba be bi) wr aQ aT.length aT):=by
     refine⟨rfl,λaV=>?_⟩;have ar:=bx.o.row;rcases ar.2 with⟨_,c⟩|⟨g,c,H,e,O,ax,Z,_,cj,bG⟩
     ·omega
     rw[al]at e;cases e
     have aR:g<wr.heap.size:=by
      rcases Nat.lt_or_ge g wr.heap.size with c|c
      ·exact c
      rw[Array.getElem?_eq_none c]at ax;cases ax
     refine⟨g,0,rfl,bS g (by rw[al];simp[Value.ownBlock]),aR,λk N=>?_⟩;rw[Nat.zero_add,cell_of_row wr g _ H _ _ ax,<-Array.getElem?_toList];have:(H.toList.take (aT.length*1))[k]? =(aT.map λj:Nat=>Value.int .i64 (j:Int))[k]?:=by rw[bG]
     rw[List.getElem?_take_of_lt xaa]at this;rw[this,List.getElem?_map,yai,yam N];rfl
    have an:V _:=ap;have ay:V (Mv (Mst P u1 u2 u3 u4) W (Mst P a9 ba be bi) wr):=⟨T.chg,λb hb=>T.new b (.inl hb)⟩
    clear ap T bS bx;subst al;go_wp2_with fail;go_ret;rw[U.o];exact⟨aQ,aG,rfl,a9,ba,be,bi,an.o,ay.o,bO.o⟩
def spQ(ts:List Tok)(k:Nat):SpS:=ml ⟨0,[],[]⟩ (ts.take k)
theorem G7(h:k<ts.length):spQ ts (k+1)=iL (spQ ts k) (ts.getD k hJ):=by
 unfold spQ;rw[yau h,pz,yai,yam h];rfl
theorem Ps:∀(ts:List Tok) (q:SpS),q.d-ts.length<=(ml q ts).d/\(ml q ts).d<=q.d+ts.length
 |[],q=>by show q.d-0<=q.d/\q.d<=q.d+0;omega
 |t::ts,q=>by
  rw[ll,yaq]
  have B:=Ps ts (iL q t)
  grind[iL]
theorem Nw:-(k:Int)<=(spQ ts k).d/\(spQ ts k).d<=k:=by
 have h:=Ps (ts.take k) ⟨0,[],[]⟩;grind[spQ]
def lY(ts:List Tok)(f:Nat×Nat):List Tok:=(ts.drop f.1).take (f.2-f.1)
theorem Ea{F}(h:k<ts.length)(bp:F<=k):lY ts (F,k+1)=lY ts (F,k)++[ts.getD k hJ]:=by
 unfold lY;simp only;have e:k+1-F=(k-F)+1:=xaa;have ab:k-F<(ts.drop F).length:=by grind
 rw[e,yau ab,List.getElem_drop,yai,yam h];simp_all
theorem G8{f}(h:f.2<=ts.length):(lY ts f).length=f.2-f.1:=by
 grind[lY]
def uU(g off cap:Nat)(f:Nat×Nat):Value:=.slice (some ⟨g,off+f.1*3,none⟩) (f.2-f.1) (cap-f.1)
theorem Nx:(prog.info? 88).map (λi=>(i.zero,i.size,i.bytes))=some (some (.slice none 0 0),1,24):=by kernel_rfl
theorem xT:∃b3,prog.info? 88=some b3/\b3.zero=some (.slice none 0 0)/\b3.size=1/\b3.bytes=24:=by
 have h:=Nx;simp_all
theorem oT(w){o a}(X:o.guard=none)(s x)
  (al:o.op=.call {callee:=.builtin .append,args:=#[s,x],argTypes:=#[169,169]})
  (R) (v) (S) (ar:a.eval s=v) (aZ:w.ownsRow R 88 1 v S.length S)
  (ai) (bq) (nn bK) (ak:a.eval x=.slice (some ai) 1 1) (f:w.cell? ai=some (.slice bq nn bK))
  (C:S.length+1<=1000000) (T:R<=w.heap.size)
  (h:∀g cap n I,n=S.length+1->I.ownsRow R 88 1 (hC g n cap) (S.length+1) (S++[.slice bq nn bK])->Chg (λb=>v.ownBlock=some b) w I->(v.ownBlock=some g\/g=w.heap.size)->wpList prog br Q rest (a.put o.dst (hC g n cap)) I):wpList prog br Q (o::rest) a w:=by
 obtain⟨b3,hi,a6,b8,b5⟩:=xT;refine wpList_append_lies w X s x _ al R 88 _ _ 1 _ underlying169 hi a6 b8 b5 rfl xab v _ _ ar aZ _ 1 1 [.slice bq nn bK] ak rfl ?_ ?_ xab (by unfold maxLen;omega) xaa T _ rfl ?_
 ·grind[Addr.add]
 ·intro u aH;simp at aH;subst aH;rfl
 intro g cap I B J h3 _;exact h g _ _ _ rfl B (ii J) h3
theorem zO{w W}{e s:Nat}{xs}(k:Kept 0 0 w W)(f:W.ownsRow w.heap.size e s v n xs)(c:Chg (λb=>v.ownBlock=some b) W W'):Kept 0 0 w W':=
 Chg.kept k c (λ_ hi=>(eH f hi).1)
structure SgR(W:World)(g lo:Nat)(a:Option Addr)(segs:List (List Tok)):Prop where
 at_:0<segs.length->∃gr,a=some ⟨gr,0,none⟩/\lo<=gr/\gr<W.heap.size/\∀i,i<segs.length->∃o c,W.cell? ⟨gr,i,none⟩=some (.slice (some ⟨g,o,none⟩) (segs.getD i []).length c)/\TkA W g o (segs.getD i []).length (segs.getD i [])/\(segs.getD i []).length<=c
theorem zP(W a cap):Calls prog 146 #[.slice a 0 cap] W λe W'=>e=.returned (.slice none 0 0)/\W'=W:=by
 go_enter func146,ntmps146;go_wp2;go_ret;exact⟨rfl,rfl⟩
theorem Ck(W g off m cap ts)(f:TkA W g off m ts)(aq:m<=5000)(ae:0<m)(aG:m<=cap)(cf:(spQ ts m).cur≠[]):
  Calls prog 146 #[.slice (some ⟨g,off,none⟩) m cap] W λe W'=>∃a c,e=.returned (.slice a (fZ ts).length c)/\SgR W' g W.heap.size a (fZ ts)/\Kept 0 0 W W':=by
 have aI:V _:=f;have HL:V _:=f.len
 have HE:V (fZ ts=(spQ ts m).ou++[(spQ ts m).cur]):=by
  show _=_;unfold fZ spQ;rw[hF (by intro c;rw[c]at f;have:=f.len;grind),<-f.len,List.take_length]
 have ea:V _:=cf;have a6:((m:Int)==0)=false:=by grind
 clear f cf;go_enter func146,ntmps146;go_wp2_with fail;go_loopw [3,4,5,6] (λX T c8 aD W'=>∃(k F:Nat) (S:List (Nat×Nat)),k<=m/\F<=k/\aD=hD k/\c8=hD F/\T=hD (spQ ts k).d/\S.length<=k/\V ((spQ ts k).cur=lY ts (F,k))/\V ((spQ ts k).ou=S.map (lY ts))/\V (∀f∈S,f.1<=f.2/\f.2<=m)/\V (W'.ownsRow W.heap.size 88 1 X S.length (S.map (uU g off cap)))/\V (Kept 0 0 W W')) (λ_ _ _ aD _=>m-(intOf aD).toNat)
 case atStart=>exact⟨0,0,[],yae,yad,rfl,rfl,rfl,yad,(show(spQ _ 0).cur=lY ts _ from by unfold lY;simp;rfl),(show(spQ _ 0).ou=[] from rfl),(λf a9=>by cases a9),yaw _ _ _ _,Kept.refl 0 0 W⟩
 case round=>
  obtain⟨k,F,S,N,w,rfl,rfl,rfl,aZ,bT,al,aS,C,aw⟩:=hrel;by_cases aC:k<m
  ·have p:k<ts.length:=by rw[HL.o];exact aC
   have c0:=(aI.o.keep aw.o).c0 k aC;have au:V _:=G7 p;have an:=Nw (ts:=ts) (k:=k);have O:V _:=Ea p w;generalize spQ _ k=Q at au an bT al⊢;generalize ts.getD k _=K at c0 au O;obtain⟨d,H,out⟩:=Q;simp only at an bT al⊢;have l:V (H++[K]=lY ts (F,k+1)):=by show _=_;rw[O.o,bT.o]
   by_cases B:K.sym=[40]
   ·have U:V (spQ ts _=⟨d+1,H++[K],out⟩):=au.o.trans (by unfold iL;rw[hG B]);have h:V ((spQ ts (k+1)).cur=lY ts (F,k+1)):=by show _=_;rw[U.o];exact l.o
    have j:V ((spQ ts (k+1)).ou=S.map (lY ts)):=by show _=_;rw[U.o];exact al.o
    have aP:(K.sym==[40])=true:=hS B
    have aN:IntKind.i64.wrap (d+1)=d+1:=by rw[IntKind.wrap_i64];omega
    generalize K.sym=s at c0 aP;clear B au O p;exact xcn
   by_cases J:K.sym=[41]
   ·have U:V (spQ ts _=⟨d-1,H++[K],out⟩):=au.o.trans (by unfold iL;rw[hF B,hG J]);have h:V ((spQ ts (k+1)).cur=lY ts (F,k+1)):=by show _=_;rw[U.o];exact l.o
    have j:V ((spQ ts (k+1)).ou=S.map (lY ts)):=by show _=_;rw[U.o];exact al.o
    have aP:=yax B;have aY:(K.sym==[41])=true:=hS J
    have aN:IntKind.i64.wrap (d-1)=d-1:=by rw[IntKind.wrap_i64];omega
    generalize K.sym=s at c0 aP aY;clear B J au O p;exact xcn
   have aP:=yax B;have aY:=yax J;by_cases h3:K.sym=[44]
   ·have bW:(K.sym==[44])=true:=by rw[h3];rfl
    by_cases G:d=0
    ·subst G;have U:V (spQ ts _=⟨0,_,out++[H]⟩):=au.o.trans (by unfold iL;rw[hF B,hF J,hG ⟨h3,rfl⟩]);have h:V ((spQ ts (k+1)).cur=lY ts (k+1,k+1)):=by show _=_;rw[U.o];unfold lY;simp
     have j:V ((spQ ts (k+1)).ou=(S++[(F,k)]).map (lY ts)):=by show _=_;rw[U.o,List.map_append];simp only;rw[al.o,bT.o];rfl
     have RB:V (∀f∈S++[(F,k)],f.1<=f.2/\f.2<=m):=λf a9=>by
      rcases List.mem_append.1 a9 with c|c
      ·exact aS.o f c
      ·simp only[List.mem_singleton]at c;subst c;exact⟨w,by omega⟩
     generalize K.sym=s at c0 aP aY bW;clear B J h3 au O p;have bC:(0:Int)<=F:=xaa;have aN:(F:Int)<=k:=xaa;have a2:(k:Int)<=cap:=xaa;have e1:((k:Int)-F).toNat=k-F:=xaa;have bq:F<cap:=xaa;have bN:(wr.alloc (.cells #[.slice (some ⟨g,off+F*3,none⟩) (k-F) (cap-F)] 88)).cell? ⟨wr.heap.size,0,none⟩=some (.slice (some ⟨g,off+F*3,none⟩) (k-F) (cap-F)):=by rw[yav];rfl
     have bc:=ez 0 0 wr (.cells #[.slice (some ⟨g,off+F*3,none⟩) (k-F) (cap-F)] 88)
     have y:V ((wr.alloc (.cells #[.slice (some ⟨g,off+F*3,none⟩) (k-F) (cap-F)] 88)).ownsRow W.heap.size 88 1 u3 (S.map (uU g off cap)).length (S.map (uU g off cap))):=by
      rw[List.length_map];exact eR C.o bc
     go_wp2_with (first|(at_builtin;refine oT _ rfl _ _ rfl _ _ _ rfl y.o _ _ _ _ rfl bN ?c2 ?c3 ?_)|fail)
     case c2=>rw[List.length_map];omega
     case c3=>have:=aw.o.size;simp;omega
     intro g9 cap9 n9 bg bJ bM bI bL
     have R1:V (bg.ownsRow W.heap.size 88 1 (hC g9 n9 cap9) (S++[(F,k)]).length ((S++[(F,k)]).map (uU g off cap))):=by
      rw[List.map_append,yal];show World.ownsRow _ _ _ _ _ _ _;simpa[uU] using bM
     have R2:V _:=zO (aw.o.trans bc) y.o bI;clear bM bI bL bJ bc bN;go_wp2_with fail;go_roundw;exact⟨k+1,k+1,S++[(F,k)],by omega,yad,by go_num,by go_num,by rw[U.o],by simp;omega,h,j,RB,R1,R2⟩;simp[intOf];omega
    have U:V (spQ ts _=⟨d,H++[K],out⟩):=au.o.trans (by unfold iL;rw[hF B,hF J,hF (λc=>G c.2)]);have h:V ((spQ ts (k+1)).cur=lY ts (F,k+1)):=by show _=_;rw[U.o];exact l.o
    have j:V ((spQ ts (k+1)).ou=S.map (lY ts)):=by show _=_;rw[U.o];exact al.o
    have hd0:=yax G;generalize K.sym=s at c0 aP aY bW;clear B J h3 au O p G;exact xcn
   have U:V (spQ ts _=⟨d,H++[K],out⟩):=au.o.trans (by unfold iL;rw[hF B,hF J,hF (λc=>h3 c.1)]);have h:V ((spQ ts (k+1)).cur=lY ts (F,k+1)):=by show _=_;rw[U.o];exact l.o
   have j:V ((spQ ts (k+1)).ou=S.map (lY ts)):=by show _=_;rw[U.o];exact al.o
   have bW:=yax h3;generalize K.sym=s at c0 aP aY bW;clear B J h3 au O p;exact xcn
  obtain rfl:k=m:=xaa
  have Y:F<k:=by
   rcases Nat.lt_or_ge F k with c|c
   ·exact c
   exfalso;apply ea.o;rw[bT.o];unfold lY;simp only;rw[show k-F=0 by omega,List.take_zero]
  have t:V (fZ ts=(S++[(F,k)]).map (lY ts)):=by
   show _=_;rw[HE.o,al.o,bT.o,List.map_append];rfl
  have bC:(0:Int)<=F:=xaa;have aN:(F:Int)<=k:=xaa;have a2:(k:Int)<=cap:=xaa;have e1:((k:Int)-F).toNat=k-F:=xaa;have bq:F<cap:=xaa;have bN:(wr.alloc (.cells #[.slice (some ⟨g,off+F*3,none⟩) (k-F) (cap-F)] 88)).cell? ⟨wr.heap.size,0,none⟩=some (.slice (some ⟨g,off+F*3,none⟩) (k-F) (cap-F)):=by rw[yav];rfl
  have bc:=ez 0 0 wr (.cells #[.slice (some ⟨g,off+F*3,none⟩) (k-F) (cap-F)] 88)
  have y:V ((wr.alloc (.cells #[.slice (some ⟨g,off+F*3,none⟩) (k-F) (cap-F)] 88)).ownsRow W.heap.size 88 1 u3 (S.map (uU g off cap)).length (S.map (uU g off cap))):=by
   rw[List.length_map];exact eR C.o bc
  generalize spQ _ k=Q at*;go_wp2_with (first|(at_builtin;refine oT _ rfl _ _ rfl _ _ _ rfl y.o _ _ _ _ rfl bN ?c2 ?c3 ?_)|fail)
  case c2=>rw[List.length_map];omega
  case c3=>have:=aw.o.size;simp;omega
  intro g9 cap9 n9 bg bJ bM bI bL;have b9:(fZ ts).length=S.length+1:=by rw[t.o];simp
  have R1:V (bg.ownsRow W.heap.size 88 1 (hC g9 n9 cap9) (S.length+1) ((S++[(F,k)]).map (uU g off cap))):=by
   rw[List.map_append];show World.ownsRow _ _ _ _ _ _ _;simpa[uU] using bM
  have R2:V _:=zO (aw.o.trans bc) y.o bI;have x:n9=(fZ ts).length:=by rw[b9,bJ]
  have u:V _:=x;have aQ:V _:=b9;clear bM bI bL bJ bc bN x b9;go_wp2_with fail;go_ret;refine⟨_,_,congrArg (λz=>Ending.returned (.slice _ z _)) u.o,⟨λe0=>?_⟩,R2.o⟩;have ar:=R1.o;have ah:=eH (k:=g9) ar (by simp[Value.ownBlock]);refine⟨_,rfl,ah.1,ah.2,λi hi=>?_⟩;have bf:i<(S++[(F,k)]).length:=by rw[t.o,List.length_map]at hi;exact hi
  have aH:=World.ownsRow.cells (g:=g9) ar rfl i (uU g _ _ ((S++[(F,k)]).getD i (0,0))) (by rw[List.getElem?_map,yai,yam bf];rfl);rw[jX,Nat.zero_add]at aH
  have I:(fZ ts).getD i []=lY ts ((S++[(F,k)]).getD i (0,0)):=by
   rw[t.o,yai,List.getElem?_map,yai,yam bf];rfl
  have Z:((S++[(F,k)]).getD i (0,0)).1<=((S++[(F,k)]).getD i (0,0)).2/\((S++[(F,k)]).getD i (0,0)).2<=k:=by
   have aq:(S++[(F,k)]).getD i (0,0)∈S++[(F,k)]:=by
    rw[yai,yam bf];exact List.getElem_mem _
   rcases List.mem_append.1 aq with c|c
   ·exact aS.o _ c
   simp only[List.mem_singleton]at c;rw[c];exact⟨w,yad⟩
  generalize (S++[(F,k)]).getD i _=f at aH I Z;rw[I,G8 (hO HL.o Z.2)];exact⟨_,_,aH,(aI.o.keep R2.o).cut Z.2,by omega⟩
theorem WS.graph{W}(h:WS W P R u1 u2 u3 u4 bs st){lo}(cb:R<=lo)
  (ay:W.ownsRow lo 3 1 aN st.ins.length (st.ins.map (Value.int .i64))) (aW:W.ownsRow lo 60 6 a2 vs.length (fK vs)) (am:W.ownsRow lo 3 1 bk st.outs.length (st.outs.map (Value.int .i64)))
  (p:Apart aN a2) (C:Apart aN bk) (aa:Apart a2 bk) (hP:P<lo) (a0:∀b,u4.ownBlock=some b->b<lo)
  (f:W0.heap.size<=lo) (an:Mv (Mst P u1 u2 u3 u4) W0 (Mst P u1 u2 u3 u4) W) (bc:∀i,i<bs.length->BcOK (λb=>Mst P u1 u2 u3 u4 b\/W0.heap.size<=b) W (bs.getD i hK) (st.names.getD i (.val [] 0))):
  WS (((W.setCell ⟨P,0,none⟩ aN).setCell ⟨P,1,none⟩ a2).setCell ⟨P,2,none⟩ bk) P R aN a2 bk u4 bs {st with vs:=vs}/\Mv (Mst P u1 u2 u3 u4) W0 (Mst P aN a2 bk u4) (((W.setCell ⟨P,0,none⟩ aN).setCell ⟨P,1,none⟩ a2).setCell ⟨P,2,none⟩ bk):=by
 have aj:∀{z:Value}{e s n:Nat}{xs:List _},W.ownsRow lo e s z n xs->z.ownBlock≠some P:=λav c=>hM ((eH av c).1)
 have l:=h.np.2.2.2;have g:∀{z:Value}{e s n:Nat}{xs:List _},W.ownsRow lo e s z n xs->Apart z _:=λav k N aH=>hN ((eH av N).1) (a0 k aH)
 obtain⟨bb,aM,aQ⟩:=eZ W P _ _ _ h.c0 h.c1 h.c2 aN a2 bk;have K:=fg W P aN a2 bk
 have es:∀o,o≠0->o≠1->o≠2->(((W.setCell ⟨P,0,_⟩ aN).setCell ⟨P,1,_⟩ a2).setCell ⟨P,2,_⟩ bk).cell? _=W.cell? ⟨P,o,_⟩:=λo ae B J=>by
  rw[eM _ _ _ _ _ _ (.inr (λe=>J e.symm)),eM _ _ _ _ _ _ (.inr (λe=>B e.symm)),eM _ _ _ _ _ _ (.inr (λe=>ae e.symm))]
 have aw:Mv (Mst P u1 u2 u3 u4) W0 (Mst P aN a2 bk u4) (((W.setCell ⟨P,0,none⟩ aN).setCell ⟨P,1,none⟩ a2).setCell ⟨P,2,none⟩ bk):=by
  refine⟨an.bad (K.chg1 (.inl rfl)),λb hb=>?_⟩;exact xek
 have m:Mv _ W (λb=>Mst P u1 u2 u3 u4 b\/W0.heap.size<=b) _:=⟨K.chg1 (.inl (.inl rfl)),λb hb=>.inl hb⟩
 have j:∀{z:Value}{e s n:Nat}{xs:List _},W.ownsRow _ e s z n xs->z.ownBlock≠some P->(((W.setCell ⟨P,0,_⟩ aN).setCell ⟨P,1,_⟩ a2).setCell ⟨P,2,_⟩ bk).ownsRow R e s z n _:=λav hn=>je (eJ (eJ (eJ av hn) hn) hn) cb;refine⟨⟨by simpa using h.lt,λo=>by simp[h.fr o],bb,aM,aQ,(es 3 xab xab xab).trans h.c3,(es 4 xab xab xab).trans h.c4,(es 5 xab xab xab).trans h.c5,(es 6 xab xab xab).trans h.c6,j ay (aj ay),j aW (aj aW),j am (aj am),eJ (eJ (eJ h.r4 l) l) l,⟨aj ay,aj aW,aj am,l⟩,⟨p,C,g ay,aa,g aW,g am⟩,h.nl,λi hi=>?_,h.sz⟩,aw⟩;refine((bc i hi).mv m).weak (λb hb=>?_);exact xek
theorem WS.old{W}(h:WS W0 P R u1 u2 u3 u4 bs st)(k:Kept 0 0 W0 W):∀i,i<bs.length->BcOK (λb=>Mst P u1 u2 u3 u4 b\/W0.heap.size<=b) W (bs.getD i hK) (st.names.getD i (.val [] 0)):=λi hi=>by
 have au:∀{a:Option _}{n:Nat}{ts:List _},TkR _ _ a n _->TkR (λb=>Mst P u1 u2 u3 u4 b\/W0.heap.size<=b) W a n ts:=λht=>⟨ht.len,λhn=>by
  obtain⟨g,off,e,B,J⟩:=ht.at_ hn
  exact⟨g,_,e,λc=>c.elim B (λc=>hM J.lt),J.keep k⟩⟩
 have hb:=h.nb i hi
 cases G:st.names.getD i (.val [] 0) with
 |val af v=>rw[G]at hb;exact hb
 |fn af X e=>
  rw[G]at hb
  obtain⟨B,J,h3,ts,a0,bz,bP⟩:=hb
  exact⟨B,J,au h3,_,a0,bz,au bP⟩
theorem sp{W:World}{O ax e1 e2 ao aG n1 T:Nat}{u xs bT}(B:W.ownsRow O e1 ao u n1 xs)(J:W.ownsRow ax e2 aG v T bT)(Z:e1≠e2):Apart u v:=λk N aD=>by
 rcases B.2 with⟨c,_⟩|⟨g,c,H,e,_,d1,_⟩
 ·rw[c]at N;simp[Value.ownBlock]at N
 ·rcases J.2 with⟨aH,_⟩|⟨aB,aH,f,z,_,d2,_⟩<;>grind[Value.ownBlock]
theorem q7{W}(ae:WS W0 P R u1 u2 u3 u4 bs st)(an:Kept 0 0 W0 W){O Y Z d1 cap d3}
  (ay:W.ownsRow W0.heap.size 3 1 (.slice O st.ins.length d1) st.ins.length (st.ins.map (Value.int .i64))) (aW:W.ownsRow W0.heap.size 60 6 (.slice Y vs.length cap) vs.length (fK vs)) (am:W.ownsRow W0.heap.size 3 1 (.slice Z st.outs.length d3) st.outs.length (st.outs.map (Value.int .i64))) (C:Apart (.slice O st.ins.length d1) (.slice Z st.outs.length d3))
  (N:∀v∈vs,v.k<18446744073709551616) (ab:∀k,k<vs.length->1<=(vs.getD k hI).len/\(vs.getD k hI).len<=1000) (j:Nat) (p:Nat):
  Calls prog 160 #[hB P,eV O st.ins.length d1 Y vs.length cap Z st.outs.length d3,hD j,hD p] W λe W'=>TrO W0 P R u1 u2 u3 u4 bs (if kM vs=true then .error (5,p)else .ok ({st with vs:=vs},j)) e W':=by
 have aj:=ez 0 0 W (eW O st.ins.length d1 Y vs.length cap Z st.outs.length d3);have aA:V _:=ft W (.slice O st.ins.length d1) (.slice Y vs.length cap) (.slice Z st.outs.length d3);have m:GS W _ _ _ _ _ _ _ _ _:=⟨xQ ay rfl,G4 aW rfl N,xQ am rfl⟩
 have aI:V _:=Bj _ _ _ _ _ d1 _ cap _ d3 _ _ _ (m.keep aj) ab;have bY:V _:=an.trans aj;have aK:V _:=eR ay aj;have bz:V _:=eR aW aj;have H:V _:=eR am aj;have aa:V (Apart _ _/\Apart (.slice O _ _) _/\Apart (.slice Y _ _) _):=⟨sp ay aW xab,C,sp aW am xab⟩
 have f:V _:=ae;clear m ab N aj an ay aW am C ae;obtain⟨r,av⟩:∃r:Rs _,r=(if kM vs=true then .error (5,p)else .ok ({st with vs:=vs},j)):=⟨_,rfl⟩
 rw[<-av];have ap:V _:=av;clear av;go_enter func160,ntmps160;go_wp2_with fail;generalize W.alloc _=az at aA aI bY aK bz H⊢;generalize W.heap.size=aR at aA⊢;obtain⟨_,bb,aM,aQ⟩:=aA.o;cases hb:kM vs
 ·rw[hb]at aI;have U:V _:=ap.o.trans (hF (by rw[hb];simp))
  have bx:V (∀W',Kept 0 0 _ W'->_):=λW' k=>
   WS.graph (f.o.keep (bY.o.trans k)) (hN f.o.sz f.o.lt) (eR aK.o k) (eR bz.o k) (eR H.o k) aa.o.1 aa.o.2.1 aa.o.2.2 f.o.lt (λb hb=>(eH f.o.r4 hb).2) yad (Mv.of (bY.o.trans k)) (f.o.old (bY.o.trans k))
  have aO:V (∀W',Kept 0 0 _ W'->(W'.cell? _=some _/\W'.cell? _=some _/\W'.cell? _=some _)/\(∀o,W'.frozen? _=false)/\G0 _ _ _ _ _):=λW' k=>by
   have h:=f.o.keep (bY.o.trans k)
   exact⟨⟨h.c0,h.c1,h.c2⟩,h.fr,aA.o.keep k⟩
  clear hb ap;go_upto_region 3 with (go_at_call 149;refine yaj aI.o ?_;rintro e t ⟨rfl,l⟩);obtain⟨⟨a8,aV,p2⟩,b5,⟨_,bf,aP,aY⟩⟩:=aO.o _ l;have bG:=b5 0;have f1:=b5 1;have f2:=b5 2;have ak:V _:=bx.o _ l;clear bb aM aQ aA aI bx aO b5 l;go_wp2_with fail;go_ret;rw[U.o];exact⟨rfl,_,_,_,_,ak.o.1,ak.o.2⟩
 rw[hb]at aI;have U:V _:=ap.o.trans (hG hb);have bm:V (∀W',Kept 0 0 _ W'->_):=λW' k=>jG (f.o.keep (bY.o.trans k)).c5 (f.o.keep (bY.o.trans k)).c6 (f.o.keep (bY.o.trans k)).fr 5 p (Mst P u1 u2 u3 u4) (.inl rfl);clear hb ap
 go_wp2_with (first
  |(go_at_call 149;refine yaj aI.o ?_;rintro e t ⟨rfl,l⟩)
  |(go_at_call 117;refine yaj (bm.o _ l) ?_;rintro e u ⟨rfl,S⟩))
 go_ret;rw[U.o];exact⟨rfl,S.c5,S.c6,(Mv.of (bY.o.trans l)).bad S.chg⟩
structure Sg1(W:World)(gr i q o c:Nat)(t:Tok):Prop where
 lt:gr<W.heap.size
 at_:W.cell? ⟨gr,i,none⟩=some (.slice (some ⟨q,o,none⟩) 1 c)
 tk:TkA W q o 1 [t]
theorem Sg1.keep{W o t}(h:Sg1 W bl i q o c t)(k:Kept 0 0 W W'):Sg1 W' bl i q o c t:=
 ⟨yak h.lt k.size,(k.cell (p:=⟨bl,i,none⟩) h.lt xaa).trans h.at_,h.tk.keep k⟩
theorem Sg1.cells{W o t}(h:Sg1 W bl i q o c t):W.cell? ⟨bl,i,none⟩=some (.slice (some ⟨q,o,none⟩) 1 c)/\W.cell? ⟨q,o,none⟩=some (eN t.sym)/\W.cell? ⟨q,o+1,none⟩=some (hD t.pos)/\W.cell? ⟨q,o+2,none⟩=some (eN t.text):=
 ⟨h.at_,by simpa using h.tk.c0 0 xaa,by simpa using h.tk.c1 0 xaa,by simpa using h.tk.c2 0 xaa⟩
theorem TrO.back{e}(k:Kept 0 0 W0 az)(h:TrO az P R u1 u2 u3 u4 bs r e W'):TrO W0 P R u1 u2 u3 u4 bs r e W':=by
 rcases r with⟨c,p⟩|⟨st,v⟩
 ·obtain⟨B,J,h3,a0⟩:=h;exact⟨B,J,h3,(Mv.of k).bad a0⟩
 obtain⟨B,a9,ba,be,bi,J,h3⟩:=h;exact⟨B,_,_,_,_,J,(Mv.of k).trans h3⟩
theorem TrO.ret{W e}(h:TrO W P R u1 u2 u3 u4 bs r e W'):∃x:Int,e=.returned (hD x):=by
 rcases r with⟨c,p⟩|⟨st,v⟩
 ·exact⟨_,h.1⟩
 exact⟨v,h.1⟩
theorem aT.qbi(h:Zp:=by
 have j:V (my _ ⟨_,_,z⟩ a n=if ar=qO then
  if fe _ a<=iD _ then .error _ else fV st _ K
  else if fe _ a≠1 then .error (4,K)
  else if iD _<1\/1000<iD _ then .error _ else fV _ _ K):=rfl
 have ck:=ak.len a F;change 1<=fe _ a/\fe _ a<=1000 at ck;have bo:V _:=h;have au:V _:=aZ;obtain⟨bp,cap,e2,bQ,-⟩:=h.lenc F
 have HL:V (∀W',Kept 0 0 W W'->W'.cell? _=some (.slice _ _ _)/\W'.cell? _=some _/\(W'.cell? _=some _/\W'.cell? _=some _/\W'.cell? _=some _/\W'.cell? _=some _)):=λW' ai=>by
  obtain⟨ap,ae,af,_,c3⟩:=(bo.o.keep ai).lenc F
  rw[e2]at af
  cases af
  exact⟨(bo.o.keep ai).c1.trans (congrArg some e2),c3,(au.o.keep ai).cells⟩
 generalize my _ _ a n=r at j⊢;generalize fe _ a=l at ck HL j;generalize w:st.vs.length=aH at*;clear w h aZ ak a5 bo au e2 bQ;unfold jc at bW⊢;obtain⟨bv,Y,I⟩:=n;simp only at bW hb HL j⊢;generalize iD _=m at*;exact qey):Zp:=h
theorem aT.qez(h:Zp:=by
 obtain⟨aM,aQ,bY,cg,cn,cX⟩:=HL.o _ HK.o;exact qgt):Zp:=h
theorem aT.qgu(h:Zp:=by
 clear aM aQ bY cg cn cX bH aA HK ah bW;obtain⟨aM,aQ,bY,cg,cn,cX⟩:=HL.o _ bD.o;have bH:=y.o.c0;have O:=y.o.c1;clear HL;rcases N with N|N
 ·subst N;have f:V _:=j.o.trans (hF xab);unfold vB at*;clear j;by_cases B:l=1
  ·subst B;have G:V _:=f.o.trans (hF xac);clear f;by_cases J:m<1
   ·have U:V _:=G.o.trans (hG (.inl J));exact xcf
   by_cases h3:1000<m
   ·have U:V _:=G.o.trans (hG (.inr h3));exact xcf
   have U:V _:=G.o.trans (hF xaa);have bZ:V _:=λW' ai=>bC.o W' (eL 10 m a 0 0) ai (by grind) (by simp_all);go_upto_region 12 with fail;exact xdf
  have U:V _:=f.o.trans (hG B);have bM:=yax B;exact xcf
 subst N;have f:V _:=j.o.trans (hG rfl);unfold qO at*;clear j;by_cases B:l<=m
 ·have U:V _:=f.o.trans (hG B);exact xcf
 have U:V _:=f.o.trans (hF B);have bZ:V (∀W',Kept 0 0 W W'->_):=λW' ai=>bC.o W' (eL 11 1 (a:Int) 0 m) ai (by show(1:Int)<=1/\(1:Int)<=1000;omega) yah;go_upto_region 6 with fail;exact xdf):Zp:=h
open aT in
theorem G9{W}(h:WS W P R u1 u2 u3 u4 bs st)(ak:Gd st)(k)(N:k.sym=vB\/k.sym=qO)(a)(F:a<st.vs.length)(n)(a5:Dgs n.text){ab cp o}(b4:2<=ab)(aZ:Sg1 W bl 1 q o c n):
  Calls prog 158 #[hB P,jc k,hD a,hC bl ab cp] W (TrO W P R u1 u2 u3 u4 bs (my st k a n)):=by
 obtain⟨ar,K,z⟩:=k;simp only at N;have bW:V _:=λW'=>zL n a5 W';have bw:=ak.n;have hb:=qj a5 yad;rw[List.take_length]at hb;have aA:V _:=iq W ar K z;have HK:V _:=ez 0 0 W (.cells #[eN ar,hD K,eN z] 92);exact qbh
