import Derived.Test.YtamokkcfibdghaaGreatP32
namespace Go.Proofs.Z
variable {Zp:Prop}
open Tryz
set_option maxRecDepth 1000000
set_option maxHeartbeats 0
open Go.RowKit Flt
attribute [local go_sem] eG eE eD
variable {W0 aD W':World}{bA:Array Oper}{M':Nat->Prop}{ts:List Tok}{rest:List Oper}{k P I b0 i n q c:Nat}{a:Option Addr}{am al ar v X aZ be o bz:Value}{Q:Exit->Act->World->Prop}{xs ba:List Nat}{r:Rs (LSt×Nat)}{bs:List Bc}{st:LSt}{vs:List Vl}
structure XsR (M:Nat->Prop)(W:World)(a:Option Addr)(n:Nat)(xs:List Nat):Prop where
 len:xs.length=n
 at_:0<n->∃g off,a=some ⟨g,off,none⟩/\¬M g/\g<W.heap.size/\∀k,k<n->W.cell? ⟨g,off+k,none⟩=some (.int .i64 (xs.getD k 0:Nat))
theorem XsR.mv{M W}(h:XsR M W a n xs)(k:Mv M W M' W'):XsR M' W' a n xs:=
 ⟨h.len,λhn=>by
  obtain⟨g,off,e,B,R,h3⟩:=h.at_ hn
  exact⟨g,_,e,λc=>(k.new g c).elim B (λc=>by omega),yaj R k.chg.size,λj hj=>(k.chg.cell R B).trans (h3 j hj)⟩⟩
theorem XsR.keep{M W}(h:XsR M W a n xs)(k:Kept 0 0 W W'):XsR M W' a n xs:=h.mv (Mv.of k)
theorem WS.lenc{W}(h:WS W P I am al ar X bs st)(hi:i<st.vs.length):∃g cap,al=hH g st.vs.length cap/\g<W.heap.size/\W.cell? ⟨g,i*6+1,none⟩=some (hI (fg st i)):=by
 obtain⟨g,cap,e,_,R,_,a8⟩:=ng h.r2 xaa rfl;exact⟨g,_,e,R,(a8.at_ i hi).c1⟩
theorem TkR.weak{M W}(h:TkR M W a n ts)(C:∀b,M' b->M b):TkR M' W a n ts:=
 ⟨h.len,λhn=>by obtain⟨g,off,e,B,R⟩:=h.at_ hn;grind⟩
theorem BcOK.weak{M W b d}(h:BcOK M W b d)(C:∀b,M' b->M b):BcOK M' W b d:=by
 cases d with
 |val aQ v=>exact h
 |fn aQ aS e=>
  obtain⟨B,R,h3,ts,a8,bQ,bV⟩:=h;exact⟨B,R,h3.weak C,_,a8,bQ,bV.weak C⟩
theorem WS.side{W S}(h:WS W P I am al ar X bs st)(c:Chg S W W')(aT:∀b,Mst P am al ar X b->¬S b)(bv:∀i,i<bs.length->BcOK (Mst P am al ar X) W' (bs.getD i hO) (st.names.getD i (.val [] 0))):WS W' P I am al ar X bs st:=by
 have f:=aT P (.inl rfl);have e:∀o,_:=λo=>c.cell (p:=⟨P,o,none⟩) h.lt f;exact⟨yaj h.lt c.size,λo=>(c.frozen h.lt f).trans (h.fr o),(e 0).trans h.c0,(e 1).trans h.c1,(e 2).trans h.c2,(e 3).trans h.c3,(e 4).trans h.c4,(e 5).trans h.c5,(e 6).trans h.c6,fN h.r1 c (λb hb=>aT b (.inr (.inl hb))),fN h.r2 c (λb hb=>aT b (.inr (.inr (.inl hb)))),fN h.r3 c (λb hb=>aT b (.inr (.inr (.inr (.inl hb))))),fN h.r4 c (λb hb=>aT b (.inr (.inr (.inr (.inr hb))))),h.np,h.ap,h.nl,bv,h.sz⟩
def FtO (W:World)(P B:Nat)(u1 u2 u3 u4:Value)(bs:List Bc)(r:Rs (LSt×List Nat))(e:Ending)(W':World):Prop:=
 match r with
 |.error (c,p)=>e=.returned (.slice none 0 0)/\W'.cell? ⟨P,5,none⟩=some (.int .i64 c)/\W'.cell? ⟨P,6,none⟩=some (.int .i64 (p:Int))/\Chg (Mst P u1 u2 u3 u4) W W'
 |.ok (st,js)=>∃a cap,e=.returned (.slice a js.length cap)/\∃v1 v2 v3 v4,WS W' P B v1 v2 v3 v4 bs st/\Mv (Mst P u1 u2 u3 u4) W (Mst P v1 v2 v3 v4) W'/\XsR (Mst P v1 v2 v3 v4) W' a js.length js
structure FtI (W W':World)(P B:Nat)(u1 u2 u3 u4:Value)(bs:List Bc)(st:LSt)(o:Value)(js:List Nat):Prop where
 ex:∃v1 v2 v3 v4,WS W' P B v1 v2 v3 v4 bs st/\Mv (Mst P u1 u2 u3 u4) W (λb=>Mst P v1 v2 v3 v4 b\/o.ownBlock=some b) W'/\(∀b,o.ownBlock=some b->¬Mst P v1 v2 v3 v4 b)
 row:W'.ownsRow W.heap.size 3 1 o js.length (js.map λj:Nat=>Value.int .i64 (j:Int))
theorem jN(w){o a}(H:o.guard=none)(s x)
  (av:o.op=.call {callee:=.builtin .append,args:=#[s,x],argTypes:=#[23,23]})
  (I) (v) (ba) (ad:a.eval s=v) (aT:w.ownsRow I 3 1 v ba.length (ba.map λj:Nat=>Value.int .i64 (j:Int)))
  (aw) (y:Nat) (au:a.eval x=.slice (some aw) 1 1) (f:w.cell? aw=some (hI y))
  (l:ba.length+1<=1000000) (ae:I<=w.heap.size)
  (h:∀g cap n J,n=(ba++[y]).length->J.ownsRow I 3 1 (hH g n cap) (ba++[y]).length ((ba++[y]).map λj:Nat=>Value.int .i64 (j:Int))->Chg (λb=>v.ownBlock=some b) w J->(v.ownBlock=some g\/g=w.heap.size)->wpList prog bA Q rest (a.put o.dst (hH g n cap)) J):wpList prog bA Q (o::rest) a w:=by
 obtain⟨bK,hi,bU,bO,bR⟩:=info_parts sW;refine wpList_append_lies w H s x 23 av I 3 bK (hI 0) 1 8 underlying23 hi bU bO bR rfl xab v ba.length _ ad aT aw 1 1 [hI y] au rfl ?_ ?_ xab (by unfold maxLen;omega) xaa ae _ rfl ?_
 ·exact xir
 ·intro u aJ;simp at aJ;subst aJ;rfl
 exact xgr
theorem FtI.keep{W aG}(h:FtI W W' P I am al ar X bs st o ba)(k:Kept 0 0 W' aG):FtI W aG P I am al ar X bs st o ba:=by
 exact xiy
theorem FtI.step{W aT bc bd bg Z bE s}(C:Mv (Mst P am al ar X) W (λb=>Mst P bc bd bg Z b\/o.ownBlock=some b) aD)(av:∀b,o.ownBlock=some b->¬Mst P bc bd bg Z b)(ad:aD.ownsRow W.heap.size 3 1 o ba.length (ba.map λj:Nat=>Value.int .i64 (j:Int)))(aM:WS aT P I aZ be bz bE bs s)(bp:Mv (Mst P bc bd bg Z) aD (Mst P aZ be bz bE) aT):FtI W aT P I am al ar X bs s o ba:=by
 exact xdn
theorem aW.qbk(h:Zp:=by
 refine⟨⟨bc,bd,bg,Z,B.side ap (λb hb c=>h3 b c hb) (λi hi=>?_),aP,λb hb c=>?_⟩,?_⟩
 ·exact xjf
 ·rw[ab]at hb;subst hb;exact f c
 rw[yak,List.map_append];exact C):Zp:=h
open aW in
theorem FtI.app{W bo g}(aj:WS W P I am al ar X bs g)(ag:st.names=g.names)(h:FtI W W' P I am al ar X bs st o ba){g9 n9 cap9 x:Nat}(C:bo.ownsRow W.heap.size 3 1 (hH g9 n9 cap9) (ba.length+1) ((ba.map λj:Nat=>Value.int .i64 (j:Int))++[hI x]))(ap:Chg (λb=>o.ownBlock=some b) W' bo)(bq:o.ownBlock=some g9\/g9=W'.heap.size):FtI W bo P I am al ar X bs st (hH g9 n9 cap9) (ba++[x]):=by
 exact qbj
theorem zZ{W}(h:WS W P I am al ar X bs st)(g:Gd st)(cM t ej xs)(bq:XsR (Mst P am al ar X) W cM t xs)(hn:t<=100)(au:∀i∈xs,i<st.vs.length)(p:Nat):
  Calls prog 123 #[hG P,.slice cM t ej,hI p] W (FtO W P I am al ar X bs (ko st xs p)):=by
 have bx:V _:=h;have a5:V _:=g;have bv:V _:=bq;have az:V _:=bq.len
 have ay:V (∀k,k<t->xs.getD k 0<st.vs.length):=λk O=>au _ (by
  rw[yah,yal (hU bq.len O)]
  exact List.getElem_mem _)
 have bh:V _:=xY g xs au;have aP:V (ko st xs p=if xs.all (λi=>fg st i==pO st xs||fg st i==1)=true then iS (pO st xs) p st xs else .error (4,p)):=rfl;generalize ko st xs p=r at aP⊢
 have aY:V (∀W' k,Kept 0 0 W W'->k<t->∃bu cap c7 off,al=hH bu st.vs.length cap/\cM=some ⟨c7,off,none⟩/\W'.cell? ⟨P,1,none⟩=some al/\W'.cell? ⟨c7,off+k,none⟩=some (hI (xs.getD k 0:Nat))/\W'.cell? ⟨bu,xs.getD k 0*6+1,none⟩=some (hI (fg st (xs.getD k 0)))):=λW' k ap O=>by
  obtain⟨bu,cap,ae,_,R⟩:=(bx.o.keep ap).lenc (ay.o k O)
  obtain⟨c7,off,ak,_,_,a8⟩:=(bv.o.keep ap).at_ xaa
  exact⟨bu,cap,c7,off,ae,ak,(bx.o.keep ap).c1,a8 k O,R⟩
 have bF:=g.n;clear h g bq au;go_enter func123,ntmps123;go_wp2_with fail;go_loopw [7,8] (λnv aL W'=>∃k:Nat,k<=t/\aL=hI k/\nv=hI (pO st (xs.take k))/\V (Kept 0 0 W W')) (λ_ aL _=>t-(intOf aL).toNat)
 case atStart=>exact⟨0,Nat.zero_le _,rfl,rfl,Kept.refl 0 0 W⟩
 case round=>
  obtain⟨k,O,rfl,rfl,aH⟩:=hrel;by_cases aF:k<t
  ·obtain⟨bu,cap,c7,off,ae,a9,c1,c2,c3⟩:=aY.o wr k aH.o aF;subst ae a9;have aw:V _:=vF st xs k (hU az.o aF);have bb:=ay.o k aF;generalize xs.getD k 0=x at c2 c3 aw bb;generalize fg st x=l at c3 aw;generalize pO st (xs.take k)=m at aw⊢;go_upto_region 5 with fail;go_quiet (fail)
   have bX:V _:=Kept.trans aH.o (eM 0 0 wr nq);have d1:(wr.drewN nq).cell? ⟨P,1,none⟩=some (hH bu st.vs.length cap):=c1;have d2:(wr.drewN nq).cell? ⟨c7,off+k,none⟩=some (hI (x:Nat)):=c2;have d3:(wr.drewN nq).cell? ⟨bu,x*6+1,none⟩=some (hI l):=c3;clear c1 c2 c3 aH;generalize wr.drewN nq=b4 at bX d1 d2 d3⊢;by_cases br:m<l
   ·have aa:V _:=aw.o.trans (hK br);go_upto_region 6 with fail;go_quiet (fail)
    have cp:V _:=Kept.trans bX.o (eM 0 0 b4 nq);generalize b4.drewN nq=b1 at cp⊢;clear d1 d2 d3;go_wp2_with fail;go_roundw
    case rel=>exact⟨k+1,by omega,by go_num,by rw[aa.o],cp⟩
    case measure=>simp[intOf];omega
   have aa:V _:=aw.o.trans (hJ br);clear d1 d2 d3;go_wp2_with fail;go_roundw
   case rel=>exact⟨k+1,by omega,by go_num,by rw[aa.o],bX⟩
   case measure=>simp[intOf];omega
  obtain rfl:k=t:=xaa;have C:=bh.o k (by rw[az.o];exact yad);rw[yao (by rw[az.o];exact yad)]at C⊢;generalize pO st xs=M at C aP⊢;clear bh;have bW:V _:=aH.o;clear aH;go_upto_region 7 with fail;go_wp2_with fail;go_loopw [9] (λaL W'=>∃j:Nat,j<=k/\aL=hI j/\V (Kept 0 0 W W')/\V (∀q,q<j->(fg st (xs.getD q 0)==M||fg st (xs.getD q 0)==1)=true)) (λaL _=>k-(intOf aL).toNat)
  case atStart=>exact⟨0,Nat.zero_le _,rfl,bW,λq aq=>by omega⟩
  case round=>
   obtain⟨j,hj,rfl,aH,a7⟩:=hrel;by_cases aN:j<k
   ·obtain⟨bu,cap,c7,off,ae,a9,c1,c2,c3⟩:=aY.o wr j aH.o aN;subst ae a9;have bb:=ay.o j aN
    have bf:V (∀l,fg st (xs.getD j 0)=l->(l==M||l==1)=true->∀q,q<j+1->(fg st (xs.getD q 0)==M||fg st (xs.getD q 0)==1)=true):=λl ah hb q aq=>by
     by_cases c:q=j
     ·subst c;rw[ah];exact hb
     ·exact a7.o q xaa
    have bH:V (∀l,fg st (xs.getD j 0)=l->(l==M||l==1)=false->xs.all (λi=>fg st i==M||fg st i==1)=false):=λl ah hb=>by
     rw[List.all_eq_false]
     refine⟨xs.getD j 0,?_,?_⟩
     ·rw[yah,yal (hU az.o aN)]
      exact List.getElem_mem _
     ·rw[ah,hb];simp
    generalize a0:fg st (xs.getD j 0)=l at c3;have ax:V _:=a0;clear a0;generalize xs.getD j 0=x at c2 c3 bb ax bf bH;have b3:V (∀W',Kept 0 0 W W'->_):=λW' ap=>jK (bx.o.keep ap).c5 (bx.o.keep ap).c6 (bx.o.keep ap).fr 4 p (Mst P am (hH bu st.vs.length cap) ar X) (.inl rfl);go_upto_region 10 with fail;go_quiet (fail)
    have bX:V _:=Kept.trans aH.o (eM 0 0 wr nq);clear c1 c2 c3 aH;generalize wr.drewN nq=b4 at bX⊢;cases aQ:(l==M)
    ·have bU:(l !=M)=true:=by unfold bne;rw[aQ];rfl
     cases a6:(l==1)
     ·have bY:(l !=1)=true:=by unfold bne;rw[a6];rfl
      have aa:V _:=aP.o.trans (hJ (by rw[bH.o l ax.o (by rw[aQ,a6];rfl)];simp));have z:V _:=b3.o b4 bX.o;clear bf bH;go_wp2_with (go_at_call 92;refine yai z.o ?_;rintro e aX ⟨rfl,F⟩);go_ret;rw[aa.o];exact⟨rfl,F.c5,F.c6,(Mv.of bX.o).bad F.chg⟩
     have bY:(l !=1)=false:=by unfold bne;rw[a6];rfl
     have aa:V _:=bf.o l ax.o (by rw[aQ,a6];rfl);exact xic
    have bU:(l !=M)=false:=by unfold bne;rw[aQ];rfl
    have aa:V _:=bf.o l ax.o (hX aQ);exact xic
   obtain rfl:j=k:=xaa;have bJ:V _:=a7.o
   have aK:V (r=iS M p st xs):=aP.o.trans (hK (by
    rw[List.all_eq_true]
    intro i hi
    obtain⟨q,aq,rfl⟩:=List.getElem_of_mem hi
    have:=a7.o q (hV az.o aq)
    rw[yah,yal aq]at this
    exact this))
   have bN:V _:=aH.o;clear aH a7 aP;have bw:V (FtI W wr P I am al ar X bs st (.slice none 0 0) []):=⟨⟨am,al,ar,X,bx.o.keep bN.o,⟨(Mv.of (M:=Mst P am al ar X) bN.o).chg,λb hb=>.inl (hb.elim id (λc=>by simp[Value.ownBlock]at c))⟩,λb hb=>by simp[Value.ownBlock]at hb⟩,yav _ _ _ _⟩
   have bP:V (r=ug [] (iS M p st (xs.drop 0))):=by show _=_;rw[GV];exact aK.o
   go_upto_region 14 with fail;go_wp2_with fail;go_loopw [11,12] (λaB aL W'=>∃(q:Nat) (y:LSt) (ba:List Nat),q<=j/\aL=hI q/\ba.length=q/\V (FtI W W' P I am al ar X bs y aB ba)/\V (Gd y)/\V (y.names=st.names)/\V (∀i,i<st.vs.length->i<y.vs.length/\fg y i=fg st i)/\V (r=ug ba (iS M p y (xs.drop q)))) (λ_ aL _=>j-(intOf aL).toNat)
   case atStart=>exact⟨0,st,[],Nat.zero_le _,rfl,rfl,bw,a5,(show V (st.names=st.names) from rfl),(show V (∀i,i<st.vs.length->i<st.vs.length/\fg st i=fg st i) from λi hi=>⟨hi,rfl⟩),bP⟩
   case round=>
    obtain⟨q,y,ba,aq,rfl,(G:V _),bG,cy,aU,aT,J⟩:=hrel;by_cases b6:q<j
    ·obtain⟨bc,bd,bg,Z,aC,an,bO⟩:=bG.o.ex;obtain⟨c7,off,rfl,_,_,bm⟩:=(bv.o.mv an).at_ xaa;have gs:=bm q b6;have bD:=ay.o q b6;obtain⟨cg,K⟩:=aT.o _ bD
     have w:V (xs.drop q=xs.getD q 0::xs.drop (q+1)):=by
      show _=_;rw[List.drop_eq_getElem_cons (hU az.o b6),yah,yal (hU az.o b6)];rfl
     have S:V _:=bJ.o q b6;obtain⟨bu,b2,a9,b7,aV⟩:=aC.lenc cg;have bR:=aC.c1;rw[K]at aV;have aj:V _:=aC;have aR:V _:=an;have ct:V _:=bO;rw[<-K]at S;generalize xs.getD q 0=x at gs bD cg K w S aV;have cS:V _:=an.chg.size;have b5:=cy.o.n;subst a9;clear bm aC an bO;by_cases aG:fg st x<M
     ·have cf:fg y x=1:=by
       have h:=S.o;rw[K]at h;have:(fg st x==M)=false:=yaw xaa;rw[this,Bool.false_or]at h;rw[K];simpa using h
      have aI:fg y x<M:=hU K aG
      have Y:V (∀W',_):=λW'=>gQ W' 10 M (x:Int) 0 0;have bM:V (∀W',Kept 0 0 wr W'->_):=λW' ap=>mo (aj.o.keep ap) cy.o (eL 10 M (x:Int) 0 0) C (show(0:Nat)<18446744073709551616 by decide) p;have cK:V _:=Ky cg cf C;have u:V (fZ y (eL 10 M (x:Int) 0 0) p=if kM (y.vs++[eL 10 M (x:Int) 0 0])=true then .error (5,p)else .ok ({y with vs:=y.vs++[eL 10 M (x:Int) 0 0]},y.vs.length)):=rfl;have aS:V (∀s gc,fZ y (eL 10 M (x:Int) 0 0) p=.ok (s,gc)->r=ug (ba++[gc]) (iS M p s (xs.drop (q+1)))):=λs gc e=>by rw[J.o,w.o,pF aI e,vG]
      have aO:V (∀f,fZ y (eL 10 M (x:Int) 0 0) p=.error f->r=.error f):=λf e=>by rw[J.o,w.o,pG aI e];rfl
      generalize fg st x=l at aV aG;cases hb:kM (y.vs++[eL 10 M (x:Int) 0 0])
      ·rw[hb,hJ xac]at u;rw[u.o]at bM;have R2:V _:=aS.o _ _ u.o;have bL:V _:=cy.o.put cK.o (show(0:Nat)<18446744073709551616 by decide) hb
       have co:V (∀i,i<st.vs.length->i<(LSt.mk y.ins (y.vs++[eL 10 M (x:Int) 0 0]) y.outs y.names y.calls).vs.length/\fg (LSt.mk y.ins (y.vs++[eL 10 M (x:Int) 0 0]) y.outs y.names y.calls) i=fg st i):=λi hi=>by
        obtain⟨B,R⟩:=aT.o i hi
        refine⟨by simp only[yak];omega,?_⟩
        rw[<-R]
        unfold fg
        simp only
        rw[yah,yas B,<-yah]
       have aJ:V ((LSt.mk y.ins (y.vs++[eL 10 M (x:Int) 0 0]) y.outs y.names y.calls).names=st.names):=aU.o;have bj:V _:=bG.o.row;generalize cB:y.vs.length=U at bM R2;have b8:U<=2000:=xaa;clear hb u aS aO cf aI K S w J cK
       go_upto_region 21 with (first
        |(go_at_call 34;refine yai (Y.o _) ?_;rintro e af ⟨rfl,ao⟩)
        |(go_at_call 96;refine yai (bM.o _ ao) ?_;intro e aX bi;obtain⟨rfl,aZ,be,bz,bE,aM,bp⟩:=bi))
       have HFn:V _:=FtI.step (aR.o.keep ao) ct.o (e8 bj.o ao) aM bp;have cO:V (W.heap.size<=aX.heap.size):=by show _<=_;have:=cS.o;have:=ao.size;have:=bp.chg.size;omega
       clear cS bG aj aR ct bj gs aV bR ao aM bp bM Y cB;have cl:(aX.alloc (.cells #[hI U] 3)).cell? ⟨aX.heap.size,0,none⟩=some (hI U):=by rw[yau];rfl
       have bl:=ez 0 0 aX (.cells #[hI U] 3);have bk:V _:=HFn.o.keep bl;go_wp2_with (first|(at_builtin;refine jN _ rfl _ _ rfl W.heap.size _ ba rfl bk.o.row ⟨aX.heap.size,0,none⟩ U rfl cl ?c2 ?c3 ?_)|fail)
       case c2=>have:=G.o;omega
       case c3=>have:=cO.o;simp;omega
       intro g9 cap9 n9 bo bS bZ ag cj;have R1:V _:=FtI.app (st:={y with vs:=y.vs++[eL 10 M (x:Int) 0 0]}) bx.o aJ.o bk.o bZ ag (cj.imp id (λe=>by rw[e];simp));clear bZ ag cj bS bl cl;go_wp2_with fail;go_roundw
       case rel=>exact⟨q+1,_,ba++[U],by omega,by go_num,by rw[yak,G.o];rfl,R1,bL,aJ,co,R2⟩
       case measure=>simp[intOf];omega
      rw[hb,hK rfl]at u;rw[u.o]at bM;have R2:V _:=aO.o _ u.o;clear hb u aS aO cf aI K S w J cK
      go_upto_region 21 with (first
       |(go_at_call 34;refine yai (Y.o _) ?_;rintro e af ⟨rfl,ao⟩)
       |(go_at_call 96;refine yai (bM.o _ ao) ?_;intro e aX bi;obtain⟨rfl,bQ,bV,ai⟩:=bi))
      have bC:V _:=bQ;have bI:V _:=bV;have bK:V _:=(aR.o.keep ao).bad ⟨ai.os,ai.tape,ai.output,ai.size,λi hi hn=>ai.block i hi (λc=>hn (.inl c))⟩;clear bQ bV ai;go_wp2_with fail;go_ret;rw[R2.o];exact⟨rfl,bC.o,bI.o,bK.o⟩
     have R2:V (r=ug (ba++[x]) (iS M p y (xs.drop (q+1)))):=by
      show _=_;rw[J.o,w.o,oC (hU K aG),vG]
     generalize fg st x=l at aV aG;clear K S w J;have cl:(wr.alloc (.cells #[hI x] 3)).cell? ⟨wr.heap.size,0,none⟩=some (hI x):=by rw[yau];rfl
     have bl:=ez 0 0 wr (.cells #[hI x] 3);have bk:V _:=bG.o.keep bl;go_wp2_with (first|(at_builtin;refine jN _ rfl _ _ rfl W.heap.size _ ba rfl bk.o.row ⟨wr.heap.size,0,none⟩ x rfl cl ?c2 ?c3 ?_)|fail)
     case c2=>have:=G.o;omega
     case c3=>have:=cS.o;simp;omega
     intro g9 cap9 n9 bo bS bZ ag cj;have R1:V _:=FtI.app bx.o aU.o bk.o bZ ag (cj.imp id (λe=>by rw[e];simp));clear bZ ag cj bS bl cl;go_wp2_with fail;go_roundw
     case rel=>exact⟨q+1,y,ba++[x],by omega,by go_num,by rw[yak,G.o];rfl,R1,cy,aU,aT,R2⟩
     case measure=>simp[intOf];omega
    obtain rfl:q=j:=xaa
    have aa:V (r=.ok (y,ba)):=by
     show _=_;rw[J.o,List.drop_eq_nil_of_le (by rw[az.o];exact yad)];show Except.ok (y,ba++[])=_;rw[List.append_nil]
    obtain⟨bc,bd,bg,Z,aC,an,bO⟩:=bG.o.ex;obtain⟨cd,cD,av⟩:=ju bG.o.row
    have bT:V (XsR (Mst P bc bd bg Z) wr cd ba.length ba):=by
     refine⟨rfl,λbB=>?_⟩;have ad:=bG.o.row;rcases ad.2 with⟨_,c⟩|⟨g,c,H,e,N,aA,ab,_,b9,cn⟩
     ·omega
     rw[av]at e;cases e
     have aW:g<wr.heap.size:=by
      rcases Nat.lt_or_ge g wr.heap.size with c|c
      ·exact c
      rw[Array.getElem?_eq_none c]at aA;cases aA
     refine⟨g,0,rfl,bO g (by rw[av];simp[Value.ownBlock]),aW,λk O=>?_⟩;rw[Nat.zero_add,cell_of_row wr g _ H _ _ aA,<-Array.getElem?_toList];have:(H.toList.take (ba.length*1))[k]? =(ba.map λj:Nat=>Value.int .i64 (j:Int))[k]?:=by rw[cn]
     rw[List.getElem?_take_of_lt xaa]at this;rw[this,List.getElem?_map,yah,yal O];rfl
    have aj:V _:=aC;have aR:V (Mv (Mst P am al ar X) W (Mst P bc bd bg Z) wr):=⟨an.chg,λb hb=>an.new b (.inl hb)⟩
    clear aC an bO bG;subst av;go_wp2_with fail;go_ret;rw[aa.o];exact⟨cd,cD,rfl,bc,bd,bg,Z,aj.o,aR.o,bT.o⟩
def spQ (ts:List Tok)(k:Nat):SpS:=mf ⟨0,[],[]⟩ (ts.take k)
theorem Hf(h:k<ts.length):spQ ts (k+1)=iQ (spQ ts k) (ts.getD k hN):=by
 unfold spQ;rw[yat h,oY,yah,yal h];rfl
theorem Py:∀(ts:List Tok) (q:SpS),q.d-ts.length<=(mf q ts).d/\(mf q ts).d<=q.d+ts.length
 |[],q=>by show q.d-0<=q.d/\q.d<=q.d+0;omega
 |t::ts,q=>by
  rw[li,yap]
  have B:=Py ts (iQ q t)
  grind [iQ]
theorem NW:-(k:Int)<=(spQ ts k).d/\(spQ ts k).d<=k:=by
 have h:=Py (ts.take k) ⟨0,[],[]⟩;grind [spQ]
def lU (ts:List Tok)(f:Nat×Nat):List Tok:=(ts.drop f.1).take (f.2-f.1)
theorem DY{F}(h:k<ts.length)(bu:F<=k):lU ts (F,k+1)=lU ts (F,k)++[ts.getD k hN]:=by
 unfold lU;simp only;have e:k+1-F=(k-F)+1:=xaa;have ah:k-F<(ts.drop F).length:=by grind
 rw[e,yat ah,List.getElem_drop,yah,yal h];simp_all
theorem Hg{f}(h:f.2<=ts.length):(lU ts f).length=f.2-f.1:=by
 grind [lU]
def uJ (g off cap:Nat)(f:Nat×Nat):Value:=.slice (some ⟨g,off+f.1*3,none⟩) (f.2-f.1) (cap-f.1)
theorem NX:(prog.info? 80).map (λi=>(i.zero,i.size,i.bytes))=some (some (.slice none 0 0),1,24):=by kernel_rfl
theorem ye:∃bK,prog.info? 80=some bK/\bK.zero=some (.slice none 0 0)/\bK.size=1/\bK.bytes=24:=by
 have h:=NX;simp_all
theorem oH(w){o a}(H:o.guard=none)(s x)
  (av:o.op=.call {callee:=.builtin .append,args:=#[s,x],argTypes:=#[157,157]})
  (I) (v) (U) (ad:a.eval s=v) (aT:w.ownsRow I 80 1 v U.length U)
  (aw) (aS) (nn b3) (au:a.eval x=.slice (some aw) 1 1) (f:w.cell? aw=some (.slice aS nn b3))
  (l:U.length+1<=1000000) (ae:I<=w.heap.size)
  (h:∀g cap n J,n=U.length+1->J.ownsRow I 80 1 (hH g n cap) (U.length+1) (U++[.slice aS nn b3])->Chg (λb=>v.ownBlock=some b) w J->(v.ownBlock=some g\/g=w.heap.size)->wpList prog bA Q rest (a.put o.dst (hH g n cap)) J):wpList prog bA Q (o::rest) a w:=by
 obtain⟨bK,hi,bU,bO,bR⟩:=ye;refine wpList_append_lies w H s x _ av I 80 _ _ 1 _ underlying157 hi bU bO bR rfl xab v _ _ ad aT _ 1 1 [.slice aS nn b3] au rfl ?_ ?_ xab (by unfold maxLen;omega) xaa ae _ rfl ?_
 ·grind [Addr.add]
 ·intro u aJ;simp at aJ;subst aJ;rfl
 intro g cap J B R h3 _;exact h g _ _ _ rfl B (i7 R) h3
theorem Aa{w W}{e s:Nat}{xs}(k:Kept 0 0 w W)(f:W.ownsRow w.heap.size e s v n xs)(c:Chg (λb=>v.ownBlock=some b) W W'):Kept 0 0 w W':=
 Chg.kept k c (λ_ hi=>(eI f hi).1)
structure SgR (W:World)(g lo:Nat)(a:Option Addr)(segs:List (List Tok)):Prop where
 at_:0<segs.length->∃gr,a=some ⟨gr,0,none⟩/\lo<=gr/\gr<W.heap.size/\∀i,i<segs.length->∃o c,W.cell? ⟨gr,i,none⟩=some (.slice (some ⟨g,o,none⟩) (segs.getD i []).length c)/\TkA W g o (segs.getD i []).length (segs.getD i [])/\(segs.getD i []).length<=c
theorem Ab(W a cap):Calls prog 126 #[.slice a 0 cap] W λe W'=>e=.returned (.slice none 0 0)/\W'=W:=by
 go_enter func126,ntmps126;go_wp2;go_ret;exact⟨rfl,rfl⟩
theorem Ck(W g off m cap ts)(f:TkA W g off m ts)(az:m<=5000)(aj:0<m)(G:m<=cap)(bT:(spQ ts m).cur≠[]):
  Calls prog 126 #[.slice (some ⟨g,off,none⟩) m cap] W λe W'=>∃a c,e=.returned (.slice a (f9 ts).length c)/\SgR W' g W.heap.size a (f9 ts)/\Kept 0 0 W W':=by
 have aP:V _:=f;have HL:V _:=f.len
 have HE:V (f9 ts=(spQ ts m).ou++[(spQ ts m).cur]):=by
  show _=_;unfold f9 spQ;rw[hJ (by intro c;rw[c]at f;have:=f.len;grind),<-f.len,List.take_length]
 have aG:V _:=bT;have bU:((m:Int)==0)=false:=by grind
 clear f bT;go_enter func126,ntmps126;go_wp2_with fail;go_loopw [3,4,5,6] (λaB S cW aL W'=>∃(k F:Nat) (U:List (Nat×Nat)),k<=m/\F<=k/\aL=hI k/\cW=hI F/\S=hI (spQ ts k).d/\U.length<=k/\V ((spQ ts k).cur=lU ts (F,k))/\V ((spQ ts k).ou=U.map (lU ts))/\V (∀f∈U,f.1<=f.2/\f.2<=m)/\V (W'.ownsRow W.heap.size 80 1 aB U.length (U.map (uJ g off cap)))/\V (Kept 0 0 W W')) (λ_ _ _ aL _=>m-(intOf aL).toNat)
 case atStart=>exact⟨0,0,[],Nat.zero_le _,yad,rfl,rfl,rfl,yad,(show(spQ _ 0).cur=lU ts _ from by unfold lU;simp;rfl),(show(spQ _ 0).ou=[] from rfl),(λf bb=>by cases bb),yav _ _ _ _,Kept.refl 0 0 W⟩
 case round=>
  obtain⟨k,F,U,O,w,rfl,rfl,rfl,aT,ap,av,aS,C,aH⟩:=hrel;by_cases aF:k<m
  ·have t:k<ts.length:=by rw[HL.o];exact aF
   have c0:=(aP.o.keep aH.o).c0 k aF;have aw:V _:=Hf t;have au:=NW (ts:=ts) (k:=k);have N:V _:=DY t w;generalize spQ _ k=Q at aw au ap av⊢;generalize ts.getD k _=K at c0 aw N;obtain⟨d,H,out⟩:=Q;simp only at au ap av⊢;have l:V (H++[K]=lU ts (F,k+1)):=by show _=_;rw[N.o,ap.o]
   by_cases B:K.sym=[40]
   ·have aa:V (spQ ts _=⟨d+1,H++[K],out⟩):=aw.o.trans (by unfold iQ;rw[hK B]);have h:V ((spQ ts (k+1)).cur=lU ts (F,k+1)):=by show _=_;rw[aa.o];exact l.o
    have j:V ((spQ ts (k+1)).ou=U.map (lU ts)):=by show _=_;rw[aa.o];exact av.o
    have aQ:(K.sym==[40])=true:=hX B
    have aZ:IntKind.i64.wrap (d+1)=d+1:=by rw[IntKind.wrap_i64];omega
    generalize K.sym=s at c0 aQ;clear B aw N t;exact xdi
   by_cases R:K.sym=[41]
   ·have aa:V (spQ ts _=⟨d-1,H++[K],out⟩):=aw.o.trans (by unfold iQ;rw[hJ B,hK R]);have h:V ((spQ ts (k+1)).cur=lU ts (F,k+1)):=by show _=_;rw[aa.o];exact l.o
    have j:V ((spQ ts (k+1)).ou=U.map (lU ts)):=by show _=_;rw[aa.o];exact av.o
    have aQ:=yaw B;have a6:(K.sym==[41])=true:=hX R
    have aZ:IntKind.i64.wrap (d-1)=d-1:=by rw[IntKind.wrap_i64];omega
    generalize K.sym=s at c0 aQ a6;clear B R aw N t;exact xdi
   have aQ:=yaw B;have a6:=yaw R;by_cases h3:K.sym=[44]
   ·have bK:(K.sym==[44])=true:=by rw[h3];rfl
    by_cases aV:d=0
    ·subst aV;have aa:V (spQ ts _=⟨0,_,out++[H]⟩):=aw.o.trans (by unfold iQ;rw[hJ B,hJ R,hK ⟨h3,rfl⟩]);have h:V ((spQ ts (k+1)).cur=lU ts (k+1,k+1)):=by show _=_;rw[aa.o];unfold lU;simp
     have j:V ((spQ ts (k+1)).ou=(U++[(F,k)]).map (lU ts)):=by show _=_;rw[aa.o,List.map_append];simp only;rw[av.o,ap.o];rfl
     have RB:V (∀f∈U++[(F,k)],f.1<=f.2/\f.2<=m):=λf bb=>by
      rcases List.mem_append.1 bb with c|c
      ·exact aS.o f c
      ·simp only[List.mem_singleton]at c;subst c;exact⟨w,by omega⟩
     generalize K.sym=s at c0 aQ a6 bK;clear B R h3 aw N t;have bM:(0:Int)<=F:=xaa;have aZ:(F:Int)<=k:=xaa;have be:(k:Int)<=cap:=xaa;have ae:((k:Int)-F).toNat=k-F:=xaa;have bE:F<cap:=xaa;have cl:(wr.alloc (.cells #[.slice (some ⟨g,off+F*3,none⟩) (k-F) (cap-F)] 80)).cell? ⟨wr.heap.size,0,none⟩=some (.slice (some ⟨g,off+F*3,none⟩) (k-F) (cap-F)):=by rw[yau];rfl
     have bl:=ez 0 0 wr (.cells #[.slice (some ⟨g,off+F*3,none⟩) (k-F) (cap-F)] 80)
     have y:V ((wr.alloc (.cells #[.slice (some ⟨g,off+F*3,none⟩) (k-F) (cap-F)] 80)).ownsRow W.heap.size 80 1 u3 (U.map (uJ g off cap)).length (U.map (uJ g off cap))):=by
      rw[List.length_map];exact e8 C.o bl
     go_wp2_with (first|(at_builtin;refine oH _ rfl _ _ rfl _ _ _ rfl y.o _ _ _ _ rfl cl ?c2 ?c3 ?_)|fail)
     case c2=>rw[List.length_map];omega
     case c3=>have:=aH.o.size;simp;omega
     intro g9 cap9 n9 bo bS bZ ag cj
     have R1:V (bo.ownsRow W.heap.size 80 1 (hH g9 n9 cap9) (U++[(F,k)]).length ((U++[(F,k)]).map (uJ g off cap))):=by
      rw[List.map_append,yak];show World.ownsRow _ _ _ _ _ _ _;simpa[uJ] using bZ
     have R2:V _:=Aa (aH.o.trans bl) y.o ag;clear bZ ag cj bS bl cl;go_wp2_with fail;go_roundw
     case rel=>exact⟨k+1,k+1,U++[(F,k)],by omega,yad,by go_num,by go_num,by rw[aa.o],by simp;omega,h,j,RB,R1,R2⟩
     case measure=>simp[intOf];omega
    have aa:V (spQ ts _=⟨d,H++[K],out⟩):=aw.o.trans (by unfold iQ;rw[hJ B,hJ R,hJ (λc=>aV c.2)]);have h:V ((spQ ts (k+1)).cur=lU ts (F,k+1)):=by show _=_;rw[aa.o];exact l.o
    have j:V ((spQ ts (k+1)).ou=U.map (lU ts)):=by show _=_;rw[aa.o];exact av.o
    have hd0:=yaw aV;generalize K.sym=s at c0 aQ a6 bK;clear B R h3 aw N t aV;exact xdi
   have aa:V (spQ ts _=⟨d,H++[K],out⟩):=aw.o.trans (by unfold iQ;rw[hJ B,hJ R,hJ (λc=>h3 c.1)]);have h:V ((spQ ts (k+1)).cur=lU ts (F,k+1)):=by show _=_;rw[aa.o];exact l.o
   have j:V ((spQ ts (k+1)).ou=U.map (lU ts)):=by show _=_;rw[aa.o];exact av.o
   have bK:=yaw h3;generalize K.sym=s at c0 aQ a6 bK;clear B R h3 aw N t;exact xdi
  obtain rfl:k=m:=xaa
  have Y:F<k:=by
   rcases Nat.lt_or_ge F k with c|c
   ·exact c
   exfalso;apply aG.o;rw[ap.o];unfold lU;simp only;rw[show k-F=0 by omega,List.take_zero]
  have p:V (f9 ts=(U++[(F,k)]).map (lU ts)):=by
   show _=_;rw[HE.o,av.o,ap.o,List.map_append];rfl
  have bM:(0:Int)<=F:=xaa;have aZ:(F:Int)<=k:=xaa;have be:(k:Int)<=cap:=xaa;have ae:((k:Int)-F).toNat=k-F:=xaa;have bE:F<cap:=xaa;have cl:(wr.alloc (.cells #[.slice (some ⟨g,off+F*3,none⟩) (k-F) (cap-F)] 80)).cell? ⟨wr.heap.size,0,none⟩=some (.slice (some ⟨g,off+F*3,none⟩) (k-F) (cap-F)):=by rw[yau];rfl
  have bl:=ez 0 0 wr (.cells #[.slice (some ⟨g,off+F*3,none⟩) (k-F) (cap-F)] 80)
  have y:V ((wr.alloc (.cells #[.slice (some ⟨g,off+F*3,none⟩) (k-F) (cap-F)] 80)).ownsRow W.heap.size 80 1 u3 (U.map (uJ g off cap)).length (U.map (uJ g off cap))):=by
   rw[List.length_map];exact e8 C.o bl
  generalize spQ _ k=Q at*;go_wp2_with (first|(at_builtin;refine oH _ rfl _ _ rfl _ _ _ rfl y.o _ _ _ _ rfl cl ?c2 ?c3 ?_)|fail)
  case c2=>rw[List.length_map];omega
  case c3=>have:=aH.o.size;simp;omega
  intro g9 cap9 n9 bo bS bZ ag cj;have b4:(f9 ts).length=U.length+1:=by rw[p.o];simp
  have R1:V (bo.ownsRow W.heap.size 80 1 (hH g9 n9 cap9) (U.length+1) ((U++[(F,k)]).map (uJ g off cap))):=by
   rw[List.map_append];show World.ownsRow _ _ _ _ _ _ _;simpa[uJ] using bZ
  have R2:V _:=Aa (aH.o.trans bl) y.o ag;have x:n9=(f9 ts).length:=by rw[b4,bS]
  have u:V _:=x;have bd:V _:=b4;clear bZ ag cj bS bl cl x b4;go_wp2_with fail;go_ret;refine⟨_,_,congrArg (λz=>Ending.returned (.slice _ z _)) u.o,⟨λe5=>?_⟩,R2.o⟩;have ad:=R1.o;have ao:=eI (k:=g9) ad (by simp[Value.ownBlock]);refine⟨_,rfl,ao.1,ao.2,λi hi=>?_⟩;have aA:i<(U++[(F,k)]).length:=by rw[p.o,List.length_map]at hi;exact hi
  have ah:=World.ownsRow.cells (g:=g9) ad rfl i (uJ g _ _ ((U++[(F,k)]).getD i (0,0))) (by rw[List.getElem?_map,yah,yal aA];rfl);rw[kj,Nat.zero_add]at ah
  have J:(f9 ts).getD i []=lU ts ((U++[(F,k)]).getD i (0,0)):=by
   rw[p.o,yah,List.getElem?_map,yah,yal aA];rfl
  have ak:((U++[(F,k)]).getD i (0,0)).1<=((U++[(F,k)]).getD i (0,0)).2/\((U++[(F,k)]).getD i (0,0)).2<=k:=by
   have az:(U++[(F,k)]).getD i (0,0)∈U++[(F,k)]:=by
    rw[yah,yal aA];exact List.getElem_mem _
   rcases List.mem_append.1 az with c|c
   ·exact aS.o _ c
   simp only[List.mem_singleton]at c;rw[c];exact⟨w,yad⟩
  generalize (U++[(F,k)]).getD i _=f at ah J ak;rw[J,Hg (hU HL.o ak.2)];exact⟨_,_,ah,(aP.o.keep R2.o).cut ak.2,by omega⟩
theorem WS.graph{W}(h:WS W P I am al ar X bs st){lo}(cu:I<=lo)
  (aC:W.ownsRow lo 3 1 aZ st.ins.length (st.ins.map (Value.int .i64))) (a0:W.ownsRow lo 53 6 be vs.length (fQ vs)) (ai:W.ownsRow lo 3 1 bz st.outs.length (st.outs.map (Value.int .i64)))
  (S:Apart aZ be) (C:Apart aZ bz) (au:Apart be bz) (hP:P<lo) (a8:∀b,X.ownBlock=some b->b<lo)
  (f:W0.heap.size<=lo) (H:Mv (Mst P am al ar X) W0 (Mst P am al ar X) W) (bv:∀i,i<bs.length->BcOK (λb=>Mst P am al ar X b\/W0.heap.size<=b) W (bs.getD i hO) (st.names.getD i (.val [] 0))):
  WS (((W.setCell ⟨P,0,none⟩ aZ).setCell ⟨P,1,none⟩ be).setCell ⟨P,2,none⟩ bz) P I aZ be bz X bs {st with vs:=vs}/\Mv (Mst P am al ar X) W0 (Mst P aZ be bz X) (((W.setCell ⟨P,0,none⟩ aZ).setCell ⟨P,1,none⟩ be).setCell ⟨P,2,none⟩ bz):=by
 have an:∀{z:Value}{e s n:Nat}{xs:List _},W.ownsRow lo e s z n xs->z.ownBlock≠some P:=λay c=>hR ((eI ay c).1)
 have l:=h.np.2.2.2;have g:∀{z:Value}{e s n:Nat}{xs:List _},W.ownsRow lo e s z n xs->Apart z _:=λay k O aJ=>hS ((eI ay O).1) (a8 k aJ)
 obtain⟨bh,aU,aY⟩:=fj W P _ _ _ h.c0 h.c1 h.c2 aZ be bz;have K:=ft W P aZ be bz
 have es:∀o,o≠0->o≠1->o≠2->(((W.setCell ⟨P,0,_⟩ aZ).setCell ⟨P,1,_⟩ be).setCell ⟨P,2,_⟩ bz).cell? _=W.cell? ⟨P,o,_⟩:=λo aj B R=>by
  rw[eO _ _ _ _ _ _ (.inr (λe=>R e.symm)),eO _ _ _ _ _ _ (.inr (λe=>B e.symm)),eO _ _ _ _ _ _ (.inr (λe=>aj e.symm))]
 have aP:Mv (Mst P am al ar X) W0 (Mst P aZ be bz X) (((W.setCell ⟨P,0,none⟩ aZ).setCell ⟨P,1,none⟩ be).setCell ⟨P,2,none⟩ bz):=by
  refine⟨H.bad (K.chg1 (.inl rfl)),λb hb=>?_⟩;exact xfs
 have m:Mv _ W (λb=>Mst P am al ar X b\/W0.heap.size<=b) _:=⟨K.chg1 (.inl (.inl rfl)),λb hb=>.inl hb⟩
 have j:∀{z:Value}{e s n:Nat}{xs:List _},W.ownsRow _ e s z n xs->z.ownBlock≠some P->(((W.setCell ⟨P,0,_⟩ aZ).setCell ⟨P,1,_⟩ be).setCell ⟨P,2,_⟩ bz).ownsRow I e s z n _:=λay hn=>jd (eJ (eJ (eJ ay hn) hn) hn) cu;refine⟨⟨by simpa using h.lt,λo=>by simp[h.fr o],bh,aU,aY,(es 3 xab xab xab).trans h.c3,(es 4 xab xab xab).trans h.c4,(es 5 xab xab xab).trans h.c5,(es 6 xab xab xab).trans h.c6,j aC (an aC),j a0 (an a0),j ai (an ai),eJ (eJ (eJ h.r4 l) l) l,⟨an aC,an a0,an ai,l⟩,⟨S,C,g aC,au,g a0,g ai⟩,h.nl,λi hi=>?_,h.sz⟩,aP⟩;refine((bv i hi).mv m).weak (λb hb=>?_);exact xfs
theorem WS.old{W}(h:WS W0 P I am al ar X bs st)(k:Kept 0 0 W0 W):∀i,i<bs.length->BcOK (λb=>Mst P am al ar X b\/W0.heap.size<=b) W (bs.getD i hO) (st.names.getD i (.val [] 0)):=λi hi=>by
 have aw:∀{a:Option _}{n:Nat}{ts:List _},TkR _ _ a n _->TkR (λb=>Mst P am al ar X b\/W0.heap.size<=b) W a n ts:=λht=>⟨ht.len,λhn=>by
  obtain⟨g,off,e,B,R⟩:=ht.at_ hn
  exact⟨g,_,e,λc=>c.elim B (λc=>hR R.lt),R.keep k⟩⟩
 have hb:=h.nb i hi
 cases aV:st.names.getD i (.val [] 0) with
 |val aQ v=>rw[aV]at hb;exact hb
 |fn aQ aS e=>
  rw[aV]at hb
  obtain⟨B,R,h3,ts,a8,bQ,bV⟩:=hb
  exact⟨B,R,aw h3,_,a8,bQ,aw bV⟩
theorem r8{W:World}{N aA ae a9 ax aN Y U:Nat}{u xs bd}(B:W.ownsRow N ae ax u Y xs)(R:W.ownsRow aA a9 aN v U bd)(ab:ae≠a9):Apart u v:=λk O aL=>by
 rcases B.2 with⟨c,_⟩|⟨g,c,H,e,_,d1,_⟩
 ·rw[c]at O;simp[Value.ownBlock]at O
 ·rcases R.2 with⟨aP,_⟩|⟨aG,aP,f,C,_,d2,_⟩<;>grind [Value.ownBlock]
theorem qP{W}(aj:WS W0 P I am al ar X bs st)(H:Kept 0 0 W0 W){N a2 ab d1 cap d3}
  (aC:W.ownsRow W0.heap.size 3 1 (.slice N st.ins.length d1) st.ins.length (st.ins.map (Value.int .i64))) (a0:W.ownsRow W0.heap.size 53 6 (.slice a2 vs.length cap) vs.length (fQ vs)) (ai:W.ownsRow W0.heap.size 3 1 (.slice ab st.outs.length d3) st.outs.length (st.outs.map (Value.int .i64))) (C:Apart (.slice N st.ins.length d1) (.slice ab st.outs.length d3))
  (O:∀v∈vs,v.k<18446744073709551616) (ah:∀k,k<vs.length->1<=(vs.getD k hM).len/\(vs.getD k hM).len<=1000) (j:Nat) (p:Nat):
  Calls prog 140 #[hG P,eZ N st.ins.length d1 a2 vs.length cap ab st.outs.length d3,hI j,hI p] W λe W'=>TrO W0 P I am al ar X bs (if kM vs=true then .error (5,p)else .ok ({st with vs:=vs},j)) e W':=by
 have an:=ez 0 0 W (eY N st.ins.length d1 a2 vs.length cap ab st.outs.length d3);have aI:V _:=fE W (.slice N st.ins.length d1) (.slice a2 vs.length cap) (.slice ab st.outs.length d3);have u:GS W _ _ _ _ _ _ _ _ _:=⟨xX aC rfl,GT a0 rfl O,xX ai rfl⟩
 have aP:V _:=AM _ _ _ _ _ d1 _ cap _ d3 _ _ _ (u.keep an) ah;have bW:V _:=H.trans an;have aK:V _:=e8 aC an;have aJ:V _:=e8 a0 an;have aH:V _:=e8 ai an;have bf:V (Apart _ _/\Apart (.slice N _ _) _/\Apart (.slice a2 _ _) _):=⟨r8 aC a0 xab,C,r8 a0 ai xab⟩
 have m:V _:=aj;clear u ah O an H aC a0 ai C aj;obtain⟨r,ay⟩:∃r:Rs _,r=(if kM vs=true then .error (5,p)else .ok ({st with vs:=vs},j)):=⟨_,rfl⟩
 rw[<-ay];have Z:V _:=ay;clear ay;go_enter func140,ntmps140;go_wp2_with fail;generalize W.alloc _=aD at aI aP bW aK aJ aH⊢;generalize W.heap.size=bL at aI⊢;obtain⟨_,bh,aU,aY⟩:=aI.o;cases hb:kM vs
 ·rw[hb]at aP;have aa:V _:=Z.o.trans (hJ (by rw[hb];simp))
  have bU:V (∀W',Kept 0 0 _ W'->_):=λW' k=>
   WS.graph (m.o.keep (bW.o.trans k)) (hS m.o.sz m.o.lt) (e8 aK.o k) (e8 aJ.o k) (e8 aH.o k) bf.o.1 bf.o.2.1 bf.o.2.2 m.o.lt (λb hb=>(eI m.o.r4 hb).2) yad (Mv.of (bW.o.trans k)) (m.o.old (bW.o.trans k))
  have ad:V (∀W',Kept 0 0 _ W'->(W'.cell? _=some _/\W'.cell? _=some _/\W'.cell? _=some _)/\(∀o,W'.frozen? _=false)/\G0 _ _ _ _ _):=λW' k=>by
   have h:=m.o.keep (bW.o.trans k)
   exact⟨⟨h.c0,h.c1,h.c2⟩,h.fr,aI.o.keep k⟩
  clear hb Z;go_upto_region 3 with (go_at_call 129;refine yai aP.o ?_;rintro e w ⟨rfl,l⟩);obtain⟨⟨bk,a8,p2⟩,bR,⟨_,bj,aQ,a6⟩⟩:=ad.o _ l;have bG:=bR 0;have f1:=bR 1;have f2:=bR 2;have aq:V _:=bU.o _ l;clear bh aU aY aI aP bU ad bR l;go_wp2_with fail;go_ret;rw[aa.o];exact⟨rfl,_,_,_,_,aq.o.1,aq.o.2⟩
 rw[hb]at aP;have aa:V _:=Z.o.trans (hK hb);have b3:V (∀W',Kept 0 0 _ W'->_):=λW' k=>jK (m.o.keep (bW.o.trans k)).c5 (m.o.keep (bW.o.trans k)).c6 (m.o.keep (bW.o.trans k)).fr 5 p (Mst P am al ar X) (.inl rfl);clear hb Z
 go_wp2_with (first
  |(go_at_call 129;refine yai aP.o ?_;rintro e w ⟨rfl,l⟩)
  |(go_at_call 92;refine yai (b3.o _ l) ?_;rintro e z ⟨rfl,F⟩))
 go_ret;rw[aa.o];exact⟨rfl,F.c5,F.c6,(Mv.of (bW.o.trans l)).bad F.chg⟩
structure Sg1 (W:World)(gr i q o c:Nat)(t:Tok):Prop where
 lt:gr<W.heap.size
 at_:W.cell? ⟨gr,i,none⟩=some (.slice (some ⟨q,o,none⟩) 1 c)
 tk:TkA W q o 1 [t]
theorem Sg1.keep{W o t}(h:Sg1 W b0 i q o c t)(k:Kept 0 0 W W'):Sg1 W' b0 i q o c t:=
 ⟨yaj h.lt k.size,(k.cell (p:=⟨b0,i,none⟩) h.lt xaa).trans h.at_,h.tk.keep k⟩
theorem Sg1.cells{W o t}(h:Sg1 W b0 i q o c t):W.cell? ⟨b0,i,none⟩=some (.slice (some ⟨q,o,none⟩) 1 c)/\W.cell? ⟨q,o,none⟩=some (eN t.sym)/\W.cell? ⟨q,o+1,none⟩=some (hI t.pos)/\W.cell? ⟨q,o+2,none⟩=some (eN t.text):=
 ⟨h.at_,by simpa using h.tk.c0 0 xaa,by simpa using h.tk.c1 0 xaa,by simpa using h.tk.c2 0 xaa⟩
theorem TrO.back{e}(k:Kept 0 0 W0 aD)(h:TrO aD P I am al ar X bs r e W'):TrO W0 P I am al ar X bs r e W':=by
 rcases r with⟨c,p⟩|⟨st,v⟩
 ·obtain⟨B,R,h3,a8⟩:=h;exact⟨B,R,h3,(Mv.of k).bad a8⟩
 obtain⟨B,bc,bd,bg,Z,R,h3⟩:=h;exact⟨B,_,_,_,_,R,(Mv.of k).trans h3⟩
theorem TrO.ret{W e}(h:TrO W P I am al ar X bs r e W'):∃x:Int,e=.returned (hI x):=by
 rcases r with⟨c,p⟩|⟨st,v⟩
 ·exact⟨_,h.1⟩
 exact⟨v,h.1⟩
theorem aY.qbm(h:Zp:=by
 have j:V (mj _ ⟨_,_,z⟩ a n=if ay=qA then
  if fg _ a<=iH _ then .error _ else fZ st _ K
  else if fg _ a≠1 then .error (4,K)
  else if iH _<1\/1000<iH _ then .error _ else fZ _ _ K):=rfl
 have cf:=H.len a G;change 1<=fg _ a/\fg _ a<=1000 at cf;have bx:V _:=h;have aw:V _:=aT;obtain⟨bu,cap,a9,b7,-⟩:=h.lenc G
 have HL:V (∀W',Kept 0 0 W W'->W'.cell? _=some (.slice _ _ _)/\W'.cell? _=some _/\(W'.cell? _=some _/\W'.cell? _=some _/\W'.cell? _=some _/\W'.cell? _=some _)):=λW' ap=>by
  obtain⟨ag,aF,ak,_,c3⟩:=(bx.o.keep ap).lenc G
  rw[a9]at ak
  cases ak
  exact⟨(bx.o.keep ap).c1.trans (congrArg some a9),c3,(aw.o.keep ap).cells⟩
 generalize mj _ _ a n=r at j⊢;generalize fg _ a=l at cf HL j;generalize w:st.vs.length=bQ at*;clear w h aT H bf bx aw a9 b7;unfold jb at bX⊢;obtain⟨bJ,ab,S⟩:=n;simp only at bX hb HL j⊢;generalize iH _=m at*;exact qfb):Zp:=h
theorem aY.qfc(h:Zp:=by
 obtain⟨aU,aY,bW,b9,cj,cU⟩:=HL.o _ HK.o;exact qgz):Zp:=h
theorem aY.qha(h:Zp:=by
 clear aU aY bW b9 cj cU bb aI HK ao bX;obtain⟨aU,aY,bW,b9,cj,cU⟩:=HL.o _ bN.o;have bb:=y.o.c0;have N:=y.o.c1;clear HL;rcases O with O|O
 ·subst O;have f:V _:=j.o.trans (hJ xab);unfold vn at*;clear j;by_cases B:l=1
  ·subst B;have s:V _:=f.o.trans (hJ xac);clear f;by_cases R:m<1
   ·have aa:V _:=s.o.trans (hK (.inl R));exact xdb
   by_cases h3:1000<m
   ·have aa:V _:=s.o.trans (hK (.inr h3));exact xdb
   have aa:V _:=s.o.trans (hJ xaa);have ce:V _:=λW' ap=>bM.o W' (eL 10 m a 0 0) ap (by grind) (by simp_all);go_upto_region 12 with fail;exact xel
  have aa:V _:=f.o.trans (hK B);have bj:=yaw B;exact xdb
 subst O;have f:V _:=j.o.trans (hK rfl);unfold qA at*;clear j;by_cases B:l<=m
 ·have aa:V _:=f.o.trans (hK B);exact xdb
 have aa:V _:=f.o.trans (hJ B);have ce:V (∀W',Kept 0 0 W W'->_):=λW' ap=>bM.o W' (eL 11 1 (a:Int) 0 m) ap (by show(1:Int)<=1/\(1:Int)<=1000;omega) yag;go_upto_region 6 with fail;exact xel):Zp:=h
open aY in
theorem Hh{W}(h:WS W P I am al ar X bs st)(H:Gd st)(k)(O:k.sym=vn\/k.sym=qA)(a)(G:a<st.vs.length)(n)(bf:Dgs n.text){ah bR o}(cr:2<=ah)(aT:Sg1 W b0 1 q o c n):
  Calls prog 138 #[hG P,jb k,hI a,hH b0 ah bR] W (TrO W P I am al ar X bs (mj st k a n)):=by
 obtain⟨ay,K,z⟩:=k;simp only at O;have bX:V _:=λW'=>zN n bf W';have bF:=H.n;have hb:=pQ bf yad;rw[List.take_length]at hb;have aI:V _:=it W ay K z;have HK:V _:=ez 0 0 W (.cells #[eN ay,hI K,eN z] 84);exact qbl
