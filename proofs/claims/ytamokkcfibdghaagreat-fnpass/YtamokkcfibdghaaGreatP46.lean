import Derived.Test.YtamokkcfibdghaaGreatP45
import Derived.Test.YtamokkcfibdghaaGreatP42
namespace Go.Proofs.Z
variable {Zp:Prop}
open Tryz Go.RowKit Flt
set_option maxRecDepth 1000000
set_option maxHeartbeats 0
section
attribute [local go_sem] eG eE eD
theorem dC.qeh(h:Zp:=by
 clear b5 Y U;cases ak:i9 st.names Q with
 |some d=>
  exact qam
 |none=>
  exact qgj):Zp:=h
theorem dC.qgg(h:Zp:=by
 rw[show(k::n::l::(us++bg::q::ts)).getD 0 _=k from rfl]at c0;rw[show(k::n::l::(us++bg::q::ts)).getD 1 _=n from rfl]at b5 Y U;rw[O,show GL=[100,101,102] from rfl]at c0;exact qhi):Zp:=h
theorem dC.qgk(h:Zp:=by
 have aJ:V (r=Hc st ⟨bJ,ab,Q⟩ aS e):=by
  have h:=HR.o;rw[uu HFn.o]at h;exact(hL h).symm
 have aY:V (r=match oI us 0 with|some p=>.error (3,p)|none=>.ok {st with names:=st.names++[.fn Q aS e]}):=by
  show _=_;rw[aJ.o];unfold Hc oI;rw[List.take_zero,List.drop_zero,ck.o];rfl
 clear HR HFn aJ;go_upto_region 24 with fail;go_wp2_with fail;go_loopw [11] (λJ W'=>W'=aD/\∃j:Nat,j<=b8/\J=hI (3+(j:Int))) (λJ _=>3+b8-(intOf J).toNat)
 case atStart=>exact⟨rfl,0,Nat.zero_le _,rfl⟩
 case round=>
  obtain⟨rfl,j,hj,rfl⟩:=hrel;by_cases aF:j<b8
  ·obtain⟨ba,_,_⟩:=cD.o _ HK.o j aF;have ad:=bv.o j aF;generalize (us.getD j _).sym=a0 at ba ad;have b9:(a0 !=[41])=true:=by unfold bne;rw[ad];rfl
   go_wp2_with fail;go_roundw
   case rel=>exact⟨trivial,j+1,by omega,by go_num⟩
   case measure=>simp[intOf];omega
  obtain rfl:j=b8:=xaa;have ba:=bz.o _ HK.o;obtain⟨lo,(aw:V _)⟩:∃lo,lo=wr.heap.size:=⟨_,rfl⟩
  have bP:V (TR wr lo _ (noC (us.take 0))):=TR.nil _ _;have cd:V _:=Nat.le_of_eq aw.o.symm;have cP:V (∀aM,lo<=aM->_):=λaM cJ=>u.o.ws.far2 (yan HK.o.size (yan cd.o cJ));have cQ:V (∀(aD W2:World) (v:Value) (Z:List _),Kept 0 0 _ _->TR _ _ v Z->Chg _ aD W2->_):=λaD W2 v Z ap ec b3=>BX cd.o ap ec b3;go_upto_region 27 with fail;clear ba;go_wp2_with fail;go_loopw [12,13] (λeT aL W'=>∃i:Nat,i<=j/\aL=hI (3+(i:Int))/\V (Kept 0 0 wr W')/\V (TR W' lo eT (noC (us.take i)))/\V (oI us i=oI us 0)) (λ_ aL _=>3+j-(intOf aL).toNat)
  case atStart=>exact⟨0,Nat.zero_le _,rfl,(show V _ from hQ),bP,(show V _ from rfl)⟩
  case round=>
   obtain⟨i,hi,rfl,aH,bi,bI⟩:=hrel;clear bP;have cq:V _:=HK.o.trans aH.o;by_cases aN:i<j
   ·have ce:V _:=λW' ap=>cD.o W' ap i aN;have bk:V _:=λc=>Bx (hU B.o aN) c;have aQ:V _:=λc=>Ix (hU B.o aN) c;have di:=aw.o;generalize us.getD i _=K at ce bk aQ;obtain⟨aB,w,bf⟩:=K;simp only at ce bk aQ;obtain⟨ba,_,_⟩:=ce.o _ cq.o;have c8:V (lo<=wr.heap.size):=by show _<=_;rw[aw.o];exact aH.o.size
    clear di;cases ai:(aB==[44])
    ·obtain⟨e4,cS,br⟩:=aQ.o ai;have bd:V _:=e4;have aW:V _:=cS;have cr:V _:=br;obtain⟨cM,cX,b1⟩:=pi bi.o;subst b1
     have cO:V ((noC (us.take i)).length<=i):=by
      show _<=_;unfold noC;exact yan (List.length_filter_le _ _) (by rw[List.length_take];omega)
     clear e4 cS br bk aQ;generalize cB:noC _=R at bi bd aW cr cO⊢;clear cB;have cR:=cO.o;go_upto_region 32 with fail;clear ba;go_wp2_with fail;go_loopw [14] (λcK W'=>∃x:Nat,x<=R.length/\cK=hI x/\V (Kept 0 0 wr W')/\V (∀y,y<x->((R.getD y hN).text==bf)=false)) (λcK _=>R.length-(intOf cK).toNat)
     case atStart=>exact⟨0,Nat.zero_le _,rfl,(show V _ from hQ),(show V _ from λy bV=>by omega)⟩
     case round=>
      obtain⟨x,au,rfl,aC,cF⟩:=hrel;have s:V _:=cq.o.trans aC.o;have bW:V _:=aH.o.trans aC.o;obtain⟨ba,aO,aR⟩:=ce.o _ s.o;have bN:V _:=bi.o.keep aC.o;have cG:V _:=yan c8.o aC.o.size;by_cases b6:x<R.length
      ·obtain⟨aM,bY,av,_,bj,_⟩:=TR.at_ bN.o xaa;cases av;have cz:=bj.c2 x b6;rw[Nat.zero_add]at cz;generalize cW:(R.getD x _).text=cx at cz;have bm:V _:=cW;clear cW bj;have cN:V _:=cF.o;have cT:V _:=aC.o;go_upto_region 35 with fail;go_quiet (fail)
       have bX:V _:=s.o.trans (eM 0 0 _ nq);have cp:V _:=cT.o.trans (eM 0 0 _ nq);clear ba aO aR cz s aC bW bN cG cT;generalize wr.drewN _=b4 at bX cp⊢;cases aq:(cx==bf)
       ·have c6:V (∀y,y<x+1->((R.getD y _).text==bf)=false):=λy bV=>by
         by_cases c:y=x
         ·subst c;rw[bm.o];exact aq
         ·exact cN.o y xaa
        go_wp2_with fail;go_roundw
        case rel=>exact⟨x+1,by omega,by go_num,cp,c6⟩
        case measure=>simp[intOf];omega
       have aP:V (r=.error (3,w)):=by
        have G:R.any (λq=>q.text==bf)=true:=by
         rw[List.any_eq_true];refine⟨_,?_,hU bm.o aq⟩;rw[yah,yal b6];exact List.getElem_mem _
        show _=_;rw[aY.o,<-bI.o,aW.o G]
       have b0:V _:=jK (u.o.ws.keep bX.o).c5 (u.o.ws.keep bX.o).c6 (u.o.ws.keep bX.o).fr 3 w (Mst P am al ar X) (.inl rfl);obtain⟨_,aO,_⟩:=ce.o _ bX.o;clear cN aW cr bd;go_wp2_with (go_at_call 92;refine yai b0.o ?_;rintro e bA ⟨rfl,F⟩);refine yay (v:=.tuple #[]) (by simp[results,results56,go_sem]) rfl ?_;rw[aP.o];exact⟨rfl,F.c5,F.c6,(Mv.of bX.o).bad F.chg⟩
      obtain rfl:x=R.length:=xaa
      have bh:V (oI us (i+1)=oI us 0):=by
       show _=_;rw[cr.o ?_]
       ·exact bI.o
       rw[List.any_eq_false];intro y bV;obtain⟨z,bp,rfl⟩:=List.getElem_of_mem bV;have:=cF.o z bp;rw[yah,yal bp]at this;simpa using this
      have cl:=zt wr ⟨aB,w,bf⟩ 84;have bl:=ez 0 0 wr (.cells #[eN aB,hI w,eN bf] 84);have ct:V _:=TR.keep bN.o bl;have cg:V _:=bW.o.trans bl;clear bN cF aW cr bi aC s bW;simp only at cl;go_wp2_with (first|(at_builtin;refine ot _ rfl _ _ rfl _ _ _ (by rfl) ct.o _ _ (by rfl) cl ?c2 ?c3 ?_)|fail)
      case c2=>omega
      case c3=>have:=cG.o;simp;omega
      intro g9 cap9 n9 bo bS bZ ag cj;have aG:V _:=cQ.o _ _ _ _ cg.o ct.o ag;have bc:V _:=bZ;rw[<-bd.o]at bc;clear bZ ag cj bS bl cl ct cg ba aO aR;go_wp2_with fail;go_roundw
      case rel=>exact⟨i+1,by omega,by go_num,aG,bc,bh⟩
      case measure=>simp[intOf];omega
    obtain⟨e4,bx⟩:=bk.o ai;have ae:V _:=bi.o;rw[<-e4]at ae;have bh:V (oI us (i+1)=oI us 0):=by show _=_;rw[bx];exact bI.o
    clear e4 bx bk aQ;go_wp2_with fail;go_roundw
    case rel=>exact⟨i+1,by omega,by go_num,aH,ae,bh⟩
    case measure=>simp[intOf];omega
   obtain rfl:i=j:=xaa;have ae:V _:=bi.o;rw[yao (by rw[B.o];exact yad),ck.o]at ae
   have cy:V (r=.ok {st with names:=st.names++[.fn Q aS e]}):=by
    have aV:oI us i=none:=by
     unfold oI;rw[List.drop_eq_nil_of_le (by rw[B.o];exact yad)];rfl
    show _=_;rw[aY.o,<-bI.o,aV]
   clear bi bI aY cD bz bv ck cQ;obtain⟨cM,cX,b1⟩:=pi ae.o
   have dd:V (TkR _ _ cM _ _):=⟨rfl,λaj=>by
    obtain⟨aM,bY,av,cJ,bj,_⟩:=TR.at_ ae.o aj
    rw[b1]at av
    cases av
    exact⟨_,0,rfl,cP.o _ cJ,bj⟩⟩
   have c7:V _:=bH.o _ cq.o;subst b1;have ci:V _:=aI.o.keep aH.o;have cn:V (Mv _ W (Mst P am al ar X) _):=Mv.of cq.o;have C:=u.o.ws.keep cq.o;have cw:=aU.o;have ch:=u.o.gd;have c9:V _:=bC;clear ae cP bH aI u bb N aA aH B aw cd;obtain⟨bK,be,bU,bO,bR⟩:=nG;have b2:=C.c3;have co:=C.fr 3;have a5:=C.lt;have cC:I<=wr.heap.size:=hR C.sz
   obtain⟨a4,cb,e4⟩:=jM C.r4;have an:V (X.ownBlock≠some P/\X.ownBlock≠some _):=⟨C.np.2.2.2,λc=>cw (.inr (.inr (.inr (.inr c))))⟩
   exact qhq):Zp:=h
theorem dC.qhj(h:Zp:=by
 have dp:us.length+5<m:=xaa
 have cH:∀j,(k::⟨bJ,ab,Q⟩::l::(us++bg::q::ts)).getD (3+j) _=(us++bg::q::ts).getD j hN:=λj=>by
  rw[Nat.add_comm];rfl
 have cD:V (∀W',Kept 0 0 W W'->∀j,j<us.length->W'.cell? _=some _/\W'.cell? _=some _/\W'.cell? _=some _):=λW' ap j hj=>by
  have t:=H.tk.keep ap
  have ba:=t.c0 (3+j) xaa
  have aO:=t.c1 (3+j) xaa
  have aR:=t.c2 (3+j) xaa
  rw[cH,po _ _ _ _ hj]at ba aO aR
  exact⟨ba,aO,aR⟩
 have bz:V (∀W',Kept 0 0 W W'->W'.cell? _=some (eN [41])):=λW' ap=>by
  have ba:=(H.tk.keep ap).c0 (3+us.length) xaa
  rw[cH,yah,yar yad,Nat.sub_self]at ba
  rw[<-ay]
  exact ba
 have bv:V (∀j,j<us.length->((us.getD j hN).sym==[41])=false):=λj hj=>Le a9 _ (by
  rw[yah,yal hj]
  exact List.getElem_mem _)
 have ck:V _:=Ld a9
 have bH:V (∀W',Kept 0 0 W _->TkR _ W' _ _ _):=λW' ap=>by
  have t:=(H.tk.keep ap).in_ (3+us.length+2) m ts (by
   rw[show 3+us.length+2=(us.length+2)+3 by omega,List.drop_succ_cons,List.drop_succ_cons,List.drop_succ_cons,List.drop_append,List.drop_eq_nil_of_le xaa,show us.length+2-us.length=2 by omega]
   simp only[List.nil_append,List.drop_succ_cons,List.drop_zero]
   rw[yao xaa]) yad
  exact⟨t.len,λ_=>⟨g,_,rfl,H.tg,t⟩⟩
 have dg:V (TsOK ts):=⟨hR H.m5,λt ht=>H.ti t (by simp[ht]),λt ht=>H.tn t (by simp[ht])⟩
 have bT:V _:=G;have bM:us.length<=5000:=xaa;clear h H O a9 ay G cH;generalize cV:us.length=b8 at*;have B:V _:=cV;clear cV az;go_enter func56,ntmps56;go_upto_region 20 with fail;go_upto_region 21 with fail;change Code.wp _ _ _ _ (W.alloc (.cells #[eN _,.int _ _,eN _] 84));exact qeg):Zp:=h
theorem dC.qhr(h:Zp:=by
 generalize cI:aS.length=ds at*;clear cI;have cc:IntKind.i64.wrap (3+i+2)=3+i+2:=by rw[IntKind.wrap_i64];omega
 have d0:(3+(i:Int)+2).toNat=3+i+2:=xaa;have ea:(0:Int)<=3+i+2:=xaa;have eb:3+(i:Int)+2<=m:=xaa;have dv:¬(cap=3+i+2):=xaa;go_upto_region 38 with fail
 go_region_law
  ((refine step_append_lies _ rfl _ _ _ rfl I 123 _ _ 5 _ underlying88 be bU bO bR rfl xab _ _ _ (by simp[Act.eval]) (mO aT.o 1 _) _ 1 1 (Bc.cells ⟨_,_,0,_,_,_,_,_,_⟩) (by simp[Act.eval]) rfl (It _ _ _) (Oh _) xab (by unfold maxLen;omega) xaa yaf _ rfl ?_;intro g9 cap9 bo bB bw b7 cA;have s0:=lI bw a5 an.o.1 b2;have bG:=far2 bw a5 an.o.1 co;have ax:=lI bw cf an.o.2 a6))
 all_goals
  have bu:=b7.imp id (λe=>Nat.le_of_eq e.symm)
  have aZ:=(ez 0 0 wr (.cells #[eN Q,.bool true,hI 0,.slice cM ds cX,.slice (some ⟨g,off+(3+i+2)*3,none⟩) (m-(3+i+2)) (cap-(3+i+2))] 123)).trans (eM 0 0 _ 1)
  obtain⟨(o:V _),aa⟩:=(bE.o.keep aZ).nms_ (d:=.fn Q _ e) (n9:=bQ+1) (i7 bw) (by rw[yak,bD.o];rfl) (by rw[xV,xW];exact bB) bu (λmm=>⟨rfl,rfl,dd.o.mv ((Mv.of aZ).trans mm),_,bT.o,⟨dg.o,by show m-(3+i+2)<=cap-(3+i+2);have:=c9.o;omega⟩,c7.o.mv ((Mv.of aZ).trans mm)⟩)
  have a8:V _:=(cn.o.keep aZ).trans aa
  clear aa bu aZ bB bw b7 cA s0 bG ax
  go_wp2_with fail
  refine yay (v:=.tuple #[]) (by simp[results,results56,go_sem]) rfl ?_
  rw[cy.o]
  exact⟨rfl,_,_,_,_,_,o.o,a8.o⟩):Zp:=h
open dC in
theorem Ak{f W P I am al ar X bs st g off m cap k n l bg q e aS us ts}(H:TrIn W P I am al ar X bs st none 0 [] g off m cap (k::n::l::(us++bg::q::ts)))(O:k.sym=GL)(a9:PPz aS us)(ay:bg.sym=[41])(G:Pr 2 [e] ts){r}(h:iU f st (.defS n aS e)=some r):
  Calls prog 56 #[hG P,.slice (some ⟨g,off,none⟩) m cap] W (StO W P I am al ar X r):=by
 have ah:=jg G;have az:=H.tk.len;simp only[yap,yak]at az;exact qgf
end
section
variable {s:Sm}{ts:List Tok}
theorem Iy{f W P I am al ar X bs st g off m cap}(H:TrIn W P I am al ar X bs st none 0 [] g off m cap ts)(aK:PSm s ts){r}(h:iU f st s=some r):
  Calls prog 56 #[hG P,.slice (some ⟨g,off,none⟩) m cap] W (StO W P I am al ar X r):=by
 cases aK with
 |inS O _ _ ah=>exact Lb H O ah h
 |letS O _ _ G=>exact Iu H O G h
 |rep O hi _ _ G=>exact Is H O hi G h
 |def0 O _ _ ay _ G=>exact Ak H O (.inl ⟨rfl,rfl⟩) ay G h
 |defS O _ _ a9 ay _ G=>exact Ak H O (.inr a9) ay G h
 |outS O G=>exact Iq H O G h
theorem PI(aK:PSm s ts)(hi:∀t∈ts,t.sym=iK->Dgs t.text):Px s:=by
 cases aK with
 |inS O _ _ ah=>exact hi _ xac ah
 |letS O _ _ G=>exact jB G (λt ht=>hi t (by simp[ht])) _ xac
 |rep O B _ _ G=>exact⟨hi _ xac B,jB G (λt ht=>hi t (by simp[ht])) _ xac⟩
 |def0 O _ _ ay _ G=>exact jB G (λt ht=>hi t (by simp[ht])) _ xac
 |defS O _ _ a9 ay _ G=>exact jB G (λt ht=>hi t (by simp[ht])) _ xac
 |outS O G=>exact jB G (λt ht=>hi t (by simp[ht])) _ xac
theorem PJ(aK:PSm s ts):0<ts.length:=by cases aK<;>simp
end
section
attribute [local go_sem] eG eE eD
variable {w:World}{a:Option Addr}{n b cap:Nat}{t:List UInt8}
theorem sb(n):∀(ts:List Tok) (st:List (List UInt8)),fH n ts st=-1\/∃p:Nat,fH n ts st=(p:Int)
 |[],st=>by
  grind [fH]
 |t::ts,st=>by
  rw[fH]
  split
  ·grind
  ·split
   ·exact sb n _ _
   grind
abbrev vT:Value:=eZ none 0 0 none 0 0 none 0 0
def PaE (w:World)(c:Int)(p:Nat)(e:Ending)(w':World):Prop:=e=.returned (.tuple #[vT,.int .i64 c,.int .i64 (p:Int)])/\Kept 0 0 w w'
theorem Iz(w a cap):Calls prog 88 #[.slice a 0 cap,hI 0] w λe J=>e=.returned (hI 0)/\J=w:=by
 go_enter func88,ntmps88;go_wp2_with fail;go_loopw [1] (λaL W'=>W'=w/\aL=hI 0) (λ_ _=>0)
 case atStart=>grind
 case round=>
  obtain⟨rfl,rfl⟩:=hrel;go_wp2_with fail;go_ret;exact⟨rfl,rfl⟩
theorem By(w a cap):Calls prog 53 #[.slice a 0 cap] w λe J=>e=.returned (.slice none 0 0)/\J=w:=by
 have aw:V _:=Iz w a cap;go_enter func53,ntmps53;go_wp2_with (go_at_call 88;refine yai aw.o ?_;rintro e af ⟨rfl,S⟩;obtain rfl:=S.symm);go_loopw [3,4] (λaB aL W'=>W'=w/\aL=hI 0/\aB=.slice none 0 0) (λ_ _ _=>0)
 case atStart=>grind
 case round=>
  obtain⟨rfl,rfl,rfl⟩:=hrel;go_wp2_with fail;go_ret;exact⟨rfl,rfl⟩
theorem pW(f:TxA w a n t)(hn:n<=100000)(G:n<=cap):Calls prog 53 #[.slice a n cap] w λe J=>∃v,e=.returned v/\TR J w.heap.size v (jH t)/\Kept 0 0 w J:=by
 rcases Nat.eq_zero_or_pos n with aj|aj
 ·subst aj;have ht:=List.length_eq_zero_iff.1 f.len;subst ht;refine yai (By w a _) (λe J h=>?_);grind [List.length_eq_zero_iff,qy,TR.nil,Kept.refl]
 obtain⟨g,off,rfl,B⟩:=f.at_ aj;exact F6 w g _ n _ t B hn G
theorem rN{W o v}(k:Kept 0 0 w W)(hb:w.heap.size<=b):Kept 0 0 w (W.setCell ⟨b,o,none⟩ v):=
 ⟨k.os,k.tape,k.output,by simpa using k.size,λj hj hn=>(Below.heap_setCell W ⟨b,o,none⟩ v j (λe=>by grind)).trans (k.block j hj hn)⟩
theorem Al{W}(k:Kept 0 0 w W)(hb:w.heap.size<=b)(bc bd bg):Kept 0 0 w (((W.setCell ⟨b,0,none⟩ bc).setCell ⟨b,1,none⟩ bd).setCell ⟨b,2,none⟩ bg):=rN (rN (rN k hb) hb) hb
theorem Cx(w W':World)(ap:Kept 0 0 (w.alloc (eY none 0 0 none 0 0 none 0 0)) W'):W'.cell? ⟨w.heap.size,0,none⟩=some (.slice none 0 0)/\W'.cell? ⟨w.heap.size,1,none⟩=some (.slice none 0 0)/\W'.cell? ⟨w.heap.size,2,none⟩=some (.slice none 0 0)/\∀o,W'.frozen? ⟨w.heap.size,o,none⟩=false:=by
 have aF:w.heap.size<(w.alloc (eY none 0 0 none 0 0 none 0 0)).heap.size:=by simp
 refine⟨(ap.cell aF xaa).trans ?_,(ap.cell aF xaa).trans ?_,(ap.cell aF xaa).trans ?_,λo=>(ap.frozen aF xaa).trans ?_⟩
 ·rw[yau];rfl
 ·rw[yau];rfl
 ·rw[yau];rfl
 simp_all
theorem TR.slice{W I v ts}(f:TR W I v ts):∃b0 ck,v=.slice b0 ts.length ck/\(0<ts.length->∃g,b0=some ⟨g,0,none⟩/\I<=g/\TkA W g 0 ts.length ts/\ts.length<=ck):=by
 obtain⟨b0,ck,e⟩:=pi f;refine⟨_,_,e,λaj=>?_⟩;obtain⟨g,cap,a9,B,R,h3⟩:=f.at_ aj;grind
theorem bS.qcc(h:Zp:=by
 have x:V _:=xH af b0 (jH t).length ck n (jH t) rfl HL.o (λaj=>by obtain⟨g,e,_,R,_⟩:=O aj;exact⟨g,0,e,R⟩);rw[aW.o]at x;have bN:V _:=ao;clear O a7 bP ao;generalize (jH t).length=m at*;go_upto_region 6 with (go_at_call 54;refine yai x.o ?_;rintro e aX ⟨rfl,aM⟩);obtain⟨c0,c1,c2,fr⟩:=a5.o aX (bN.o.trans aM);have bG:=fr 0;have f1:=fr 1;have f2:=fr 2;obtain⟨bh,aU,aY⟩:=fj aX bL _ _ _ c0 c1 c2 (.slice none 0 0) (.slice none 0 0) (.slice none 0 0);have aa:V (Kept 0 0 w (((aX.setCell ⟨bL,0,none⟩ (.slice none 0 0)).setCell ⟨bL,1,none⟩ (.slice none 0 0)).setCell ⟨bL,2,none⟩ (.slice none 0 0))):=Al ((HK.o.trans bN.o).trans aM) (Nat.le_of_eq aI.o) _ _ _;clear fr a5 x HK bN aM aW;go_wp2_with fail;refine yay (v:=.tuple #[vT,hI 2,hI p]) (by simp[results,results29,go_sem,bh,aU,aY]) rfl ?_;exact⟨rfl,aa.o⟩):Zp:=h
open bS in
theorem Am(f:TxA w a n t)(hn:n<=4000)(G:n<=cap){p:Nat}(aK:fH n (jH t) [iN]=(p:Int)):Calls prog 29 #[.slice a n cap] w (PaE w 2 p):=by
 have bg:¬(4000:Int)<(n:Int):=xaa;have bl:=ez 0 0 w (eY none 0 0 none 0 0 none 0 0);have bP:V _:=pW (f.keep bl) xaa G;have HL:V ((jH t).length<=5000):=by show _<=_;have:=qy t;have:=f.len;omega
 have a5:V (∀W',Kept 0 0 (w.alloc (eY none 0 0 none 0 0 none 0 0)) W'->W'.cell? ⟨w.heap.size,0,none⟩=some (.slice none 0 0)/\W'.cell? ⟨w.heap.size,1,none⟩=some (.slice none 0 0)/\W'.cell? ⟨w.heap.size,2,none⟩=some (.slice none 0 0)/\∀o,W'.frozen? ⟨w.heap.size,o,none⟩=false):=λW' ap=>by
  have aF:w.heap.size<(w.alloc (eY none 0 0 none 0 0 none 0 0)).heap.size:=by simp
  refine⟨(ap.cell (p:=⟨w.heap.size,0,none⟩) aF xaa).trans ?_,(ap.cell (p:=⟨w.heap.size,1,none⟩) aF xaa).trans ?_,(ap.cell (p:=⟨w.heap.size,2,none⟩) aF xaa).trans ?_,λo=>(ap.frozen (p:=⟨w.heap.size,o,none⟩) aF xaa).trans ?_⟩
  ·rw[yau];rfl
  ·rw[yau];rfl
  ·rw[yau];rfl
  ·simp[World.frozen?,World.alloc,-World.alloc_eq]
 have HK:V _:=bl;have aW:V _:=aK;have Y:0<=(p:Int):=xaa;clear bl f aK;go_enter func29,ntmps29;go_upto_region 1 with fail;change Code.wp _ _ _ _ (w.alloc (eY none 0 0 none 0 0 none 0 0));generalize w.alloc (eY none 0 0 none 0 0 none 0 0)=aB at bP a5 HK⊢;generalize cf:w.heap.size=bL at a5⊢;exact qcb
end
section
variable {U:List Sm}{r:Rs (LSt×Nat)}{ts:List Tok}
theorem Lf(h:PGm U ts){k}(O:(ts.getD k hN).sym=[59])(hb:∀j,j<k->(ts.getD j hN).sym≠[59]):∃s bc,U=s::bc/\PSm s (ts.take k)/\PGm bc (ts.drop (k+1)):=by
 cases h with
 |nil=>simp_all [hN]
 |cons ad ai aW=>
  rename_i s bc ts us c;rcases Nat.lt_trichotomy k ts.length with aF|rfl|aF
  ·exfalso;rw[po _ _ _ _ aF]at O;exact Kt ad _ (by simp_all) O
  ·refine⟨s,_,rfl,?_,?_⟩
   ·simp_all
   simp_all
  grind
theorem Lg(h:PGm U ts)(hb:∀j,j<ts.length->(ts.getD j hN).sym≠[59]):U=[]/\ts=[]:=by
 cases h with
 |nil=>grind
 |cons ad ai aW=>
  rename_i s bc ts us c;exfalso;refine hb ts.length xac ?_;simp_all
def EC {α:Type}(r:Rs α):Prop:=∀c p,r=.error (c,p)->c≠0
theorem EC.ok{ad x}:EC (.ok x:Rs ad):=λc p h=>by cases h
theorem EC.err{ad c p}(h:c≠0):EC (.error (c,p):Rs ad):=λaP f e=>by grind
theorem kQ(st v p):EC (fZ st v p):=by
 unfold fZ;split
 ·exact .err xab
 exact .ok
theorem yl(n p):∀(xs:List Nat) (st:LSt),EC (iS n p st xs)
 |[],st=>by rw[iS];exact .ok
 |i::r,st=>by
  rw[iS]
  split
  ·cases aK:fZ st (eL 10 n (i:Int) 0 0) p with
   |error q=>obtain⟨c,f⟩:=q;exact .err (kQ _ _ _ c _ aK)
   |ok y=>
    obtain⟨ax,j⟩:=y
    simp only
    cases bb:iS n p ax r with
    |error q=>obtain⟨c,f⟩:=q;exact .err (yl n p r _ c _ bb)
    |ok y=>exact .ok
  ·cases bb:iS n p st r with
   |error q=>obtain⟨c,f⟩:=q;exact .err (yl n p r _ c _ bb)
   |ok y=>exact .ok
theorem Bz(st xs p):EC (ko st xs p):=by
 unfold ko;split
 ·exact yl _ _ _ _
 exact .err xab
theorem rO(st m p):EC (iV st m p):=by
 unfold iV;split
 ·exact .err xab
 exact .ok
theorem Oi(st o a b):EC (qL st o a b):=by
 unfold qL;cases bb:ko st [a,b] o.pos with
 |error q=>obtain⟨c,f⟩:=q;exact .err (Bz _ _ _ c _ bb)
 |ok y=>exact kQ _ _ _
theorem Lh(st k a b):EC (qM st k a b):=by
 unfold qM;cases bb:ko st [a,b] k.pos with
 |error q=>obtain⟨c,f⟩:=q;exact .err (Bz _ _ _ c _ bb)
 |ok y=>
  simp only;split
  ·exact kQ _ _ _
  cases aK:fZ y.1 (eL 4 (fg y.1 (y.2.getD 0 0)) (y.2.getD 0 0:Nat) (y.2.getD 1 0:Nat) 0) k.pos with
  |error q=>grind [kQ]
  |ok z=>exact kQ _ _ _
theorem Oj(st k a b c):EC (xU st k a b c):=by
 unfold xU;cases bb:ko st [a,b,c] k.pos with
 |error q=>obtain⟨c,f⟩:=q;exact .err (Bz _ _ _ c _ bb)
 |ok y=>exact kQ _ _ _
theorem EJ(st k a n):EC (mj st k a n):=by
 unfold mj;split
 ·split
  ·exact .err xab
  exact kQ _ _ _
 exact xjt
theorem EK(st k a i n):EC (ml st k a i n):=by
 unfold ml;split
 ·exact .err xab
 exact xjt
theorem Li(st k a x):EC (pE st k a x):=by
 unfold pE;split
 ·exact .err xab
 exact rO _ _ _
theorem Ok(st k a x d):EC (pP st k a x d):=by
 unfold pP;split
 ·cases aK:fZ st (eL 10 (fg st x) (d:Int) 0 0) k.pos with
  |error q=>grind [kQ]
  |ok y=>exact rO _ _ _
 split
 ·exact .err xab
 exact rO _ _ _
theorem uv(st)(u:Loc)(t):EC (fD st u t):=by
 unfold fD;split
 ·exact .ok
 split
 ·exact .ok
 exact .err xab
theorem lV{a p}(B:∀r,a=some r->EC r)(R:∀s x,∀r,p s x=some r->EC r):∀r,jJ a p=some r->EC r:=λr h=>by
 cases G:a with
 |none=>rw[G]at h;cases h
 |some aC=>
  rw[G]at h
  rcases aC with q|⟨s,x⟩
  ·cases h<;>grind
  ·exact R s x r h
theorem Cy{p}(aK:∀s e r,p s e=some r->EC r):∀(es:List Ex) (st:LSt) (r:Rs (LSt×List Nat)),gm p st es=some r->EC r
 |[],st,r,h=>by rw[gm]at h;cases h;exact .ok
 |e::es,st,r,h=>by
  rw[gm]at h
  cases B:p st e with
  |none=>grind
  |some aC=>
   rw[B]at h
   rcases aC with aO|⟨ax,x⟩
   ·cases h;exact λc p C=>aK _ _ _ B c p (by cases C;rfl)
   ·simp only at h
    cases R:gm p ax es with
    |none=>grind
    |some a0=>
     rw[R]at h
     rcases a0 with aR|⟨aN,bd⟩
     ·cases h;exact λc p C=>Cy aK _ _ _ R c p (by cases C;rfl)
     ·cases h;exact .ok
theorem sO:∀(f:Nat) (st:LSt) (u:Loc) (e:Ex) (r:Rs (LSt×Nat)),eP f st u e=some r->EC r
 |0,st,u,e,r,h=>by rw[eP]at h;cases h
 |f+1,st,u,e,r,h=>by
  have ag:∀st u e r,eP f st u e=some r->_:=λst u e r h=>sO f _ _ e r h
  have g:∀{a r:Rs (LSt×Nat)},EC a->some a=some r->_:=λh e=>by cases e;exact h
  cases e with
  |num t=>rw[eP]at h;exact g (kQ _ _ _) h
  |name t=>
   rw[eP]at h
   cases aL:fD st u t with
   |error q=>rw[aL]at h;obtain⟨c,p⟩:=q;exact g (.err (uv _ _ _ c p aL)) h
   |ok v=>rw[aL]at h;exact g .ok h
  |neg o a=>grind [eP,lV,kQ]
  |bin o a b=>grind [eP,lV,Oi]
  |call t es=>
   rw[eP]at h
   split at h
   ·split at h
    ·split at h
     ·cases h
     ·rename_i q G
      exact λc p C=>Cy (λs e r h=>ag s _ e r h) _ _ _ G c p (by cases h;cases C;rfl)
     ·split at h
      ·exact g (.err xab) h
      ·exact ag _ _ _ r h
    ·exact g (.err xab) h
   ·exact g (.err xab) h
  |key1 k a=>
   grind [eP,lV,kQ]
  |key2 k a b=>grind [eP,lV,Lh]
  |key3 k a b c=>grind [eP,lV,Oj]
  |keyN k a n=>grind [eP,lV,EJ]
  |put k a i n=>rw[eP]at h;exact lV (λr h=>ag _ _ _ r h) (λs x r h=>g (EK _ _ _ _ _) h) r h
  |grad k a x=>
   rw[eP]at h
   cases aL:fD st u x with
   |error q=>rw[aL]at h;obtain⟨c,p⟩:=q;exact g (.err (uv _ _ _ c p aL)) h
   |ok v=>rw[aL]at h;exact lV (λr h=>ag _ _ _ r h) (λs x r h=>g (Li _ _ _ _) h) r h
  |jvp k a x d=>
   rw[eP]at h
   cases aL:fD st u x with
   |error q=>rw[aL]at h;obtain⟨c,p⟩:=q;exact g (.err (uv _ _ _ c p aL)) h
   |ok v=>grind [lV,Ok]
theorem IA{f e i s}:∀(k:Nat) (st:LSt) (r:Rs LSt),nR f e i s k st=some r->EC r
 |0,st,r,h=>by rw[nR]at h;cases h;exact .ok
 |k+1,st,r,h=>by
  rw[nR]at h
  split at h
  ·cases h
  ·rename_i q ab
   cases h
   exact λc p C=>sO _ _ _ _ _ ab c p (by cases C;rfl)
  ·exact IA k _ r h
theorem Cz{s}(h:EC r):EC (qO s r):=by
 exact xlf
theorem Lj(h:EC r):EC (NO r):=by
 exact xlf
theorem Ll{f st s r}(h:iU f st s=some r):EC r:=by
 have g:∀{a r:Rs LSt},EC a->some a=some r->_:=λh e=>by cases e;exact h
 cases s with
 |outS k e=>
  simp only[iU]at h;split at h
  ·exact g (.err xab) h
  cases ab:eP f st [] e with
  |none=>rw[ab]at h;cases h
  |some aC=>rw[ab]at h;exact g (Lj (sO _ _ _ _ _ ab)) h
 |rep i n e=>
  simp only[iU]at h;split at h
  ·split at h
   ·exact g (.err xab) h
   exact IA _ _ r h
  exact g (.err xab) h
 |defS n aS e=>
  simp only[iU,pr]at h;split at h
  ·exact g (.err xab) h
  refine g ?_ h;unfold Hc;split
  ·exact .err xab
  exact .ok
 |letS n e=>
  simp only[iU,pr]at h;split at h
  ·exact g (.err xab) h
  cases ab:eP f st [] e with
  |none=>rw[ab]at h;cases h
  |some aC=>rw[ab]at h;exact g (Cz (sO _ _ _ _ _ ab)) h
 |inS n l=>
  simp only[iU,pr]at h;split at h
  ·exact g (.err xab) h
  refine g ?_ h;unfold inR;split
  ·exact .err xab
  split
  ·exact .err xab
  exact Cz (kQ _ _ _)
end
section
attribute [local go_sem] eG eE eD
variable {a:Option Addr}{t:List UInt8}
abbrev IB:Obj:=.cells #[.slice none 0 0,.slice none 0 0,.slice none 0 0,.slice none 0 0,.int .i64 0,.int .i64 0,.int .i64 0] 90
theorem Ol(W:World)(I)(aS:I<=W.heap.size):WS (W.alloc IB) W.heap.size I (.slice none 0 0) (.slice none 0 0) (.slice none 0 0) (.slice none 0 0) [] LSt.zero:=by
 have nn:(Value.slice none 0 0).ownBlock=none:=rfl;have bA:Apart (.slice none 0 0) (.slice none 0 0):=λk h=>by rw[nn]at h;cases h
 refine⟨by simp,λo=>?_,?_,?_,?_,?_,?_,?_,?_,yav _ _ _ _,yav _ _ _ _,yav _ _ _ _,yav _ _ _ _,⟨by rw[nn];simp,by rw[nn];simp,by rw[nn];simp,by rw[nn];simp⟩,⟨bA,bA,bA,bA,bA,bA⟩,rfl,λi hi=>by simp at hi,aS⟩
 ·simp[World.frozen?,World.alloc,-World.alloc_eq]
 all_goals (rw[yau];rfl)
def PaO (w:World)(B:Nat)(st:LSt)(e:Ending)(w':World):Prop:=
 ∃z1 z2 z3,e=.returned (.tuple #[.agg #[z1,z2,z3],.int .i64 0,.int .i64 0])/\w'.ownsRow B 3 1 z1 st.ins.length (st.ins.map (Value.int .i64))/\w'.ownsRow B 53 6 z2 st.vs.length (fQ st.vs)/\w'.ownsRow B 3 1 z3 st.outs.length (st.outs.map (Value.int .i64))/\Apart z1 z2/\Apart z1 z3/\Apart z2 z3/\Gd st/\Kept 0 0 w w'
def PaZ (w:World)(B:Nat)(r:Rs LSt)(e:Ending)(w':World):Prop:=match r with
 |.error (c,p)=>PaE w c p e w'
 |.ok st=>PaO w B st e w'
structure Lp2 (W0 W':World)(P B:Nat)(T:List Tok)(f:Nat)(r:Rs LSt)(F i:Nat)(st:LSt)(ss:List Sm)(bs:List Bc)(z1 z2 z3 z4:Value):Prop where
 ws:WS W' P B z1 z2 z3 z4 bs st
 mv:Mv (Mst P (.slice none 0 0) (.slice none 0 0) (.slice none 0 0) (.slice none 0 0)) W0 (Mst P z1 z2 z3 z4) W'
 pg:PGm ss (T.drop F)
 pm:oG f st ss=some r
 gd:Gd st
 nm:NmOK st
 nl:st.names.length<=F
 ns:∀j,F<=j->j<i->(T.getD j hN).sym≠[59]
theorem ym{P b}(h:Mst P (.slice none 0 0) (.slice none 0 0) (.slice none 0 0) (.slice none 0 0) b):b=P:=by
 rcases h with c|c|c|c|c<;>grind [Value.ownBlock]
theorem rP(T:List Tok)(F k):(T.drop F).getD k hN=T.getD (F+k) hN:=by
 simp_all
theorem bT.qcc(h:Zp:=by
 have x:V _:=xH af b0 (jH t).length ck n (jH t) rfl (yan HL.o xab) (λaj=>by obtain⟨g,e,_,R,_⟩:=O aj;exact⟨g,0,e,R⟩);rw[aW.o]at x;have X:V _:=O;have bN:V _:=ao;clear O a7 bP ao aW;obtain⟨T,bd⟩:∃T,T=jH t:=⟨_,rfl⟩
 rw[<-bd]at HL bV bR b6 x X⊢;clear bd;have ci:=HL.o;generalize a6:T.length=m at X x ci⊢;exact qfx):Zp:=h
theorem bT.qfk(h:Zp:=by
 have a5:V (∀W',Kept 0 0 (w.alloc (eY none 0 0 none 0 0 none 0 0)) W'->_):=λW' ap=>Cx w W' ap;have HK:V _:=bl;have aW:V _:=aK;have bV:V (∀K∈jH t,K.sym=iK->Dgs K.text):=λK B R=>NP (zU t _ K B R) (I K B (.inl R));have bR:V _:=I;have b6:V _:=aO;have bT:V _:=cp;clear bl f aK I aO cp;go_enter func29,ntmps29;go_upto_region 1 with fail;change Code.wp _ _ _ _ (w.alloc (eY none 0 0 none 0 0 none 0 0));have bb:V ((w.alloc (eY none 0 0 none 0 0 none 0 0)).heap.size=w.heap.size+1):=by show _=_;simp
 generalize w.alloc (eY none 0 0 none 0 0 none 0 0)=aB at bP a5 HK bb⊢;generalize cf:w.heap.size=bL at a5 bb⊢;exact qcb):Zp:=h
theorem bT.qfy(h:Zp:=by
 have bo:V (0<m->∃g,b0=some ⟨g,0,none⟩/\aB.heap.size<=g/\TkA aX g 0 m T/\m<=ck):=λaj=>by
  exact xlc
 clear x aM X bN;go_wp2_with fail;go_loopw [7] (λaL W'=>∃i:Nat,i<=m/\aL=hI i/\V (Kept 0 0 aX W')) (λaL _=>m-(intOf aL).toNat)
 case atStart=>exact⟨0,Nat.zero_le _,rfl,(show V (Kept 0 0 aX aX) from Kept.refl 0 0 aX)⟩
 case round=>
  obtain⟨i,hi,rfl,aH⟩:=hrel;by_cases aF:i<m
  ·obtain⟨al,bZ,_,bj,_⟩:=bo.o xaa;have aD:=bj.keep aH.o;subst bZ;have ba:=aD.c0 i aF;have aR:=aD.c2 i aF;rw[Nat.zero_add]at ba aR;have bD:V (isN (T.getD i hN)->_):=λh=>bR.o _ (by rw[yah,yal (hU ad.o aF)];exact List.getElem_mem _) h;generalize T.getD i hN=K at ba aR bD;obtain⟨a0,aS,bp⟩:=K;simp only at ba aR bD;clear bj aD;have Z:=Lib.run_convert_string_bytes (P:=prog) wr 9 22 5 ⟨bp.toArray⟩ underlying9 underlying22 underlying5;have bQ:V _:=qN wr 5 bp;have C:V _:=mX wr 5 ⟨bp.toArray⟩;have cc:(⟨bp.toArray⟩:ByteArray).size=bp.length:=rfl;rw[cc]at Z;have o:(convert 9 22 (eN bp)).run prog wr=_:=Z;clear Z cc;cases c1:(a0==[105,110,116])
   ·cases c2:(a0==[100,101,99])
    ·exact xie
    have u:V (kP bp):=bD.o (.inr (eq_of_beq c2));exact xdd
   have u:V (kP bp):=bD.o (.inl (eq_of_beq c1));exact xdd
  obtain rfl:i=m:=xaa;have bX:V _:=aV.o.trans aH.o;go_upto_region 14 with fail;go_upto_region 15 with fail;change Code.wp _ _ _ _ (wr.alloc IB);have aq:V (bL+1<=wr.heap.size):=by show _<=_;rw[<-bb.o];exact bX.o.size
  have am:V _:=Ol wr (bL+1) aq.o;have Q:=ez 0 0 wr IB
  have bw:V (0<i->∃g,b0=some ⟨g,0,none⟩/\bL+1<=g/\g<wr.heap.size/\TkA (wr.alloc IB) g 0 i T/\i<=ck):=λaj=>by
   obtain⟨g,e,B,R,h3⟩:=bo.o aj
   exact⟨g,e,by rw[bb.o]at B;exact B,(R.keep aH.o).lt,(R.keep aH.o).keep Q,h3⟩
  have b1:V _:=bX.o.trans Q;clear Q bo aH bX;generalize wr.alloc IB=W0 at am bw b1⊢;generalize cC:wr.heap.size=P at am bw aq⊢;clear cC;have bF:V (Lp2 W0 W0 P (bL+1) T bB r 0 0 LSt.zero U [] (.slice none 0 0) (.slice none 0 0) (.slice none 0 0) (.slice none 0 0)):=⟨am.o,Mv.refl _ _,by rw[List.drop_zero];exact b6.o,bT.o,KK,KL,yad,λj B R=>by omega⟩
  go_wp2_with fail;go_loopw [11,12] (λcW aL W'=>∃F ch:Nat,F<=i/\ch<=i/\cW=hI F/\aL=hI ch/\V ((∃st U bs aZ be bz bE,F<=ch/\Lp2 W0 W' P (bL+1) T bB r F ch st U bs aZ be bz bE)\/(∃(c:Int) (p:Nat),c≠0/\r=.error (c,p)/\W'.cell? ⟨P,5,none⟩=some (hI c)/\W'.cell? ⟨P,6,none⟩=some (hI p)/\Chg (Mst P (.slice none 0 0) (.slice none 0 0) (.slice none 0 0) (.slice none 0 0)) W0 W'))) (λ_ aL _=>i-(intOf aL).toNat)
  case atStart=>exact⟨0,0,Nat.zero_le _,Nat.zero_le _,rfl,rfl,(show V _ from .inl ⟨_,_,_,_,_,_,_,yad,bF.o⟩)⟩
  case round=>
   obtain⟨F,ch,bu,aA,rfl,rfl,bf⟩:=hrel;clear bF b6 bT am;rcases bf.o with⟨st,U,bs,aZ,be,bz,bE,cF,L⟩|⟨c,p,ai,cq,bx,J,cl⟩
   ·have l:V _:=L;have cI:=L.ws.c5;clear L bf;by_cases aN:ch<i
    ·obtain⟨al,bZ,cD,b5,ce,cH⟩:=bw.o xaa;subst bZ;have y:¬Mst P (.slice none 0 0) (.slice none 0 0) (.slice none 0 0) (.slice none 0 0) al:=λc=>by have:=ym c;omega
     have az:V _:=ce.keepC l.o.mv.chg y;have cg:¬Mst P aZ be bz bE al:=λc=>(l.o.mv.new al c).elim y (λc=>hR ce.lt);have b7:V _:=cg;have ba:=az.o.c0 ch aN;rw[Nat.zero_add]at ba;generalize cu:(T.getD ch hN).sym=a0 at ba;have bv:V _:=cu;clear cu ce y cg;cases c3:(a0==[59])
     ·have cr:∀j,F<=j->j<ch+1->(T.getD j hN).sym≠[59]:=λj B R=>by
       by_cases e:j=ch
       ·subst e
        rw[bv.o]
        intro d
        rw[d]at c3
        simp at c3
       ·exact l.o.ns j B xaa
      have co:V (Lp2 W0 wr P (bL+1) T bB r F (ch+1) st U bs aZ be bz bE):=⟨l.o.ws,l.o.mv,l.o.pg,l.o.pm,l.o.gd,l.o.nm,l.o.nl,cr⟩
      clear cr;go_wp2_with fail;go_roundw
      case rel=>exact⟨F,ch+1,bu,by omega,rfl,by go_num,(show V _ from .inl ⟨st,U,bs,aZ,be,bz,bE,by omega,co.o⟩)⟩
      case measure=>simp[intOf];omega
     have bq:=bv.o.trans (eq_of_beq c3);obtain⟨s,bc,ct,bH,cd⟩:=Lf l.o.pg (k:=ch-F) (by rw[rP,show F+(ch-F)=ch by omega];exact bq) (λj hj=>by rw[rP];exact l.o.ns (F+j) xaa xaa);have b4:=PJ bH;rw[List.length_take]at b4;have cG:F<ch:=xaa;rw[List.drop_drop,show F+(ch-F+1)=ch+1 by omega]at cd;have c8:=l.o.pm;rw[ct]at c8;obtain⟨aC,bK,b2,av⟩:=DU c8;have bO:∀K∈(T.drop F).take (ch-F),K∈T:=λK h=>List.mem_of_mem_drop (List.mem_of_mem_take h);have cj:TrIn wr P (bL+1) aZ be bz bE bs st none 0 [] al (0+F*3) (ch-F) (ck-F) ((T.drop F).take (ch-F)):=⟨l.o.ws,l.o.gd,l.o.nm,Ir _ _,Nat.zero_le _,(λb hb=>by cases hb),az.o.in_ F ch _ rfl xaa,b7.o,by omega,by omega,λK B R=>bV.o K (bO K B) R,λK B R=>bR.o K (bO K B) R⟩
     have N:V _:=Iy cj bH bK;rw[Nat.zero_add]at N;have HE:V _:=b2;have HO:V _:=av;have cx:V _:=Ll bK;have cn:V (∀ax,aC=.ok ax->_):=λax e=>DX l.o.gd l.o.nm (hR l.o.nl) (PI bH (λK B R=>bV.o K (bO K B) R)) (hV e bK);have aJ:V _:=cd;clear cj bK b2 av bH cd c8 bO ct b4 bq;rcases aC with⟨c,p⟩|ax
     ·have aP:V _:=HE.o _ rfl;have cw:V (c≠0):=cx.o c p rfl;go_wp2_with (go_at_call 56;refine yai N.o ?_;rintro e bA ⟨rfl,bi⟩);have aQ:V _:=bi;have cy:V _:=l.o.mv;clear bi N;go_wp2_with fail;go_roundw
      case rel=>exact⟨ch+1,ch+1,by omega,by omega,by go_num,by go_num,(show V _ from .inr ⟨c,p,cw.o,aP.o,aQ.o.1,aQ.o.2.1,cy.o.bad aQ.o.2.2⟩)⟩
      case measure=>simp[intOf];omega
     have sg:=cn.o ax rfl;have aT:V _:=sg;have cz:V _:=HO.o ax rfl;clear sg;go_wp2_with (go_at_call 56;refine yai N.o ?_;rintro e bA ⟨rfl,aw,aU,aY,bW,b9,bC,bn⟩);have co:V (Lp2 W0 bA P (bL+1) T bB r (ch+1) (ch+1) ax bc aw aU aY bW b9):=⟨bC,l.o.mv.trans bn,aJ.o,cz.o,aT.o.g,aT.o.nm,hS aT.o.m l.o.nl,λj B R=>by omega⟩
     clear bC bn N l;go_wp2_with fail;go_roundw
     case rel=>exact⟨ch+1,ch+1,by omega,by omega,by go_num,by go_num,(show V _ from .inl ⟨ax,bc,aw,aU,aY,bW,b9,yad,co.o⟩)⟩
     case measure=>simp[intOf];omega
    obtain rfl:ch=i:=xaa;obtain⟨cB,_⟩:=Lg l.o.pg (λj hj=>by rw[List.length_drop,ad.o]at hj;rw[rP];exact l.o.ns (F+j) xaa xaa)
    have aP:V (r=.ok st):=by
     have h:=l.o.pm;rw[cB,oG]at h;exact(hL h).symm
    have H:V _:=Chg.kept b1.o l.o.mv.chg (λb hb=>by have:=ym hb;have:=aq.o;have:=bb.o;omega);obtain⟨bY,br,ag,fr⟩:=a5.o wr H.o;have bG:=fr 0;have f1:=fr 1;have f2:=fr 2;have bk:=l.o.ws.c0;have a8:=l.o.ws.c1;have p2:=l.o.ws.c2;have an:∀{z:Value}{e s n:Nat}{xs:List Value},wr.ownsRow (bL+1) e s z n xs->z.ownBlock≠some bL:=λay c=>hR ((eI ay c).1)
    have aa:V (Kept 0 0 w (((wr.setCell ⟨bL,0,none⟩ aZ).setCell ⟨bL,1,none⟩ be).setCell ⟨bL,2,none⟩ bz)):=Al (HK.o.trans H.o) (Nat.le_of_eq aI.o) _ _ _;have R1:V _:=eJ (u:=bz) (o:=2) (eJ (u:=be) (o:=1) (eJ (u:=aZ) (o:=0) l.o.ws.r1 (an l.o.ws.r1)) (an l.o.ws.r1)) (an l.o.ws.r1);have R2:V _:=eJ (u:=bz) (o:=2) (eJ (u:=be) (o:=1) (eJ (u:=aZ) (o:=0) l.o.ws.r2 (an l.o.ws.r2)) (an l.o.ws.r2)) (an l.o.ws.r2);have R3:V _:=eJ (u:=bz) (o:=2) (eJ (u:=be) (o:=1) (eJ (u:=aZ) (o:=0) l.o.ws.r3 (an l.o.ws.r3)) (an l.o.ws.r3)) (an l.o.ws.r3);obtain⟨bh,aU,aY⟩:=fj wr bL _ _ _ bY br ag aZ be bz;obtain⟨bI,d1,ae⟩:=ju l.o.ws.r1;obtain⟨bJ,d2,a9⟩:=ju l.o.ws.r2;obtain⟨cb,d3,ak⟩:=ju l.o.ws.r3;have bU:V _:=l.o.ws.ap;have cA:V _:=l.o.gd;clear fr a5 an bw cB H l;subst ae a9 ak;go_wp2_with fail;refine yay (v:=.tuple #[.agg #[.slice bI st.ins.length d1,.slice bJ st.vs.length d2,.slice cb st.outs.length d3],hI 0,hI 0]) (by simp[results,results29,go_sem,bh,aU,aY]) rfl ?_;rw[aP.o,aI.o];exact⟨_,_,_,rfl,R1.o,R2.o,R3.o,bU.o.1,bU.o.2.1,bU.o.2.2.2.1,cA.o,aa.o⟩
   have H:V _:=Chg.kept b1.o cl (λb hb=>by have:=ym hb;have:=aq.o;have:=bb.o;omega);obtain⟨bY,br,ag,fr⟩:=a5.o wr H.o;have bG:=fr 0;have f1:=fr 1;have f2:=fr 2;have ar:=yaw ai;have Y:(c !=0)=true:=by unfold bne;rw[ar];rfl
   have S:bL≠P:=λe=>hR aq.o
   have au:(((wr.drew.setCell ⟨bL,0,none⟩ (.slice none 0 0)).setCell ⟨bL,1,none⟩ (.slice none 0 0)).setCell ⟨bL,2,none⟩ (.slice none 0 0)).cell? ⟨P,5,none⟩=some (hI c):=by
    rw[eO _ _ _ _ _ _ (.inl S),eO _ _ _ _ _ _ (.inl S),eO _ _ _ _ _ _ (.inl S)];exact bx
   have bS:(((wr.drew.setCell ⟨bL,0,none⟩ (.slice none 0 0)).setCell ⟨bL,1,none⟩ (.slice none 0 0)).setCell ⟨bL,2,none⟩ (.slice none 0 0)).cell? ⟨P,6,none⟩=some (hI p):=by
    rw[eO _ _ _ _ _ _ (.inl S),eO _ _ _ _ _ _ (.inl S),eO _ _ _ _ _ _ (.inl S)];exact J
   obtain⟨bh,aU,aY⟩:=fj wr bL _ _ _ bY br ag (.slice none 0 0) (.slice none 0 0) (.slice none 0 0);have bM:(wr.setCell ⟨bL,0,none⟩ (.slice none 0 0)).cell? ⟨bL,0,none⟩=some (.slice none 0 0):=fJ _ _ _ _ _ bY;have aZ:((wr.setCell ⟨bL,0,none⟩ (.slice none 0 0)).setCell ⟨bL,1,none⟩ (.slice none 0 0)).cell? ⟨bL,1,none⟩=some (.slice none 0 0):=fJ _ _ _ _ _ ((eO _ _ _ _ _ _ (.inr xaa)).trans br);have aa:V (Kept 0 0 w (((wr.drew.setCell ⟨bL,0,none⟩ (.slice none 0 0)).setCell ⟨bL,1,none⟩ (.slice none 0 0)).setCell ⟨bL,2,none⟩ (.slice none 0 0))):=Al ((HK.o.trans H.o).trans (eF wr)) (Nat.le_of_eq aI.o) _ _ _;have aP:V _:=cq;clear fr a5 bw cl cq bf S H ai;by_cases aN:ch<i
   ·exact xfx
   exact xfx):Zp:=h
open bT in
theorem EL{w n cap}(f:TxA w a n t)(hn:n<=4000)(G:n<=cap)(aK:fH n (jH t) [iN]=-1)(I:∀K∈jH t,isN K->kP K.text){U bB r}(aO:PGm U (jH t))(cp:oG bB LSt.zero U=some r):Calls prog 29 #[.slice a n cap] w (PaZ w (w.heap.size+1) r):=by
 have bg:¬(4000:Int)<(n:Int):=xaa;exact qfj
theorem bU.qcc(h:Zp:=by
 have x:V _:=xH _ _ _ ck n _ rfl (yan HL.o xab) (λaj=>by obtain⟨g,e,_,R,_⟩:=O aj;exact⟨g,0,e,R⟩);rw[aW.o]at x;have X:V _:=O;have bN:V _:=ao;clear O a7 bP ao aW;obtain⟨T,bd⟩:∃T,T=jH t:=⟨_,rfl⟩
 rw[<-bd]at HL bw aq y cd P x X⊢;have bz:V _:=bd;clear bd;have ci:=HL.o;generalize a6:T.length=m at X x ci bw⊢;have be:=bw.o;exact qfx):Zp:=h
theorem bU.qfk(h:Zp:=by
 have a5:V _:=λW' ap=>Cx w W' ap;have HK:V _:=bl;have aW:V _:=aK;have bw:V _:=be;have aq:V _:=U;have y:V _:=av;have cd:V _:=z
 have P:V (∀j,((jH t).getD j hN).text.length<=4000):=λj=>by
  have B:=JP t j
  have R:=f.len
  omega
 clear bl f aK be U av z;go_enter func29,ntmps29;go_upto_region 1 with fail;change Code.wp _ _ _ _ (w.alloc (eY _ 0 0 _ 0 0 _ 0 0));have bb:V ((w.alloc (eY none 0 0 none 0 0 none 0 0)).heap.size=w.heap.size+1):=by show _=_;simp
 generalize w.alloc _=aB at bP a5 HK bb⊢;generalize cf:w.heap.size=bL at a5 bb⊢;exact qcb):Zp:=h
theorem bU.qfy(h:Zp:=by
 have bo:V (0<m->∃g,b0=some _/\aB.heap.size<=g/\TkA _ g 0 m T/\m<=ck):=λaj=>by
  exact xlc
 clear x aM X bN;go_wp2_with fail;go_loopw [7] (λaL W'=>∃i:Nat,i<=bK/\aL=hI i/\V (Kept 0 0 aX W')) (λaL _=>bK-(intOf aL).toNat)
 case atStart=>exact⟨0,Nat.zero_le _,rfl,(show V _ from hQ)⟩
 case round=>
  obtain⟨i,hi,rfl,aH⟩:=hrel;have aF:i<m:=xaa;obtain⟨al,bZ,cD,bj,_⟩:=bo.o xaa;have aD:=bj.keep aH.o;subst bZ;have ba:=aD.c0 i aF;have aO:=aD.c1 i aF;have aR:=aD.c2 i aF;have bk:V _:=P.o i
  have J:V (∀W',Kept 0 0 _ W'->W'.cell? _=some _):=λW' ap=>by
   have:=(aD.keep ap).c1 i aF
   rw[Nat.zero_add]at this
   exact this
  rw[Nat.zero_add]at ba aO aR;have cu:bL≠al:=λe=>hR bb.o
  have bD:V (isN _->(i<bK/\kP _)\/(i=bK/\Hd _ _)):=λh=>by
   rcases Nat.lt_or_ge i bK with c|c
   ·exact .inl ⟨c,cd.o i c h⟩
   ·have e:i=bK:=xaa
    subst e
    exact .inr ⟨rfl,y.o⟩
  have aJ:V (¬isN _->i<bK):=λh=>by
   rcases Nat.lt_or_ge i bK with c|c
   ·exact c
   ·have e:i=bK:=xaa
    subst e
    exact absurd aq.o h
  have r:V (i=bK->(T.getD _ hN).pos=(T.getD i _).pos):=λe=>by rw[e]
  generalize T.getD i _=K at ba aO aR bD aJ r bk J;obtain⟨a0,aS,bp⟩:=K;simp only at ba aO aR bD r bk J;clear bj aD;have Z:=Lib.run_convert_string_bytes wr 9 22 5 ⟨bp.toArray⟩ underlying9 underlying22 underlying5;have bQ:V _:=qN wr 5 bp;have C:V _:=mX wr 5 ⟨bp.toArray⟩;have cc:(⟨bp.toArray⟩:ByteArray).size=bp.length:=rfl;rw[cc]at Z;have o:(convert 9 _ (eN _)).run _ _=_:=Z;clear Z cc;cases c1:(a0==[105,110,116])
  ·cases c2:(a0==[100,101,99])
   ·have F:i<bK:=aJ.o (λh=>by
     rcases h with h|h
     ·have h':a0=[105,110,116]:=h
      rw[h']at c1;simp at c1
     ·have h':a0=[100,101,99]:=h
      rw[h']at c2;simp at c2)
    exact xie
   have u:V _:=bD.o (.inr (eq_of_beq c2));exact xar
  have u:V _:=bD.o (.inl (eq_of_beq c1));exact xar):Zp:=h
open bU in
theorem EM{w n cap}(f:TxA w a n t)(hn:n<=4000)(G:n<=cap)(aK:fH n (jH t) [iN]=-1){bK b5}(be:bK<(jH t).length)(U:isN ((jH t).getD bK hN))(av:Hd ((jH t).getD bK hN).text b5)(z:∀j,j<bK->isN ((jH t).getD j hN)->kP ((jH t).getD j hN).text):Calls prog 29 #[.slice a n cap] w (PaE w b5 ((jH t).getD bK hN).pos):=by
 have bg:¬4000<(n:Int):=xaa;exact qfj
end
section
theorem Om{x}(h:¬kP x):∃c,Hd x c:=by
 by_cases g:xo (ir x)
 ·refine⟨5,.inr ⟨g,?_,rfl⟩⟩;rcases Nat.lt_or_ge 15 ((ir x).countP dig) with c|c
  ·exact c
  exact absurd ⟨g,c⟩ h
 exact⟨2,.inl ⟨g,rfl⟩⟩
theorem vU(T:List Tok):∀k,k<=T.length->(∀j,j<k->isN (T.getD j hN)->kP (T.getD j hN).text)\/∃i c,i<k/\isN (T.getD i hN)/\Hd (T.getD i hN).text c/\∀j,j<i->isN (T.getD j hN)->kP (T.getD j hN).text
 |0,_=>.inl (λj hj=>by omega)
 |k+1,O=>by
  rcases vU T k xaa with h|⟨i,c,B,R⟩
  ·by_cases hn:isN (T.getD k hN)->kP (T.getD k hN).text
   ·grind
   ·have B:=Classical.not_imp.1 hn
    obtain⟨c,ai⟩:=Om B.2
    grind
  grind
theorem psD(t)(a8:t.length<=4000):∃r:Rs LSt,∀{w:World}{a:Option Addr}{cap:Nat},TxA w a t.length t->t.length<=cap->Calls prog 29 #[.slice a t.length cap] w (PaZ w (w.heap.size+1) r):=by
 rcases sb t.length (jH t) [iN] with S|⟨p,S⟩
 ·rcases vU (jH t) (jH t).length yad with h|⟨i,c,B,R,h3,bQ⟩
  ·have I:∀K∈jH t,isN K->kP K.text:=λK az hn=>by
    obtain⟨j,hj,rfl⟩:=List.getElem_of_mem az
    have:=h j hj
    rw[yah,yal hj]at this
    exact this hn
   obtain⟨U,aO⟩:=Ku S;obtain⟨r,g,aW⟩:=zX U LSt.zero;exact⟨r,λf G=>EL f a8 G S I aO (aW g yad)⟩
  exact⟨.error (c,((jH t).getD i hN).pos),λf G=>EM f a8 G S B R h3 bQ⟩
 exact⟨.error (2,p),λf G=>Am f a8 G S⟩
theorem BA{w g t}(h:YS w (some ⟨g,0,none⟩) t.length (ir t)):TxA w (some ⟨g,0,none⟩) t.length t:=
 ⟨rfl,λhn=>by
  rcases h.at_ with e|⟨aG,off,e,h3,a8⟩
  ·omega
  ·exact⟨aG,off,e,rfl,h3,λk O=>by rw[a8 k O,rn t k O]⟩⟩
