import Derived.Test.YtaheilbiakhlgaaGreatP51
import Derived.Test.YtaheilbiakhlgaaGreatP48
namespace Go.Proofs.Z
variable{Zp:Prop}
open Tryz Go.RowKit Flt
set_option maxRecDepth 1000000
set_option maxHeartbeats 0
section
attribute[local go_sem] eF eE eD
theorem dQ.qep(h:Zp:=by
 clear b2 Y ab;cases ad:iX st.names u with
 |some d=>
  exact qam
 |none=>
  exact qgq):Zp:=h
theorem dQ.qgp(h:Zp:=by
 rw[show(k::n::l::(us++az::q::ts)).getD 0 _=k from rfl]at c0;rw[show(k::n::l::(us++az::q::ts)).getD 1 _=n from rfl]at b2 Y ab;rw[O,show FY=[100,101,102] from rfl]at c0;exact qht):Zp:=h
theorem dQ.qgr(h:Zp:=by
 have bP:V (r=GD st ⟨bR,Z,u⟩ aT e):=by
  have h:=HR.o;rw[ud HFn.o]at h;exact(hJ h).symm
 have bi:V (r=match oL us 0 with|some p=>.error (3,p)|none=>.ok {st with names:=st.names++[.fn u aT e]}):=by
  show _=_;rw[bP.o];unfold GD oL;rw[List.take_zero,List.drop_zero,cl.o];rfl
 clear HR HFn bP;go_upto_region 24 with fail;go_wp2_with fail;go_loopw [11] (λaY W'=>W'=ay/\∃j:Nat,j<=bD/\aY=hF (3+(j:Int))) (λaY _=>3+bD-(intOf aY).toNat)
 case atStart=>exact⟨rfl,0,Nat.zero_le _,rfl⟩
 case round=>
  obtain⟨rfl,j,hj,rfl⟩:=hrel;by_cases aB:j<bD
  ·obtain⟨a7,_,_⟩:=ct.o _ HK.o j aB;have ae:=bm.o j aB;generalize (us.getD j _).sym=aO at a7 ae;have bY:(aO !=[41])=true:=by unfold bne;rw[ae];rfl
   go_wp2_with fail;go_roundw;exact⟨trivial,j+1,by omega,by go_num⟩;simp[intOf];omega
  obtain rfl:j=bD:=xaa;have a7:=bq.o _ HK.o;obtain⟨lo,(am:V _)⟩:∃lo,lo=wr.heap.size:=⟨_,rfl⟩
  have bG:V (TR wr lo _ (noC (us.take 0))):=TR.nil _ _;have ch:V _:=Nat.le_of_eq am.o.symm;have cG:V (∀cJ,lo<=cJ->_):=λcJ cz=>bl.o.ws.far2 (yan HK.o.size (yan ch.o cz));have cH:V (∀(ay W2:World) (v:Value) (s:List _),Kept 0 0 _ _->TR _ _ v s->Chg _ ay W2->_):=λay W2 v s al dv bT=>BD ch.o al dv bT;go_upto_region 27 with fail;clear a7;go_wp2_with fail;go_loopw [12,13] (λe2 aM W'=>∃i:Nat,i<=j/\aM=hF (3+(i:Int))/\V (Kept 0 0 wr W')/\V (TR W' lo e2 (noC (us.take i)))/\V (oL us i=oL us 0)) (λ_ aM _=>3+j-(intOf aM).toNat)
  case atStart=>exact⟨0,Nat.zero_le _,rfl,(show V _ from hN),bG,(show V _ from rfl)⟩
  case round=>
   obtain⟨i,hi,rfl,ar,bh,bE⟩:=hrel;clear bG;have bk:V _:=HK.o.trans ar.o;by_cases aN:i<j
   ·have cd:V _:=λW' al=>ct.o W' al i aN;have bc:V _:=λc=>Bd (hR U.o aN) c;have aL:V _:=λc=>In (hR U.o aN) c;have cX:=am.o;generalize us.getD i _=K at cd bc aL;obtain⟨aG,w,aQ⟩:=K;simp only at cd bc aL;obtain⟨a7,_,_⟩:=cd.o _ bk.o;have cT:V (lo<=wr.heap.size):=by show _<=_;rw[am.o];exact ar.o.size
    clear cX;cases ak:(aG==[44])
    ·obtain⟨e4,cI,bd⟩:=aL.o ak;have cg:V _:=e4;have b5:V _:=cI;have cB:V _:=bd;obtain⟨cD,cQ,bZ⟩:=pl bh.o;subst bZ
     have cK:V ((noC (us.take i)).length<=i):=by
      show _<=_;unfold noC;exact yan (List.length_filter_le _ _) (by rw[List.length_take];omega)
     clear e4 cI bd bc aL;generalize bJ:noC _=B at bh cg b5 cB cK⊢;clear bJ;have ea:=cK.o;go_upto_region 32 with fail;clear a7;go_wp2_with fail;go_loopw [14] (λcA W'=>∃x:Nat,x<=B.length/\cA=hF x/\V (Kept 0 0 wr W')/\V (∀y,y<x->((B.getD y hL).text==aQ)=false)) (λcA _=>B.length-(intOf cA).toNat)
     case atStart=>exact⟨0,Nat.zero_le _,rfl,(show V _ from hN),(show V _ from λy bS=>by omega)⟩
     case round=>
      obtain⟨x,ap,rfl,af,cw⟩:=hrel;have aj:V _:=bk.o.trans af.o;have b4:V _:=ar.o.trans af.o;obtain⟨a7,aK,aP⟩:=cd.o _ aj.o;have bN:V _:=bh.o.keep af.o;have cC:V _:=yan cT.o af.o.size;by_cases cb:x<B.length
      ·obtain⟨cJ,bX,aJ,_,bu,_⟩:=TR.at_ bN.o xaa;cases aJ;have aC:=bu.c2 x cb;rw[Nat.zero_add]at aC;generalize cP:(B.getD x _).text=ci at aC;have bj:V _:=cP;clear cP bu;have cF:V _:=cw.o;have cM:V _:=af.o;go_upto_region 35 with fail;go_quiet (fail)
       have bU:V _:=aj.o.trans (eL 0 0 _ nq);have bf:V _:=cM.o.trans (eL 0 0 _ nq);clear a7 aK aP aC aj af b4 bN cC cM;generalize wr.drewN _=b8 at bU bf⊢;cases ao:(ci==aQ)
       ·have cR:V (∀y,y<x+1->((B.getD y _).text==aQ)=false):=λy bS=>by
         by_cases c:y=x
         ·subst c;rw[bj.o];exact ao
         ·exact cF.o y xaa
        go_wp2_with fail;go_roundw;exact⟨x+1,by omega,by go_num,bf,cR⟩;simp[intOf];omega
       have bg:V (r=.error (3,w)):=by
        have F:B.any (λq=>q.text==aQ)=true:=by
         rw[List.any_eq_true];refine⟨_,?_,hR bj.o ao⟩;rw[yah,yal cb];exact List.getElem_mem _
        show _=_;rw[bi.o,<-bE.o,b5.o F]
       have bp:V _:=jI (bl.o.ws.keep bU.o).c5 (bl.o.ws.keep bU.o).c6 (bl.o.ws.keep bU.o).fr 3 w (Mst P u1 u2 u3 u4) (.inl rfl);obtain⟨_,aK,_⟩:=cd.o _ bU.o;clear cF b5 cB cg;go_wp2_with (go_at_call 102;refine yai bp.o ?_;rintro e bF ⟨rfl,aI⟩);refine yay (v:=.tuple #[]) (by simp[results,results62,go_sem]) rfl ?_;rw[bg.o];exact⟨rfl,aI.c5,aI.c6,(Mv.of bU.o).bad aI.chg⟩
      obtain rfl:x=B.length:=xaa
      have ba:V (oL us (i+1)=oL us 0):=by
       show _=_;rw[cB.o ?_]
       ·exact bE.o
       rw[List.any_eq_false];intro y bS;obtain⟨z,bz,rfl⟩:=List.getElem_of_mem bS;have:=cw.o z bz;rw[yah,yal bz]at this;simpa using this
      have b7:=yI wr ⟨aG,w,aQ⟩ 89;have aZ:=ez 0 0 wr (.cells #[eO aG,hF w,eO aQ] 89);have co:V _:=TR.keep bN.o aZ;have cq:V _:=b4.o.trans aZ;clear bN cw b5 cB bh af aj b4;simp only at b7;go_wp2_with (first|(at_builtin;refine ow _ rfl _ _ rfl _ _ _ (by rfl) co.o _ _ (by rfl) b7 ?c2 ?c3 ?_)|fail)
      case c2=>omega
      case c3=>have:=cC.o;simp;omega
      intro g9 cap9 n9 be bO b1 bV b6;have aA:V _:=cH.o _ _ _ _ cq.o co.o bV;have aa:V _:=b1;rw[<-cg.o]at aa;clear b1 bV b6 bO aZ b7 co cq a7 aK aP;go_wp2_with fail;go_roundw;exact⟨i+1,by omega,by go_num,aA,aa,ba⟩;simp[intOf];omega
    obtain⟨e4,bW⟩:=bc.o ak;have J:V _:=bh.o;rw[<-e4]at J;have ba:V (oL us (i+1)=oL us 0):=by show _=_;rw[bW];exact bE.o
    clear e4 bW bc aL;go_wp2_with fail;go_roundw;exact⟨i+1,by omega,by go_num,ar,J,ba⟩;simp[intOf];omega
   obtain rfl:i=j:=xaa;have J:V _:=bh.o;rw[yao (by rw[U.o];exact yad),cl.o]at J
   have cr:V (r=.ok {st with names:=st.names++[.fn u aT e]}):=by
    have G:oL us i=none:=by
     unfold oL;rw[List.drop_eq_nil_of_le (by rw[U.o];exact yad)];rfl
    show _=_;rw[bi.o,<-bE.o,G]
   clear bh bE bi ct bq bm cl cH;obtain⟨cD,cQ,bZ⟩:=pl J.o
   have cV:V (TkR _ _ cD _ _):=⟨rfl,λai=>by
    obtain⟨cJ,bX,aJ,cz,bu,_⟩:=TR.at_ J.o ai
    rw[bZ]at aJ
    cases aJ
    exact⟨_,0,rfl,cG.o _ cz,bu⟩⟩
   have cS:V _:=cc.o _ bk.o;subst bZ;have cn:V _:=aH.o.keep ar.o;have cp:V (Mv _ W (Mst P u1 u2 u3 u4) _):=Mv.of bk.o;have C:=bl.o.ws.keep bk.o;have ca:=aV.o;have b0:=bl.o.gd;have cU:V _:=bM;clear J cG cc aH bl a9 N aD ar U am ch;obtain⟨bC,bb,bn,bQ,br⟩:=nJ;have b3:=C.c3;have cy:=C.fr 3;have aS:=C.lt;have ce:I<=wr.heap.size:=hO C.sz
   obtain⟨a4,cj,e4⟩:=jJ C.r4;have aR:V (u4.ownBlock≠some P/\u4.ownBlock≠some _):=⟨C.np.2.2.2,λc=>ca (.inr (.inr (.inr (.inr c))))⟩
   exact qib):Zp:=h
theorem dQ.qhu(h:Zp:=by
 have c6:us.length+5<m:=xaa
 have cx:∀j,(k::⟨bR,Z,u⟩::l::(us++az::q::ts)).getD (3+j) _=(us++az::q::ts).getD j hL:=λj=>by
  rw[Nat.add_comm];rfl
 have ct:V (∀W',Kept 0 0 W W'->∀j,j<us.length->W'.cell? _=some _/\W'.cell? _=some _/\W'.cell? _=some _):=λW' al j hj=>by
  have t:=H.tk.keep al
  have a7:=t.c0 (3+j) xaa
  have aK:=t.c1 (3+j) xaa
  have aP:=t.c2 (3+j) xaa
  rw[cx,pq _ _ _ _ hj]at a7 aK aP
  exact⟨a7,aK,aP⟩
 have bq:V (∀W',Kept 0 0 W W'->W'.cell? _=some (eO [41])):=λW' al=>by
  have a7:=(H.tk.keep al).c0 (3+us.length) xaa
  rw[cx,yah,yar yad,Nat.sub_self]at a7
  rw[<-av]
  exact a7
 have bm:V (∀j,j<us.length->((us.getD j hL).sym==[41])=false):=λj hj=>K7 au _ (by
  rw[yah,yal hj]
  exact List.getElem_mem _)
 have cl:V _:=K6 au
 have cc:V (∀W',Kept 0 0 W _->TkR _ W' _ _ _):=λW' al=>by
  have t:=(H.tk.keep al).in_ (3+us.length+2) m ts (by
   rw[show 3+us.length+2=(us.length+2)+3 by omega,List.drop_succ_cons,List.drop_succ_cons,List.drop_succ_cons,List.drop_append,List.drop_eq_nil_of_le xaa,show us.length+2-us.length=2 by omega]
   simp only[List.nil_append,List.drop_succ_cons,List.drop_zero]
   rw[yao xaa]) yad
  exact⟨t.len,λ_=>⟨g,_,rfl,H.tg,t⟩⟩
 have cW:V (TsOK ts):=⟨hO H.m5,λt ht=>H.ti t (by simp[ht]),λt ht=>H.tn t (by simp[ht])⟩
 have bA:V _:=F;have bL:us.length<=5000:=xaa;clear h H O au av F cx;generalize cO:us.length=bD at*;have U:V _:=cO;clear cO aw;go_enter func62,ntmps62;go_upto_region 20 with fail;go_upto_region 21 with fail;change Code.wp _ _ _ _ (W.alloc (.cells #[eO _,.int _ _,eO _] 89));exact qeo):Zp:=h
theorem dQ.qic(h:Zp:=by
 generalize c7:aT.length=c8 at*;clear c7;have cf:IntKind.i64.wrap (3+i+2)=3+i+2:=by rw[IntKind.wrap_i64];omega
 have dd:(3+(i:Int)+2).toNat=3+i+2:=xaa;have dg:(0:Int)<=3+i+2:=xaa;have di:3+(i:Int)+2<=m:=xaa;have c9:¬(cap=3+i+2):=xaa;go_upto_region 38 with fail
 go_region_law
  ((refine step_append_lies _ rfl _ _ _ rfl I 128 _ _ 5 _ underlying93 bb bn bQ br rfl xab _ _ _ (by simp[Act.eval]) (lX aU.o 1 _) _ 1 1 (Bc.cells ⟨_,_,0,_,_,_,_,_,_⟩) (by simp[Act.eval]) rfl (Ij _ _ _) (Oo _) xab (by unfold maxLen;omega) xaa yaf _ rfl ?_;intro g9 cap9 be bv a6 b9 ck;have aW:=lF a6 aS aR.o.1 b3;have bH:=far2 a6 aS aR.o.1 cy;have aq:=lF a6 cu aR.o.2 aX))
 all_goals
  have S:=b9.imp id (λe=>Nat.le_of_eq e.symm)
  have Q:=(ez 0 0 wr (.cells #[eO u,.bool true,hF 0,.slice cD c8 cQ,.slice (some ⟨g,off+(3+i+2)*3,none⟩) (m-(3+i+2)) (cap-(3+i+2))] 128)).trans (eL 0 0 _ 1)
  obtain⟨(o:V _),R⟩:=(bx.o.keep Q).nms_ (d:=.fn u _ e) (n9:=bK+1) (gX a6) (by rw[yak,bw.o];rfl) (by rw[xr,xu];exact bv) S (λmm=>⟨rfl,rfl,cV.o.mv ((Mv.of Q).trans mm),_,bA.o,⟨cW.o,by show m-(3+i+2)<=cap-(3+i+2);have:=cU.o;omega⟩,cS.o.mv ((Mv.of Q).trans mm)⟩)
  have a5:V _:=(cp.o.keep Q).trans R
  clear R S Q bv a6 b9 ck aW bH aq
  go_wp2_with fail
  refine yay (v:=.tuple #[]) (by simp[results,results62,go_sem]) rfl ?_
  rw[cr.o]
  exact⟨rfl,_,_,_,_,_,o.o,a5.o⟩):Zp:=h
open dQ in
theorem zT{f W P I u1 u2 u3 u4 bs st g off m cap k n l az q e aT us ts}(H:TrIn W P I u1 u2 u3 u4 bs st none 0 [] g off m cap (k::n::l::(us++az::q::ts)))(O:k.sym=FY)(au:PPz aT us)(av:az.sym=[41])(F:Pr 2 [e] ts){r}(h:iO f st (.defS n aT e)=some r):
  Calls prog 62 #[hD P,.slice (some ⟨g,off,none⟩) m cap] W (StO W P I u1 u2 u3 u4 r):=by
 have ah:=jl F;have aw:=H.tk.len;simp only[yap,yak]at aw;exact qgo
end
section
variable{s:Sm}{ts:List Tok}
theorem Io{f W P I u1 u2 u3 u4 bs st g off m cap}(H:TrIn W P I u1 u2 u3 u4 bs st none 0 [] g off m cap ts)(aF:PSm s ts){r}(h:iO f st s=some r):
  Calls prog 62 #[hD P,.slice (some ⟨g,off,none⟩) m cap] W (StO W P I u1 u2 u3 u4 r):=by
 cases aF with
 |inS O _ _ ah=>exact K4 H O ah h
 |letS O _ _ F=>exact Ik H O F h
 |rep O hi _ _ F=>exact Ii H O hi F h
 |def0 O _ _ av _ F=>exact zT H O (.inl ⟨rfl,rfl⟩) av F h
 |defS O _ _ au av _ F=>exact zT H O (.inr au) av F h
 |outS O F=>exact Ig H O F h
theorem PD(aF:PSm s ts)(hi:∀t∈ts,t.sym=iE->Dgs t.text):Pg s:=by
 cases aF with
 |inS O _ _ ah=>exact hi _ xac ah
 |letS O _ _ F=>exact jz F (λt ht=>hi t (by simp[ht])) _ xac
 |rep O B _ _ F=>exact⟨hi _ xac B,jz F (λt ht=>hi t (by simp[ht])) _ xac⟩
 |def0 O _ _ av _ F=>exact jz F (λt ht=>hi t (by simp[ht])) _ xac
 |defS O _ _ au av _ F=>exact jz F (λt ht=>hi t (by simp[ht])) _ xac
 |outS O F=>exact jz F (λt ht=>hi t (by simp[ht])) _ xac
theorem PE(aF:PSm s ts):0<ts.length:=by cases aF<;>simp
end
section
attribute[local go_sem] eF eE eD
variable{w:World}{a:Option Addr}{n b cap:Nat}{t:List UInt8}
theorem rU(n):∀(ts:List Tok) (st:List (List UInt8)),fS n ts st=-1\/∃p:Nat,fS n ts st=(p:Int)
 |[],st=>by
  grind[fS]
 |t::ts,st=>by
  rw[fS]
  split
  ·grind
  ·split
   ·exact rU n _ _
   grind
abbrev vF:Value:=eX none 0 0 none 0 0 none 0 0
def PaE(w:World)(c:Int)(p:Nat)(e:Ending)(w':World):Prop:=e=.returned (.tuple #[vF,.int .i64 c,.int .i64 (p:Int)])/\Kept 0 0 w w'
theorem Ip(w a cap):Calls prog 98 #[.slice a 0 cap,hF 0] w λe J=>e=.returned (hF 0)/\J=w:=by
 go_enter func98,ntmps98;go_wp2_with fail;go_loopw [1] (λaM W'=>W'=w/\aM=hF 0) (λ_ _=>0)
 case atStart=>grind
 case round=>
  obtain⟨rfl,rfl⟩:=hrel;go_wp2_with fail;go_ret;exact⟨rfl,rfl⟩
theorem Be(w a cap):Calls prog 59 #[.slice a 0 cap] w λe J=>e=.returned (.slice none 0 0)/\J=w:=by
 have au:V _:=Ip w a cap;go_enter func59,ntmps59;go_wp2_with (go_at_call 98;refine yai au.o ?_;rintro e ag ⟨rfl,X⟩;obtain rfl:=X.symm);go_loopw [3,4] (λZ aM W'=>W'=w/\aM=hF 0/\Z=.slice none 0 0) (λ_ _ _=>0)
 case atStart=>grind
 case round=>
  obtain⟨rfl,rfl,rfl⟩:=hrel;go_wp2_with fail;go_ret;exact⟨rfl,rfl⟩
theorem pW(f:TxA w a n t)(hn:n<=100000)(ax:n<=cap):Calls prog 59 #[.slice a n cap] w λe J=>∃v,e=.returned v/\TR J w.heap.size v (jE t)/\Kept 0 0 w J:=by
 rcases Nat.eq_zero_or_pos n with ai|ai
 ·subst ai;have ht:=List.length_eq_zero_iff.1 f.len;subst ht;refine yai (Be w a _) (λe J h=>?_);grind[List.length_eq_zero_iff,qw,TR.nil,Kept.refl]
 obtain⟨g,off,rfl,B⟩:=f.at_ ai;exact FK w g _ n _ t B hn ax
theorem rG{W o v}(k:Kept 0 0 w W)(hb:w.heap.size<=b):Kept 0 0 w (W.setCell ⟨b,o,none⟩ v):=
 ⟨k.os,k.tape,k.output,by simpa using k.size,λj hj hn=>(Below.heap_setCell W ⟨b,o,none⟩ v j (λe=>by grind)).trans (k.block j hj hn)⟩
theorem zU{W}(k:Kept 0 0 w W)(hb:w.heap.size<=b)(ba bc z):Kept 0 0 w (((W.setCell ⟨b,0,none⟩ ba).setCell ⟨b,1,none⟩ bc).setCell ⟨b,2,none⟩ z):=rG (rG (rG k hb) hb) hb
theorem Ch(w W':World)(al:Kept 0 0 (w.alloc (eZ none 0 0 none 0 0 none 0 0)) W'):W'.cell? ⟨w.heap.size,0,none⟩=some (.slice none 0 0)/\W'.cell? ⟨w.heap.size,1,none⟩=some (.slice none 0 0)/\W'.cell? ⟨w.heap.size,2,none⟩=some (.slice none 0 0)/\∀o,W'.frozen? ⟨w.heap.size,o,none⟩=false:=by
 have aB:w.heap.size<(w.alloc (eZ none 0 0 none 0 0 none 0 0)).heap.size:=by simp
 refine⟨(al.cell aB xaa).trans ?_,(al.cell aB xaa).trans ?_,(al.cell aB xaa).trans ?_,λo=>(al.frozen aB xaa).trans ?_⟩
 ·rw[yau];rfl
 ·rw[yau];rfl
 ·rw[yau];rfl
 simp_all
theorem TR.slice{W I v ts}(f:TR W I v ts):∃bz cr,v=.slice bz ts.length cr/\(0<ts.length->∃g,bz=some ⟨g,0,none⟩/\I<=g/\TkA W g 0 ts.length ts/\ts.length<=cr):=by
 obtain⟨bz,cr,e⟩:=pl f;refine⟨_,_,e,λai=>?_⟩;obtain⟨g,cap,a0,B,U,h3⟩:=f.at_ ai;grind
theorem cB.qci(h:Zp:=by
 have x:V _:=xg ag bz (jE t).length cr n (jE t) rfl HL.o (λai=>by obtain⟨g,e,_,U,_⟩:=O ai;exact⟨g,0,e,U⟩);rw[aQ.o]at x;have bN:V _:=an;clear O be ba an;generalize (jE t).length=m at*;go_upto_region 6 with (go_at_call 60;refine yai x.o ?_;rintro e a8 ⟨rfl,aJ⟩);obtain⟨c0,c1,c2,fr⟩:=bk.o a8 (bN.o.trans aJ);have bH:=fr 0;have f1:=fr 1;have f2:=fr 2;obtain⟨bd,aR,aV⟩:=fg a8 bI _ _ _ c0 c1 c2 (.slice none 0 0) (.slice none 0 0) (.slice none 0 0);have R:V (Kept 0 0 w (((a8.setCell ⟨bI,0,none⟩ (.slice none 0 0)).setCell ⟨bI,1,none⟩ (.slice none 0 0)).setCell ⟨bI,2,none⟩ (.slice none 0 0))):=zU ((HK.o.trans bN.o).trans aJ) (Nat.le_of_eq bc.o) _ _ _;clear fr bk x HK bN aJ aQ;go_wp2_with fail;refine yay (v:=.tuple #[vF,hF 2,hF p]) (by simp[results,results34,go_sem,bd,aR,aV]) rfl ?_;exact⟨rfl,R.o⟩):Zp:=h
open cB in
theorem zV(f:TxA w a n t)(hn:n<=4000)(ax:n<=cap){p:Nat}(aF:fS n (jE t) [iH]=(p:Int)):Calls prog 34 #[.slice a n cap] w (PaE w 2 p):=by
 have br:¬(4000:Int)<(n:Int):=xaa;have aZ:=ez 0 0 w (eZ none 0 0 none 0 0 none 0 0);have ba:V _:=pW (f.keep aZ) xaa ax;have HL:V ((jE t).length<=5000):=by show _<=_;have:=qw t;have:=f.len;omega
 have bk:V (∀W',Kept 0 0 (w.alloc (eZ none 0 0 none 0 0 none 0 0)) W'->W'.cell? ⟨w.heap.size,0,none⟩=some (.slice none 0 0)/\W'.cell? ⟨w.heap.size,1,none⟩=some (.slice none 0 0)/\W'.cell? ⟨w.heap.size,2,none⟩=some (.slice none 0 0)/\∀o,W'.frozen? ⟨w.heap.size,o,none⟩=false):=λW' al=>by
  have aB:w.heap.size<(w.alloc (eZ none 0 0 none 0 0 none 0 0)).heap.size:=by simp
  refine⟨(al.cell (p:=⟨w.heap.size,0,none⟩) aB xaa).trans ?_,(al.cell (p:=⟨w.heap.size,1,none⟩) aB xaa).trans ?_,(al.cell (p:=⟨w.heap.size,2,none⟩) aB xaa).trans ?_,λo=>(al.frozen (p:=⟨w.heap.size,o,none⟩) aB xaa).trans ?_⟩
  ·rw[yau];rfl
  ·rw[yau];rfl
  ·rw[yau];rfl
  ·simp[World.frozen?,World.alloc,-World.alloc_eq]
 have HK:V _:=aZ;have aQ:V _:=aF;have aa:0<=(p:Int):=xaa;clear aZ f aF;go_enter func34,ntmps34;go_upto_region 1 with fail;change Code.wp _ _ _ _ (w.alloc (eZ none 0 0 none 0 0 none 0 0));generalize w.alloc (eZ none 0 0 none 0 0 none 0 0)=aG at ba bk HK⊢;generalize cu:w.heap.size=bI at bk⊢;exact qch
end
section
variable{aa:List Sm}{r:Rs (LSt×Nat)}{ts:List Tok}
theorem K8(h:PGm aa ts){k}(O:(ts.getD k hL).sym=[59])(hb:∀j,j<k->(ts.getD j hL).sym≠[59]):∃s au,aa=s::au/\PSm s (ts.take k)/\PGm au (ts.drop (k+1)):=by
 cases h with
 |nil=>simp_all[hL]
 |cons ae ak aQ=>
  rename_i s au ts us c;rcases Nat.lt_trichotomy k ts.length with aB|rfl|aB
  ·exfalso;rw[pq _ _ _ _ aB]at O;exact JM ae _ (by simp_all) O
  ·refine⟨s,_,rfl,?_,?_⟩
   ·simp_all
   simp_all
  grind
theorem K9(h:PGm aa ts)(hb:∀j,j<ts.length->(ts.getD j hL).sym≠[59]):aa=[]/\ts=[]:=by
 cases h with
 |nil=>grind
 |cons ae ak aQ=>
  rename_i s au ts us c;exfalso;refine hb ts.length xac ?_;simp_all
def EC{α:Type}(r:Rs α):Prop:=∀c p,r=.error (c,p)->c≠0
theorem EC.ok{B x}:EC (.ok x:Rs B):=λc p h=>by cases h
theorem EC.err{B c p}(h:c≠0):EC (.error (c,p):Rs B):=λy f e=>by grind
theorem kR(st v p):EC (gh st v p):=by
 unfold gh;split
 ·exact .err xab
 exact .ok
theorem xS(n p):∀(xs:List Nat) (st:LSt),EC (iL n p st xs)
 |[],st=>by rw[iL];exact .ok
 |i::r,st=>by
  rw[iL]
  split
  ·cases aF:gh st (eK 10 n (i:Int) 0 0) p with
   |error q=>obtain⟨c,f⟩:=q;exact .err (kR _ _ _ c _ aF)
   |ok y=>
    obtain⟨aq,j⟩:=y
    simp only
    cases a9:iL n p aq r with
    |error q=>obtain⟨c,f⟩:=q;exact .err (xS n p r _ c _ a9)
    |ok y=>exact .ok
  ·cases a9:iL n p st r with
   |error q=>obtain⟨c,f⟩:=q;exact .err (xS n p r _ c _ a9)
   |ok y=>exact .ok
theorem Bf(st xs p):EC (kj st xs p):=by
 unfold kj;split
 ·exact xS _ _ _ _
 exact .err xab
theorem rH(st m p):EC (iQ st m p):=by
 unfold iQ;split
 ·exact .err xab
 exact .ok
theorem Oq(st o a b):EC (qG st o a b):=by
 unfold qG;cases a9:kj st [a,b] o.pos with
 |error q=>obtain⟨c,f⟩:=q;exact .err (Bf _ _ _ c _ a9)
 |ok y=>exact kR _ _ _
theorem La(st k a b):EC (qH st k a b):=by
 unfold qH;cases a9:kj st [a,b] k.pos with
 |error q=>obtain⟨c,f⟩:=q;exact .err (Bf _ _ _ c _ a9)
 |ok y=>
  simp only;split
  ·exact kR _ _ _
  cases aF:gh y.1 (eK 4 (fe y.1 (y.2.getD 0 0)) (y.2.getD 0 0:Nat) (y.2.getD 1 0:Nat) 0) k.pos with
  |error q=>grind[kR]
  |ok z=>exact kR _ _ _
theorem Ot(st k a b c):EC (xq st k a b c):=by
 unfold xq;cases a9:kj st [a,b,c] k.pos with
 |error q=>obtain⟨c,f⟩:=q;exact .err (Bf _ _ _ c _ a9)
 |ok y=>exact kR _ _ _
theorem Ep(st k a n):EC (mo st k a n):=by
 unfold mo;split
 ·split
  ·exact .err xab
  exact kR _ _ _
 exact xjn
theorem Er(st k a i n):EC (mq st k a i n):=by
 unfold mq;split
 ·exact .err xab
 exact xjn
theorem Lb(st k a x):EC (pA st k a x):=by
 unfold pA;split
 ·exact .err xab
 exact rH _ _ _
theorem Ou(st k a x d):EC (pM st k a x d):=by
 unfold pM;split
 ·cases aF:gh st (eK 10 (fe st x) (d:Int) 0 0) k.pos with
  |error q=>grind[kR]
  |ok y=>exact rH _ _ _
 split
 ·exact .err xab
 exact rH _ _ _
theorem ue(st)(u:Loc)(t):EC (fJ st u t):=by
 unfold fJ;split
 ·exact .ok
 split
 ·exact .ok
 exact .err xab
theorem lU{a p}(B:∀r,a=some r->EC r)(U:∀s x,∀r,p s x=some r->EC r):∀r,jH a p=some r->EC r:=λr h=>by
 cases F:a with
 |none=>rw[F]at h;cases h
 |some az=>
  rw[F]at h
  rcases az with q|⟨s,x⟩
  ·cases h<;>grind
  ·exact U s x r h
theorem Ci{p}(aF:∀s e r,p s e=some r->EC r):∀(es:List Ex) (st:LSt) (r:Rs (LSt×List Nat)),gz p st es=some r->EC r
 |[],st,r,h=>by rw[gz]at h;cases h;exact .ok
 |e::es,st,r,h=>by
  rw[gz]at h
  cases B:p st e with
  |none=>grind
  |some az=>
   rw[B]at h
   rcases az with aK|⟨aq,x⟩
   ·cases h;exact λc p C=>aF _ _ _ B c p (by cases C;rfl)
   ·simp only at h
    cases U:gz p aq es with
    |none=>grind
    |some aZ=>
     rw[U]at h
     rcases aZ with aP|⟨aN,bc⟩
     ·cases h;exact λc p C=>Ci aF _ _ _ U c p (by cases C;rfl)
     ·cases h;exact .ok
theorem sw:∀(f:Nat) (st:LSt) (u:Loc) (e:Ex) (r:Rs (LSt×Nat)),eP f st u e=some r->EC r
 |0,st,u,e,r,h=>by rw[eP]at h;cases h
 |f+1,st,u,e,r,h=>by
  have al:∀st u e r,eP f st u e=some r->_:=λst u e r h=>sw f _ _ e r h
  have g:∀{a r:Rs (LSt×Nat)},EC a->some a=some r->_:=λh e=>by cases e;exact h
  cases e with
  |num t=>rw[eP]at h;exact g (kR _ _ _) h
  |name t=>
   rw[eP]at h
   cases aM:fJ st u t with
   |error q=>rw[aM]at h;obtain⟨c,p⟩:=q;exact g (.err (ue _ _ _ c p aM)) h
   |ok v=>rw[aM]at h;exact g .ok h
  |neg o a=>grind[eP,lU,kR]
  |bin o a b=>grind[eP,lU,Oq]
  |call t es=>
   rw[eP]at h
   split at h
   ·split at h
    ·split at h
     ·cases h
     ·rename_i q F
      exact λc p C=>Ci (λs e r h=>al s _ e r h) _ _ _ F c p (by cases h;cases C;rfl)
     ·split at h
      ·exact g (.err xab) h
      ·exact al _ _ _ r h
    ·exact g (.err xab) h
   ·exact g (.err xab) h
  |key1 k a=>
   grind[eP,lU,kR]
  |key2 k a b=>grind[eP,lU,La]
  |key3 k a b c=>grind[eP,lU,Ot]
  |keyN k a n=>grind[eP,lU,Ep]
  |put k a i n=>rw[eP]at h;exact lU (λr h=>al _ _ _ r h) (λs x r h=>g (Er _ _ _ _ _) h) r h
  |grad k a x=>
   rw[eP]at h
   cases aM:fJ st u x with
   |error q=>rw[aM]at h;obtain⟨c,p⟩:=q;exact g (.err (ue _ _ _ c p aM)) h
   |ok v=>rw[aM]at h;exact lU (λr h=>al _ _ _ r h) (λs x r h=>g (Lb _ _ _ _) h) r h
  |jvp k a x d=>
   rw[eP]at h
   cases aM:fJ st u x with
   |error q=>rw[aM]at h;obtain⟨c,p⟩:=q;exact g (.err (ue _ _ _ c p aM)) h
   |ok v=>grind[lU,Ou]
theorem Iq{f e i s}:∀(k:Nat) (st:LSt) (r:Rs LSt),nT f e i s k st=some r->EC r
 |0,st,r,h=>by rw[nT]at h;cases h;exact .ok
 |k+1,st,r,h=>by
  rw[nT]at h
  split at h
  ·cases h
  ·rename_i q ad
   cases h
   exact λc p C=>sw _ _ _ _ _ ad c p (by cases C;rfl)
  ·exact Iq k _ r h
theorem Cj{s}(h:EC r):EC (qK s r):=by
 exact xlb
theorem Lc(h:EC r):EC (NA r):=by
 exact xlb
theorem Ld{f st s r}(h:iO f st s=some r):EC r:=by
 have g:∀{a r:Rs LSt},EC a->some a=some r->_:=λh e=>by cases e;exact h
 cases s with
 |outS k e=>
  simp only[iO]at h;split at h
  ·exact g (.err xab) h
  cases ad:eP f st [] e with
  |none=>rw[ad]at h;cases h
  |some az=>rw[ad]at h;exact g (Lc (sw _ _ _ _ _ ad)) h
 |rep i n e=>
  simp only[iO]at h;split at h
  ·split at h
   ·exact g (.err xab) h
   exact Iq _ _ r h
  exact g (.err xab) h
 |defS n aT e=>
  simp only[iO,pt]at h;split at h
  ·exact g (.err xab) h
  refine g ?_ h;unfold GD;split
  ·exact .err xab
  exact .ok
 |letS n e=>
  simp only[iO,pt]at h;split at h
  ·exact g (.err xab) h
  cases ad:eP f st [] e with
  |none=>rw[ad]at h;cases h
  |some az=>rw[ad]at h;exact g (Cj (sw _ _ _ _ _ ad)) h
 |inS n l=>
  simp only[iO,pt]at h;split at h
  ·exact g (.err xab) h
  refine g ?_ h;unfold inR;split
  ·exact .err xab
  split
  ·exact .err xab
  exact Cj (kR _ _ _)
end
section
attribute[local go_sem] eF eE eD
variable{a:Option Addr}{t:List UInt8}
abbrev Ir:Obj:=.cells #[.slice none 0 0,.slice none 0 0,.slice none 0 0,.slice none 0 0,.int .i64 0,.int .i64 0,.int .i64 0] 95
theorem Ov(W:World)(I)(aT:I<=W.heap.size):WS (W.alloc Ir) W.heap.size I (.slice none 0 0) (.slice none 0 0) (.slice none 0 0) (.slice none 0 0) [] LSt.zero:=by
 have nn:(Value.slice none 0 0).ownBlock=none:=rfl;have aP:Apart (.slice none 0 0) (.slice none 0 0):=λk h=>by rw[nn]at h;cases h
 refine⟨by simp,λo=>?_,?_,?_,?_,?_,?_,?_,?_,yav _ _ _ _,yav _ _ _ _,yav _ _ _ _,yav _ _ _ _,⟨by rw[nn];simp,by rw[nn];simp,by rw[nn];simp,by rw[nn];simp⟩,⟨aP,aP,aP,aP,aP,aP⟩,rfl,λi hi=>by simp at hi,aT⟩
 ·simp[World.frozen?,World.alloc,-World.alloc_eq]
 all_goals (rw[yau];rfl)
def PaO(w:World)(B:Nat)(st:LSt)(e:Ending)(w':World):Prop:=
 ∃z1 z2 z3,e=.returned (.tuple #[.agg #[z1,z2,z3],.int .i64 0,.int .i64 0])/\w'.ownsRow B 3 1 z1 st.ins.length (st.ins.map (Value.int .i64))/\w'.ownsRow B 40 6 z2 st.vs.length (fW st.vs)/\w'.ownsRow B 3 1 z3 st.outs.length (st.outs.map (Value.int .i64))/\Apart z1 z2/\Apart z1 z3/\Apart z2 z3/\Gd st/\Kept 0 0 w w'
def PaZ(w:World)(B:Nat)(r:Rs LSt)(e:Ending)(w':World):Prop:=match r with
 |.error (c,p)=>PaE w c p e w'
 |.ok st=>PaO w B st e w'
structure Lp2(W0 W':World)(P B:Nat)(T:List Tok)(f:Nat)(r:Rs LSt)(F i:Nat)(st:LSt)(ss:List Sm)(bs:List Bc)(z1 z2 z3 z4:Value):Prop where
 ws:WS W' P B z1 z2 z3 z4 bs st
 mv:Mv (Mst P (.slice none 0 0) (.slice none 0 0) (.slice none 0 0) (.slice none 0 0)) W0 (Mst P z1 z2 z3 z4) W'
 pg:PGm ss (T.drop F)
 pm:oG f st ss=some r
 gd:Gd st
 nm:NmOK st
 nl:st.names.length<=F
 ns:∀j,F<=j->j<i->(T.getD j hL).sym≠[59]
theorem xT{P b}(h:Mst P (.slice none 0 0) (.slice none 0 0) (.slice none 0 0) (.slice none 0 0) b):b=P:=by
 rcases h with c|c|c|c|c<;>grind[Value.ownBlock]
theorem rI(T:List Tok)(F k):(T.drop F).getD k hL=T.getD (F+k) hL:=by
 simp_all
theorem cC.qci(h:Zp:=by
 have x:V _:=xg ag bz (jE t).length cr n (jE t) rfl (yan HL.o xab) (λai=>by obtain⟨g,e,_,U,_⟩:=O ai;exact⟨g,0,e,U⟩);rw[aQ.o]at x;have ap:V _:=O;have bN:V _:=an;clear O be ba an aQ;obtain⟨T,bl⟩:∃T,T=jE t:=⟨_,rfl⟩
 rw[<-bl]at HL bU bO b5 x ap⊢;clear bl;have ca:=HL.o;generalize a6:T.length=m at ap x ca⊢;exact qgg):Zp:=h
theorem cC.qfv(h:Zp:=by
 have bk:V (∀W',Kept 0 0 (w.alloc (eZ none 0 0 none 0 0 none 0 0)) W'->_):=λW' al=>Ch w W' al;have HK:V _:=aZ;have aQ:V _:=aF;have bU:V (∀K∈jE t,K.sym=iE->Dgs K.text):=λK B U=>NB (ze t _ K B U) (I K B (.inl U));have bO:V _:=I;have b5:V _:=aH;have bA:V _:=cf;clear aZ f aF I aH cf;go_enter func34,ntmps34;go_upto_region 1 with fail;change Code.wp _ _ _ _ (w.alloc (eZ none 0 0 none 0 0 none 0 0));have a9:V ((w.alloc (eZ none 0 0 none 0 0 none 0 0)).heap.size=w.heap.size+1):=by show _=_;simp
 generalize w.alloc (eZ none 0 0 none 0 0 none 0 0)=aG at ba bk HK a9⊢;generalize cu:w.heap.size=bI at bk a9⊢;exact qch):Zp:=h
theorem cC.qgh(h:Zp:=by
 have bn:V (0<m->∃g,bz=some ⟨g,0,none⟩/\aG.heap.size<=g/\TkA a8 g 0 m T/\m<=cr):=λai=>by
  exact xkw
 clear x aJ ap bN;go_wp2_with fail;go_loopw [7] (λaM W'=>∃i:Nat,i<=m/\aM=hF i/\V (Kept 0 0 a8 W')) (λaM _=>m-(intOf aM).toNat)
 case atStart=>exact⟨0,Nat.zero_le _,rfl,(show V (Kept 0 0 a8 a8) from Kept.refl 0 0 a8)⟩
 case round=>
  obtain⟨i,hi,rfl,ar⟩:=hrel;by_cases aB:i<m
  ·obtain⟨aX,bo,_,bu,_⟩:=bn.o xaa;have a2:=bu.keep ar.o;subst bo;have a7:=a2.c0 i aB;have aP:=a2.c2 i aB;rw[Nat.zero_add]at a7 aP;have bw:V (isN (T.getD i hL)->_):=λh=>bO.o _ (by rw[yah,yal (hR ae.o aB)];exact List.getElem_mem _) h;generalize T.getD i hL=K at a7 aP bw;obtain⟨aO,aT,bv⟩:=K;simp only at a7 aP bw;clear bu a2;have G:=Lib.run_convert_string_bytes (P:=prog) wr 9 22 5 ⟨bv.toArray⟩ underlying9 underlying22 underlying5;have bV:V _:=qL wr 5 bv;have C:V _:=nf wr 5 ⟨bv.toArray⟩;have b4:(⟨bv.toArray⟩:ByteArray).size=bv.length:=rfl;rw[b4]at G;have o:(convert 9 22 (eO bv)).run prog wr=_:=G;clear G b4;cases c1:(aO==[105,110,116])
   ·cases c2:(aO==[100,101,99])
    ·exact xhz
    have u:V (kN bv):=bw.o (.inr (eq_of_beq c2));exact xda
   have u:V (kN bv):=bw.o (.inl (eq_of_beq c1));exact xda
  obtain rfl:i=m:=xaa;have b0:V _:=bX.o.trans ar.o;go_upto_region 14 with fail;go_upto_region 15 with fail;change Code.wp _ _ _ _ (wr.alloc Ir);have aI:V (bI+1<=wr.heap.size):=by show _<=_;rw[<-a9.o];exact b0.o.size
  have aU:V _:=Ov wr (bI+1) aI.o;have bS:=ez 0 0 wr Ir
  have ay:V (0<i->∃g,bz=some ⟨g,0,none⟩/\bI+1<=g/\g<wr.heap.size/\TkA (wr.alloc Ir) g 0 i T/\i<=cr):=λai=>by
   obtain⟨g,e,B,U,h3⟩:=bn.o ai
   exact⟨g,e,by rw[a9.o]at B;exact B,(U.keep ar.o).lt,(U.keep ar.o).keep bS,h3⟩
  have b1:V _:=b0.o.trans bS;clear bS bn ar b0;generalize wr.alloc Ir=W0 at aU ay b1⊢;generalize cw:wr.heap.size=P at aU ay aI⊢;clear cw;have bp:V (Lp2 W0 W0 P (bI+1) T aD r 0 0 LSt.zero aa [] (.slice none 0 0) (.slice none 0 0) (.slice none 0 0) (.slice none 0 0)):=⟨aU.o,Mv.refl _ _,by rw[List.drop_zero];exact b5.o,bA.o,Kg,Kh,yad,λj B U=>by omega⟩
  go_wp2_with fail;go_loopw [11,12] (λc7 aM W'=>∃F ck:Nat,F<=i/\ck<=i/\c7=hF F/\aM=hF ck/\V ((∃st aa bs aS bb bq bD,F<=ck/\Lp2 W0 W' P (bI+1) T aD r F ck st aa bs aS bb bq bD)\/(∃(c:Int) (p:Nat),c≠0/\r=.error (c,p)/\W'.cell? ⟨P,5,none⟩=some (hF c)/\W'.cell? ⟨P,6,none⟩=some (hF p)/\Chg (Mst P (.slice none 0 0) (.slice none 0 0) (.slice none 0 0) (.slice none 0 0)) W0 W'))) (λ_ aM _=>i-(intOf aM).toNat)
  case atStart=>exact⟨0,0,Nat.zero_le _,Nat.zero_le _,rfl,rfl,(show V _ from .inl ⟨_,_,_,_,_,_,_,yad,bp.o⟩)⟩
  case round=>
   obtain⟨F,ck,bx,bf,rfl,rfl,aY⟩:=hrel;clear bp b5 bA aU;rcases aY.o with⟨st,aa,bs,aS,bb,bq,bD,cA,L⟩|⟨c,p,ak,ch,bW,J,cd⟩
   ·have l:V _:=L;have cF:=L.ws.c5;clear L aY;by_cases aN:ck<i
    ·obtain⟨aX,bo,cz,cg,b9,cD⟩:=ay.o xaa;subst bo;have N:¬Mst P (.slice none 0 0) (.slice none 0 0) (.slice none 0 0) (.slice none 0 0) aX:=λc=>by have:=xT c;omega
     have Y:V _:=b9.keepC l.o.mv.chg N;have ed:¬Mst P aS bb bq bD aX:=λc=>(l.o.mv.new aX c).elim N (λc=>hO b9.lt);have bQ:V _:=ed;have a7:=Y.o.c0 ck aN;rw[Nat.zero_add]at a7;generalize cl:(T.getD ck hL).sym=aO at a7;have bm:V _:=cl;clear cl b9 N ed;cases c3:(aO==[59])
     ·have cx:∀j,F<=j->j<ck+1->(T.getD j hL).sym≠[59]:=λj B U=>by
       by_cases e:j=ck
       ·subst e
        rw[bm.o]
        intro d
        rw[d]at c3
        simp at c3
       ·exact l.o.ns j B xaa
      have cn:V (Lp2 W0 wr P (bI+1) T aD r F (ck+1) st aa bs aS bb bq bD):=⟨l.o.ws,l.o.mv,l.o.pg,l.o.pm,l.o.gd,l.o.nm,l.o.nl,cx⟩
      clear cx;go_wp2_with fail;go_roundw;exact⟨F,ck+1,bx,by omega,rfl,by go_num,(show V _ from .inl ⟨st,aa,bs,aS,bb,bq,bD,by omega,cn.o⟩)⟩;simp[intOf];omega
     have aW:=bm.o.trans (eq_of_beq c3);obtain⟨s,au,ci,aK,b7⟩:=K8 l.o.pg (k:=ck-F) (by rw[rI,show F+(ck-F)=ck by omega];exact aW) (λj hj=>by rw[rI];exact l.o.ns (F+j) xaa xaa);have b8:=PE aK;rw[List.length_take]at b8;have cB:F<ck:=xaa;rw[List.drop_drop,show F+(ck-F+1)=ck+1 by omega]at b7;have cV:=l.o.pm;rw[ci]at cV;obtain⟨az,bB,b3,y⟩:=Dj cV;have bC:∀K∈(T.drop F).take (ck-F),K∈T:=λK h=>List.mem_of_mem_drop (List.mem_of_mem_take h);have cc:TrIn wr P (bI+1) aS bb bq bD bs st none 0 [] aX (0+F*3) (ck-F) (cr-F) ((T.drop F).take (ck-F)):=⟨l.o.ws,l.o.gd,l.o.nm,Ih _ _,Nat.zero_le _,(λb hb=>by cases hb),Y.o.in_ F ck _ rfl xaa,bQ.o,by omega,by omega,λK B U=>bU.o K (bC K B) U,λK B U=>bO.o K (bC K B) U⟩
     have S:V _:=Io cc aK bB;rw[Nat.zero_add]at S;have HE:V _:=b3;have HO:V _:=y;have cp:V _:=Ld bB;have cb:V (∀aq,az=.ok aq->_):=λaq e=>Dm l.o.gd l.o.nm (hO l.o.nl) (PD aK (λK B U=>bU.o K (bC K B) U)) (hS e bB);have aw:V _:=b7;clear cc bB b3 y aK b7 cV bC ci b8 aW;rcases az with⟨c,p⟩|aq
     ·have bg:V _:=HE.o _ rfl;have co:V (c≠0):=cp.o c p rfl;go_wp2_with (go_at_call 62;refine yai S.o ?_;rintro e bF ⟨rfl,bh⟩);have aL:V _:=bh;have cq:V _:=l.o.mv;clear bh S;go_wp2_with fail;go_roundw;exact⟨ck+1,ck+1,by omega,by omega,by go_num,by go_num,(show V _ from .inr ⟨c,p,co.o,bg.o,aL.o.1,aL.o.2.1,cq.o.bad aL.o.2.2⟩)⟩;simp[intOf];omega
     have sg:=cb.o aq rfl;have ao:V _:=sg;have ct:V _:=HO.o aq rfl;clear sg;go_wp2_with (go_at_call 62;refine yai S.o ?_;rintro e bF ⟨rfl,Q,aR,aV,bY,ce,b2,bK⟩);have cn:V (Lp2 W0 bF P (bI+1) T aD r (ck+1) (ck+1) aq au Q aR aV bY ce):=⟨b2,l.o.mv.trans bK,aw.o,ct.o,ao.o.g,ao.o.nm,hQ ao.o.m l.o.nl,λj B U=>by omega⟩
     clear b2 bK S l;go_wp2_with fail;go_roundw;exact⟨ck+1,ck+1,by omega,by omega,by go_num,by go_num,(show V _ from .inl ⟨aq,au,Q,aR,aV,bY,ce,yad,cn.o⟩)⟩;simp[intOf];omega
    obtain rfl:ck=i:=xaa;obtain⟨bJ,_⟩:=K9 l.o.pg (λj hj=>by rw[List.length_drop,ae.o]at hj;rw[rI];exact l.o.ns (F+j) xaa xaa)
    have bg:V (r=.ok st):=by
     have h:=l.o.pm;rw[bJ,oG]at h;exact(hJ h).symm
    have H:V _:=Chg.kept b1.o l.o.mv.chg (λb hb=>by have:=xT hb;have:=aI.o;have:=a9.o;omega);obtain⟨bZ,bG,aC,fr⟩:=bk.o wr H.o;have bH:=fr 0;have f1:=fr 1;have f2:=fr 2;have bi:=l.o.ws.c0;have a5:=l.o.ws.c1;have p2:=l.o.ws.c2;have am:∀{z:Value}{e s n:Nat}{xs:List Value},wr.ownsRow (bI+1) e s z n xs->z.ownBlock≠some bI:=λav c=>hO ((eI av c).1)
    have R:V (Kept 0 0 w (((wr.setCell ⟨bI,0,none⟩ aS).setCell ⟨bI,1,none⟩ bb).setCell ⟨bI,2,none⟩ bq)):=zU (HK.o.trans H.o) (Nat.le_of_eq bc.o) _ _ _;have R1:V _:=eJ (u:=bq) (o:=2) (eJ (u:=bb) (o:=1) (eJ (u:=aS) (o:=0) l.o.ws.r1 (am l.o.ws.r1)) (am l.o.ws.r1)) (am l.o.ws.r1);have R2:V _:=eJ (u:=bq) (o:=2) (eJ (u:=bb) (o:=1) (eJ (u:=aS) (o:=0) l.o.ws.r2 (am l.o.ws.r2)) (am l.o.ws.r2)) (am l.o.ws.r2);have R3:V _:=eJ (u:=bq) (o:=2) (eJ (u:=bb) (o:=1) (eJ (u:=aS) (o:=0) l.o.ws.r3 (am l.o.ws.r3)) (am l.o.ws.r3)) (am l.o.ws.r3);obtain⟨bd,aR,aV⟩:=fg wr bI _ _ _ bZ bG aC aS bb bq;obtain⟨bL,d1,af⟩:=jr l.o.ws.r1;obtain⟨bM,d2,a0⟩:=jr l.o.ws.r2;obtain⟨cj,d3,aj⟩:=jr l.o.ws.r3;have bP:V _:=l.o.ws.ap;have cy:V _:=l.o.gd;clear fr bk am ay bJ H l;subst af a0 aj;go_wp2_with fail;refine yay (v:=.tuple #[.agg #[.slice bL st.ins.length d1,.slice bM st.vs.length d2,.slice cj st.outs.length d3],hF 0,hF 0]) (by simp[results,results34,go_sem,bd,aR,aV]) rfl ?_;rw[bg.o,bc.o];exact⟨_,_,_,rfl,R1.o,R2.o,R3.o,bP.o.1,bP.o.2.1,bP.o.2.2.2.1,cy.o,R.o⟩
   have H:V _:=Chg.kept b1.o cd (λb hb=>by have:=xT hb;have:=aI.o;have:=a9.o;omega);obtain⟨bZ,bG,aC,fr⟩:=bk.o wr H.o;have bH:=fr 0;have f1:=fr 1;have f2:=fr 2;have X:=yaw ak;have ab:(c !=0)=true:=by unfold bne;rw[X];rfl
   have Z:bI≠P:=λe=>hO aI.o
   have cC:(((wr.drew.setCell ⟨bI,0,none⟩ (.slice none 0 0)).setCell ⟨bI,1,none⟩ (.slice none 0 0)).setCell ⟨bI,2,none⟩ (.slice none 0 0)).cell? ⟨P,5,none⟩=some (hF c):=by
    rw[eN _ _ _ _ _ _ (.inl Z),eN _ _ _ _ _ _ (.inl Z),eN _ _ _ _ _ _ (.inl Z)];exact bW
   have bE:(((wr.drew.setCell ⟨bI,0,none⟩ (.slice none 0 0)).setCell ⟨bI,1,none⟩ (.slice none 0 0)).setCell ⟨bI,2,none⟩ (.slice none 0 0)).cell? ⟨P,6,none⟩=some (hF p):=by
    rw[eN _ _ _ _ _ _ (.inl Z),eN _ _ _ _ _ _ (.inl Z),eN _ _ _ _ _ _ (.inl Z)];exact J
   obtain⟨bd,aR,aV⟩:=fg wr bI _ _ _ bZ bG aC (.slice none 0 0) (.slice none 0 0) (.slice none 0 0);have bR:(wr.setCell ⟨bI,0,none⟩ (.slice none 0 0)).cell? ⟨bI,0,none⟩=some (.slice none 0 0):=fR _ _ _ _ _ bZ;have aS:((wr.setCell ⟨bI,0,none⟩ (.slice none 0 0)).setCell ⟨bI,1,none⟩ (.slice none 0 0)).cell? ⟨bI,1,none⟩=some (.slice none 0 0):=fR _ _ _ _ _ ((eN _ _ _ _ _ _ (.inr xaa)).trans bG);have R:V (Kept 0 0 w (((wr.drew.setCell ⟨bI,0,none⟩ (.slice none 0 0)).setCell ⟨bI,1,none⟩ (.slice none 0 0)).setCell ⟨bI,2,none⟩ (.slice none 0 0))):=zU ((HK.o.trans H.o).trans (eG wr)) (Nat.le_of_eq bc.o) _ _ _;have bg:V _:=ch;clear fr bk ay cd ch aY Z H ak;by_cases aN:ck<i
   ·exact xfw
   exact xfw):Zp:=h
open cC in
theorem Es{w n cap}(f:TxA w a n t)(hn:n<=4000)(ax:n<=cap)(aF:fS n (jE t) [iH]=-1)(I:∀K∈jE t,isN K->kN K.text){aa aD r}(aH:PGm aa (jE t))(cf:oG aD LSt.zero aa=some r):Calls prog 34 #[.slice a n cap] w (PaZ w (w.heap.size+1) r):=by
 have br:¬(4000:Int)<(n:Int):=xaa;exact qfu
theorem cD.qci(h:Zp:=by
 have x:V _:=xg _ _ _ cr n _ rfl (yan HL.o xab) (λai=>by obtain⟨g,e,_,U,_⟩:=O ai;exact⟨g,0,e,U⟩);rw[aQ.o]at x;have ap:V _:=O;have bN:V _:=an;clear O be ba an aQ;obtain⟨T,bl⟩:∃T,T=jE t:=⟨_,rfl⟩
 rw[<-bl]at HL cG aI y ch F x ap⊢;have bq:V _:=bl;clear bl;have ca:=HL.o;generalize a6:T.length=m at ap x ca cG⊢;have bb:=cG.o;exact qgg):Zp:=h
theorem cD.qfv(h:Zp:=by
 have bk:V _:=λW' al=>Ch w W' al;have HK:V _:=aZ;have aQ:V _:=aF;have cG:V _:=bb;have aI:V _:=ay;have y:V _:=aw;have ch:V _:=z
 have F:V (∀j,((jE t).getD j hL).text.length<=4000):=λj=>by
  have B:=Jp t j
  have U:=f.len
  omega
 clear aZ f aF bb ay aw z;go_enter func34,ntmps34;go_upto_region 1 with fail;change Code.wp _ _ _ _ (w.alloc (eZ _ 0 0 _ 0 0 _ 0 0));have a9:V ((w.alloc (eZ none 0 0 none 0 0 none 0 0)).heap.size=w.heap.size+1):=by show _=_;simp
 generalize w.alloc _=aG at ba bk HK a9⊢;generalize cu:w.heap.size=bI at bk a9⊢;exact qch):Zp:=h
theorem cD.qgh(h:Zp:=by
 have bn:V (0<m->∃g,bz=some _/\aG.heap.size<=g/\TkA _ g 0 m T/\m<=cr):=λai=>by
  exact xkw
 clear x aJ ap bN;go_wp2_with fail;go_loopw [7] (λaM W'=>∃i:Nat,i<=bC/\aM=hF i/\V (Kept 0 0 a8 W')) (λaM _=>bC-(intOf aM).toNat)
 case atStart=>exact⟨0,Nat.zero_le _,rfl,(show V _ from hN)⟩
 case round=>
  obtain⟨i,hi,rfl,ar⟩:=hrel;have aB:i<m:=xaa;obtain⟨aX,bo,cz,bu,_⟩:=bn.o xaa;have a2:=bu.keep ar.o;subst bo;have a7:=a2.c0 i aB;have aK:=a2.c1 i aB;have aP:=a2.c2 i aB;have a5:V _:=F.o i
  have ak:V (∀W',Kept 0 0 _ W'->W'.cell? _=some _):=λW' al=>by
   have:=(a2.keep al).c1 i aB
   rw[Nat.zero_add]at this
   exact this
  rw[Nat.zero_add]at a7 aK aP;have cI:bI≠aX:=λe=>hO a9.o
  have bw:V (isN _->(i<bC/\kN _)\/(i=bC/\GE _ _)):=λh=>by
   rcases Nat.lt_or_ge i bC with c|c
   ·exact .inl ⟨c,ch.o i c h⟩
   ·have e:i=bC:=xaa
    subst e
    exact .inr ⟨rfl,y.o⟩
  have Y:V (¬isN _->i<bC):=λh=>by
   rcases Nat.lt_or_ge i bC with c|c
   ·exact c
   ·have e:i=bC:=xaa
    subst e
    exact absurd aI.o h
  have p:V (i=bC->(T.getD _ hL).pos=(T.getD i _).pos):=λe=>by rw[e]
  generalize T.getD i _=K at a7 aK aP bw Y p a5 ak;obtain⟨aO,aT,bv⟩:=K;simp only at a7 aK aP bw p a5 ak;clear bu a2;have G:=Lib.run_convert_string_bytes wr 9 22 5 ⟨bv.toArray⟩ underlying9 underlying22 underlying5;have bV:V _:=qL wr 5 bv;have C:V _:=nf wr 5 ⟨bv.toArray⟩;have b4:(⟨bv.toArray⟩:ByteArray).size=bv.length:=rfl;rw[b4]at G;have o:(convert 9 _ (eO _)).run _ _=_:=G;clear G b4;cases c1:(aO==[105,110,116])
  ·cases c2:(aO==[100,101,99])
   ·have s:i<bC:=Y.o (λh=>by
     rcases h with h|h
     ·have h':aO=[105,110,116]:=h
      rw[h']at c1;simp at c1
     ·have h':aO=[100,101,99]:=h
      rw[h']at c2;simp at c2)
    exact xhz
   have u:V _:=bw.o (.inr (eq_of_beq c2));exact xan
  have u:V _:=bw.o (.inl (eq_of_beq c1));exact xan):Zp:=h
open cD in
theorem Et{w n cap}(f:TxA w a n t)(hn:n<=4000)(ax:n<=cap)(aF:fS n (jE t) [iH]=-1){bC b2}(bb:bC<(jE t).length)(ay:isN ((jE t).getD bC hL))(aw:GE ((jE t).getD bC hL).text b2)(z:∀j,j<bC->isN ((jE t).getD j hL)->kN ((jE t).getD j hL).text):Calls prog 34 #[.slice a n cap] w (PaE w b2 ((jE t).getD bC hL).pos):=by
 have br:¬4000<(n:Int):=xaa;exact qfu
end
section
theorem Ow{x}(h:¬kN x):∃c,GE x c:=by
 by_cases g:wL (il x)
 ·refine⟨5,.inr ⟨g,?_,rfl⟩⟩;rcases Nat.lt_or_ge 15 ((il x).countP dig) with c|c
  ·exact c
  exact absurd ⟨g,c⟩ h
 exact⟨2,.inl ⟨g,rfl⟩⟩
theorem vG(T:List Tok):∀k,k<=T.length->(∀j,j<k->isN (T.getD j hL)->kN (T.getD j hL).text)\/∃i c,i<k/\isN (T.getD i hL)/\GE (T.getD i hL).text c/\∀j,j<i->isN (T.getD j hL)->kN (T.getD j hL).text
 |0,_=>.inl (λj hj=>by omega)
 |k+1,O=>by
  rcases vG T k xaa with h|⟨i,c,B,U⟩
  ·by_cases hn:isN (T.getD k hL)->kN (T.getD k hL).text
   ·grind
   ·have B:=Classical.not_imp.1 hn
    obtain⟨c,ak⟩:=Ow B.2
    grind
  grind
theorem psD(t)(a6:t.length<=4000):∃r:Rs LSt,∀{w:World}{a:Option Addr}{cap:Nat},TxA w a t.length t->t.length<=cap->Calls prog 34 #[.slice a t.length cap] w (PaZ w (w.heap.size+1) r):=by
 rcases rU t.length (jE t) [iH] with X|⟨p,X⟩
 ·rcases vG (jE t) (jE t).length yad with h|⟨i,c,B,U,h3,bK⟩
  ·have I:∀K∈jE t,isN K->kN K.text:=λK aw hn=>by
    obtain⟨j,hj,rfl⟩:=List.getElem_of_mem aw
    have:=h j hj
    rw[yah,yal hj]at this
    exact this hn
   obtain⟨aa,aH⟩:=JN X;obtain⟨r,g,aQ⟩:=zj aa LSt.zero;exact⟨r,λf ax=>Es f a6 ax X I aH (aQ g yad)⟩
  exact⟨.error (c,((jE t).getD i hL).pos),λf ax=>Et f a6 ax X B U h3 bK⟩
 exact⟨.error (2,p),λf ax=>zV f a6 ax X⟩
theorem Bg{w g t}(h:YS w (some ⟨g,0,none⟩) t.length (il t)):TxA w (some ⟨g,0,none⟩) t.length t:=
 ⟨rfl,λhn=>by
  rcases h.at_ with e|⟨aA,off,e,h3,a6⟩
  ·omega
  ·exact⟨aA,off,e,rfl,h3,λk O=>by rw[a6 k O,rl t k O]⟩⟩
