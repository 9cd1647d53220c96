import Derived.Test.YtiacbhjphaldlaaGreatDoorP44
import Derived.Test.YtiacbhjphaldlaaGreatDoorP52
namespace Go.Proofs.Z
variable{st cap n a B P f k m p w}
variable{Zp:Prop}
open Tryz Go.RowKit Flt
set_option maxRecDepth 1000000
set_option maxHeartbeats 0
section
attribute[local go_sem] dI dG dF
theorem cZ.qeb(h:Zp:=by
 clear bH n1 aI;cases bA:d8 st.names o with
 |some d=>
  exact qai
 |none=>
  exact qgh):Zp:=h
theorem cZ.qge(h:Zp:=by
 rw[show(k::n::l::(us++aD::q::ts)).getD 0 _=k from rfl]at c0;rw[show(k::n::l::(us++aD::q::ts)).getD 1 _=n from rfl]at bH n1 aI;rw[H,show sw=[100,101,102] from rfl]at c0;exact qhf):Zp:=h
theorem cZ.qgi(h:Zp:=by
 have bM:M (r=tR st ⟨cc,bm,o⟩ ps e):=by
  have h:=aF.o;rw[s7 cA.o]at h;exact(h4 h).symm
 have b1:M (r=match nf us 0 with|some p=>.error (3,p)|none=>.ok {st with names:=st.names++[.fn o ps e]}):=by
  show _=_;rw[bM.o];unfold tR nf;rw[List.take_zero,List.drop_zero,ce.o];rfl
 clear aF cA bM;go_upto_region 24 with fail;go_wp2_with fail;go_loopw [11] (λev A=>A=aq/\∃j:Nat,j<=a7/\ev=h0 (3+(j:Int))) (λev _=>3+a7-(intOf ev).toNat)
 case atStart=>exact⟨rfl,0,yad,rfl⟩
 case round=>
  obtain⟨rfl,j,aK,rfl⟩:=hrel;by_cases aV:j<a7
  ·obtain⟨bT,_,_⟩:=cM.o _ ay.o j aV;have ai:=cF.o j aV;generalize (us.getD j _).sym=ba at bT ai;have cp:(ba !=[41])=true:=by unfold bne;rw[ai];rfl
   go_wp2_with fail;go_roundw
   case rel=>exact⟨trivial,j+1,by omega,by go_num⟩
   case measure=>simp[intOf];omega
  obtain rfl:j=a7:=xaa;have bT:=bN.o _ ay.o;obtain⟨lo,(bw:M _)⟩:∃lo,lo=wr.heap.size:=⟨_,rfl⟩
  have bB:M (TR wr lo _ (noC (us.take 0))):=TR.nil _ _;have bo:M _:=Nat.le_of_eq bw.o.symm;have bG:M (∀b3,lo<=b3->_):=λb3 c9=>G.o.ws.far2 (yan ay.o.size (yan bo.o c9));have d0:M (∀(aq aH:World) (v:Value) (J:List _),Kept 0 0 _ _->TR _ _ v J->Chg _ aq aH->_):=λaq aH v J ae fu cv=>AC bo.o ae fu cv;go_upto_region 27 with fail;clear bT;go_wp2_with fail;go_loopw [12,13] (λcP bF A=>∃i:Nat,i<=j/\bF=h0 (3+(i:Int))/\M (Kept 0 0 wr A)/\M (TR A lo cP (noC (us.take i)))/\M (nf us i=nf us 0)) (λ_ bF _=>3+j-(intOf bF).toNat)
  case atStart=>exact⟨0,yad,rfl,(show M _ from ib),bB,(show M _ from rfl)⟩
  case round=>
   obtain⟨i,hi,rfl,bd,C,bP⟩:=hrel;clear bB;have aS:M _:=ay.o.trans bd.o;by_cases cz:i<j
   ·have b5:M _:=λA ae=>cM.o A ae i cz;have bI:M _:=λc=>zO (it K.o cz) c;have bX:M _:=λc=>FN (it K.o cz) c;have ej:=bw.o;generalize us.getD i _=af at b5 bI bX;obtain⟨aa,w,ax⟩:=af;simp only at b5 bI bX;obtain⟨bT,_,_⟩:=b5.o _ aS.o;have ee:M (lo<=wr.heap.size):=by show _<=_;rw[bw.o];exact bd.o.size
    clear ej;cases aj:(aa==[44])
    ·obtain⟨b2,d1,d2⟩:=bX.o aj;have cb:=Q b2;have cl:=Q d1;have cO:=Q d2;obtain⟨aN,aP,b9⟩:=nW C.o;subst b9
     have dv:M ((noC (us.take i)).length<=i):=by
      show _<=_;unfold noC;exact yan (List.length_filter_le _ _) (by rw[List.length_take];omega)
     clear b2 d1 d2 bI bX;generalize cS:noC _=b at C cb cl cO dv⊢;clear cS;have cf:=dv.o;go_upto_region 32 with fail;clear bT;go_wp2_with fail;go_loopw [14] (λdg A=>∃x:Nat,x<=b.length/\dg=h0 x/\M (Kept 0 0 wr A)/\M (∀y,y<x->((b.getD y h8).text==ax)=false)) (λdg _=>b.length-(intOf dg).toNat)
     case atStart=>exact⟨0,yad,rfl,(show M _ from ib),(show M _ from λy aY=>by omega)⟩
     case round=>
      obtain⟨x,ar,rfl,V,c6⟩:=hrel;have I:M _:=aS.o.trans V.o;have bV:M _:=bd.o.trans V.o;obtain⟨bT,bg,a8⟩:=b5.o _ I.o;have aJ:M _:=C.o.keep V.o;have dp:M _:=yan ee.o V.o.size;by_cases aU:x<b.length
      ·obtain⟨b3,b7,bz,_,b0,_⟩:=TR.at_ aJ.o xaa;cases bz;have bL:=b0.c2 x aU;rw[Nat.zero_add]at bL;generalize d5:(b.getD x _).text=ex at bL;have bJ:=Q d5;clear d5 b0;have ds:=Q c6.o;have d3:=Q V.o;go_upto_region 35 with fail;go_quiet (fail)
       have aZ:M _:=I.o.trans (ed 0 0 nq);have al:M _:=d3.o.trans (ed 0 0 nq);clear bT bg a8 bL I V bV aJ dp d3;generalize wr.drewN _=cI at aZ al⊢;cases an:(ex==ax)
       ·have eb:M (∀y,y<x+1->((b.getD y _).text==ax)=false):=λy aY=>by
         by_cases c:y=x
         ·subst c;rw[bJ.o];exact an
         ·exact ds.o y xaa
        go_wp2_with fail;go_roundw
        case rel=>exact⟨x+1,by omega,by go_num,al,eb⟩
        case measure=>simp[intOf];omega
       have bk:M (r=.error (3,w)):=by
        have F:b.any (λq=>q.text==ax)=true:=by
         rw[List.any_eq_true];refine⟨_,?_,it bJ.o an⟩;rw[yah,yal aU];exact List.getElem_mem _
        show _=_;rw[b1.o,<-bP.o,cl.o F]
       have T:M _:=jC (G.o.ws.keep aZ.o).c5 (G.o.ws.keep aZ.o).c6 (G.o.ws.keep aZ.o).fr 3 w (Mst P u1 ap u3 u4) (.inl rfl);obtain⟨_,bg,_⟩:=b5.o _ aZ.o;clear ds cl cO cb;go_wp2_with (go_at_call 32;refine yai T.o ?_;rintro e aA ⟨rfl,u⟩);refine yax (v:=.tuple #[]) (by simp[results,results15,go_sem]) rfl ?_;rw[bk.o];exact⟨rfl,u.c5,u.c6,(Mv.of aZ.o).bad u.chg⟩
      obtain rfl:x=b.length:=xaa
      have aM:M (nf us (i+1)=nf us 0):=by
       show _=_;rw[cO.o ?_]
       ·exact bP.o
       rw[List.any_eq_false];intro y aY;obtain⟨aX,bR,rfl⟩:=List.getElem_of_mem aY;have:=c6.o aX bR;rw[yah,yal bR]at this;simpa using this
      have O:=xI wr ⟨aa,w,ax⟩ 39;have aE:=dE 0 0 wr (.cells #[dJ aa,h0 w,dJ ax] 39);have cg:M _:=TR.keep aJ.o aE;have s:M _:=bV.o.trans aE;clear aJ c6 cl cO C V I bV;simp only at O;go_wp2_with (first|(at_builtin;refine mY _ rfl _ _ rfl _ _ _ (by rfl) cg.o _ _ (by rfl) O ?c2 ?c3 ?_)|fail)
      case c2=>omega
      case c3=>have:=dp.o;simp;omega
      intro g9 cap9 n9 bn b4 ca bO cn;have aG:M _:=d0.o _ _ _ _ s.o cg.o bO;have R:=Q ca;rw[<-cb.o]at R;clear ca bO cn b4 aE O cg s bT bg a8;go_wp2_with fail;go_roundw
      case rel=>exact⟨i+1,by omega,by go_num,aG,R,aM⟩
      case measure=>simp[intOf];omega
    obtain⟨b2,bU⟩:=bI.o aj;have z:=Q C.o;rw[<-b2]at z;have aM:M (nf us (i+1)=nf us 0):=by show _=_;rw[bU];exact bP.o
    clear b2 bU bI bX;go_wp2_with fail;go_roundw
    case rel=>exact⟨i+1,by omega,by go_num,bd,z,aM⟩
    case measure=>simp[intOf];omega
   obtain rfl:i=j:=xaa;have z:=Q C.o;rw[yao (by rw[K.o];exact yac),ce.o]at z
   have cG:M (r=.ok {st with names:=st.names++[.fn o ps e]}):=by
    have aT:nf us i=none:=by
     unfold nf;rw[List.drop_eq_nil_of_le (by rw[K.o];exact yac)];rfl
    show _=_;rw[b1.o,<-bP.o,aT]
   clear C bP b1 cM bN cF ce d0;obtain⟨aN,aP,b9⟩:=nW z.o
   have bY:M (TkR _ _ aN _ _):=⟨rfl,λaC=>by
    obtain⟨b3,b7,bz,c9,b0,_⟩:=TR.at_ z.o aC
    rw[b9]at bz
    cases bz
    exact⟨_,0,rfl,bG.o _ c9,b0⟩⟩
   have ec:M _:=cx.o _ aS.o;subst b9;have bf:M _:=aw.o.keep bd.o;have co:M (Mv _ W (Mst P u1 ap u3 u4) _):=Mv.of aS.o;have au:=G.o.ws.keep aS.o;have cX:=a6.o;have cT:=G.o.gd;have ef:=Q bK;clear z bG cx aw G S L bi bd K bw bo;obtain⟨bS,bj,ch,b6,ci⟩:=mF;have bE:=au.c3;have bC:=au.fr 3;have a9:=au.lt;have ct:B<=wr.heap.size:=ih au.sz
   obtain⟨a4,bW,b2⟩:=jD au.r4;have aQ:M (u4.ownBlock≠some P/\u4.ownBlock≠some _):=⟨au.np.2.2.2,λc=>cX (.inr (.inr (.inr (.inr c))))⟩
   exact qhl):Zp:=h
theorem cZ.qhg(h:Zp:=by
 have el:us.length+5<m:=xaa
 have c8:∀j,(k::⟨cc,bm,o⟩::l::(us++aD::q::ts)).getD (3+j) _=(us++aD::q::ts).getD j h8:=λj=>by
  rw[Nat.add_comm];rfl
 have cM:M (∀A,Kept 0 0 W A->∀j,j<us.length->A.cell? _=some _/\A.cell? _=some _/\A.cell? _=some _):=λA ae j aK=>by
  have t:=Y.tk.keep ae
  have bT:=t.c0 (3+j) xaa
  have bg:=t.c1 (3+j) xaa
  have a8:=t.c2 (3+j) xaa
  rw[c8,nY _ _ aK]at bT bg a8
  exact⟨bT,bg,a8⟩
 have bN:M (∀A,Kept 0 0 W A->A.cell? _=some (dJ [41])):=λA ae=>by
  have bT:=(Y.tk.keep ae).c0 (3+us.length) xaa
  rw[c8,yah,yaq yac,Nat.sub_self]at bT
  rw[<-ah]
  exact bT
 have cF:M (∀j,j<us.length->((us.getD j h8).sym==[41])=false):=λj aK=>JN D _ (by
  rw[yah,yal aK]
  exact List.getElem_mem _)
 have ce:M _:=JM D
 have cx:M (∀A,Kept 0 0 W _->TkR _ A _ _ _):=λA ae=>by
  have t:=(Y.tk.keep ae).in_ (3+us.length+2) m ts (by
   rw[show 3+us.length+2=(us.length+2)+3 by omega,List.drop_succ_cons,List.drop_succ_cons,List.drop_succ_cons,List.drop_append,List.drop_eq_nil_of_le xaa,show us.length+2-us.length=2 by omega]
   simp only[List.nil_append,List.drop_succ_cons,List.drop_zero]
   rw[yao xaa]) yac
  exact⟨t.len,λ_=>⟨g,_,rfl,Y.tg,t⟩⟩
 have ei:M (TsOK ts):=⟨ih Y.m5,λt az=>Y.ti t (by simp[az]),λt az=>Y.tn t (by simp[az])⟩
 have bx:=Q F;have ag:us.length<=5000:=xaa;clear h Y H D ah F c8;generalize d4:us.length=a7 at*;have K:=Q d4;clear d4 aR;go_enter func15,ntmps15;go_upto_region 20 with fail;go_upto_region 21 with fail;change Code.wp _ _ _ _ (W.alloc (.cells #[dJ _,.int _ _,dJ _] 39));exact qea):Zp:=h
theorem cZ.qhm(h:Zp:=by
 generalize bD:ps.length=em at*;clear bD;have aL:IntKind.i64.wrap (3+i+2)=3+i+2:=by rw[IntKind.wrap_i64];omega
 have dd:(3+(i:Int)+2).toNat=3+i+2:=xaa;have ep:(0:Int)<=3+i+2:=xaa;have er:3+(i:Int)+2<=m:=xaa;have en:¬(cap=3+i+2):=xaa;go_upto_region 38 with fail
 go_region_law
  ((refine step_append_lies _ rfl _ _ _ rfl B 70 _ _ 5 _ underlying44 bj ch b6 ci rfl xab _ _ _ (by simp[Act.eval]) (kY aW.o 1) _ 1 1 (Bc.cells ⟨_,_,0,_,_,_,_,_,_⟩) (by simp[Act.eval]) rfl FJ Ng xab (by unfold maxLen;omega) xaa yaf _ rfl ?_;intro g9 cap9 bn aB a0 bs cr;have bq:=jk a0 a9 aQ.o.1 bE;have bZ:=far2 a0 a9 aQ.o.1 bC;have ak:=jk a0 av aQ.o.2 bu))
 all_goals
  have be:=bs.imp id (λe=>Nat.le_of_eq e.symm)
  have i1:=(dE 0 0 wr (.cells #[dJ o,.bool true,h0 0,.slice aN em aP,.slice (some ⟨g,aO+(3+i+2)*3,none⟩) (m-(3+i+2)) (cap-(3+i+2))] 70)).trans (ed 0 0 1)
  obtain⟨(a:M _),U⟩:=(cd.o.keep i1).nms_ (d:=.fn o _ e) (n9:=N+1) (eD a0) (by rw[yak,bc.o];rfl) (by rw[vH,vI];exact aB) be (λea=>⟨rfl,rfl,bY.o.mv ((Mv.of i1).trans ea),_,bx.o,⟨ei.o,by show m-(3+i+2)<=cap-(3+i+2);have:=ef.o;omega⟩,ec.o.mv ((Mv.of i1).trans ea)⟩)
  have bv:M _:=(co.o.keep i1).trans U
  clear U be i1 aB a0 bs cr bq bZ ak
  go_wp2_with fail
  refine yax (v:=.tuple #[]) (by simp[results,results15,go_sem]) rfl ?_
  rw[cG.o]
  exact⟨rfl,_,_,_,_,_,a.o,bv.o⟩):Zp:=h
open cZ in
theorem yC{W u1 ap u3 u4 am g aO l aD q e ps us ts}(Y:TrIn W P B u1 ap u3 u4 am st none 0 [] g aO m cap (k::n::l::(us++aD::q::ts)))(H:k.sym=sw)(D:PPz ps us)(ah:aD.sym=[41])(F:Pr 2 [e] ts){r}(h:fF f st (.defS n ps e)=some r):
  Calls prog 15 #[ge P,.slice (some ⟨g,aO,none⟩) m cap] W (StO W P B u1 ap u3 u4 r):=by
 have ab:=i7 F;have aR:=Y.tk.len;simp only[yap,yak]at aR;exact qgd
end
section
variable{s:Sm}{ts:List Tok}
theorem Gz{W u1 ap u3 u4 am g aO}(Y:TrIn W P B u1 ap u3 u4 am st none 0 [] g aO m cap ts)(aB:PSm s ts){r}(h:fF f st s=some r):
  Calls prog 15 #[ge P,.slice (some ⟨g,aO,none⟩) m cap] W (StO W P B u1 ap u3 u4 r):=by
 cases aB with
 |inS H _ _ ab=>exact JK Y H ab h
 |letS H _ _ F=>exact FK Y H F h
 |rep H hi _ _ F=>exact FI Y H hi F h
 |def0 H _ _ ah _ F=>exact yC Y H (.inl ⟨rfl,rfl⟩) ah F h
 |defS H _ _ D ah _ F=>exact yC Y H (.inr D) ah F h
 |outS H F=>exact FG Y H F h
theorem PB(aB:PSm s ts)(hi:∀t∈ts,t.sym=fx->Dgs t.text):M6 s:=by
 cases aB with
 |inS H _ _ ab=>exact hi _ xac ab
 |letS H _ _ F=>exact ji F (λt az=>hi t (by simp[az])) _ xac
 |rep H z _ _ F=>exact⟨hi _ xac z,ji F (λt az=>hi t (by simp[az])) _ xac⟩
 |def0 H _ _ ah _ F=>exact ji F (λt az=>hi t (by simp[az])) _ xac
 |defS H _ _ D ah _ F=>exact ji F (λt az=>hi t (by simp[az])) _ xac
 |outS H F=>exact ji F (λt az=>hi t (by simp[az])) _ xac
theorem PD(aB:PSm s ts):0<ts.length:=by cases aB<;>simp
end
section
attribute[local go_sem] dI dG dF
variable{w:World}{a:Option Addr}{n b cap:Nat}{t:List UInt8}
theorem qL(n):∀(ts:List Tok) (st:List (List UInt8)),dT n ts st=-1\/∃p:Nat,dT n ts st=(p:Int)
 |[],st=>by
  grind[dT]
 |t::ts,st=>by
  rw[dT]
  split
  ·grind
  ·split
   ·exact qL n _ _
   grind
abbrev tG:Value:=fj none 0 0 none 0 0 none 0 0
def PaE(w:World)(c:Int)(p:Nat)(e:Ending)(w':World):Prop:=e=.returned (.tuple #[tG,.int .i64 c,.int .i64 (p:Int)])/\Kept 0 0 w w'
theorem GA(w a cap):Calls prog 28 #[.slice a 0 cap,h0 0] w λe D=>e=.returned (h0 0)/\D=w:=by
 go_enter func28,ntmps28;go_wp2_with fail;go_loopw [1] (λbF A=>A=w/\bF=h0 0) (λ_ _=>0)
 case atStart=>grind
 case round=>
  obtain⟨rfl,rfl⟩:=hrel;go_wp2_with fail;go_ret;exact⟨rfl,rfl⟩
theorem tH(w a n){cap}(V:4000<n):Calls prog 4 #[.slice a n cap] w (PaE w 5 0):=by
 have b3:4000<(n:Int):=xaa;have aE:=dE 0 0 w (eZ none 0 0 none 0 0 none 0 0);have ay:=Q aE;clear aE;go_enter func4,ntmps4;go_wp2_with fail;refine yax (v:=.tuple #[tG,h0 5,h0 0]) (by simp[results,results4,go_sem]) rfl ?_;exact⟨rfl,ay.o⟩
theorem Aa(w a){cap}:Calls prog 12 #[.slice a 0 cap] w λe D=>e=.returned (.slice none 0 0)/\D=w:=by
 have bY:M _:=GA w a cap;go_enter func12,ntmps12;go_wp2_with (go_at_call 28;refine yai bY.o ?_;rintro e Z ⟨rfl,X⟩;obtain rfl:=X.symm);go_loopw [3,4] (λa5 bF A=>A=w/\bF=h0 0/\a5=.slice none 0 0) (λ_ _ _=>0)
 case atStart=>grind
 case round=>
  obtain⟨rfl,rfl,rfl⟩:=hrel;go_wp2_with fail;go_ret;exact⟨rfl,rfl⟩
theorem oP(f:TxA w a n t)(V:n<=100000)(aY:n<=cap):Calls prog 12 #[.slice a n cap] w λe D=>∃v,e=.returned v/\TR D w.heap.size v (eK t)/\Kept 0 0 w D:=by
 obtain aC|aC:=Nat.eq_zero_or_pos n
 ·subst aC;have az:=List.length_eq_zero_iff.1 f.len;subst az;refine yai (Aa w a) (λe D h=>?_);grind[List.length_eq_zero_iff,l7,TR.nil,Kept.refl]
 obtain⟨g,aO,rfl,z⟩:=f.at_ aC;exact Eh w g n t z V aY
theorem qt{W o v}(k:Kept 0 0 w W)(I:w.heap.size<=b):Kept 0 0 w (W.setCell ⟨b,o,none⟩ v):=
 ⟨k.os,k.tape,k.output,by simpa using k.size,λj aK V=>(Below.heap_setCell W ⟨b,o,none⟩ v j (λe=>by grind)).trans (k.block j aK V)⟩
theorem yD{W}(k:Kept 0 0 w W)(I:w.heap.size<=b){aH aN aM}:Kept 0 0 w (((W.setCell ⟨b,0,none⟩ aH).setCell ⟨b,1,none⟩ aN).setCell ⟨b,2,none⟩ aM):=qt (qt (qt k I) I) I
theorem Bk(w A:World)(ae:Kept 0 0 (w.alloc (eZ none 0 0 none 0 0 none 0 0)) A):A.cell? ⟨w.heap.size,0,none⟩=some (.slice none 0 0)/\A.cell? ⟨w.heap.size,1,none⟩=some (.slice none 0 0)/\A.cell? ⟨w.heap.size,2,none⟩=some (.slice none 0 0)/\∀o,A.frozen? ⟨w.heap.size,o,none⟩=false:=by
 have aV:w.heap.size<(w.alloc (eZ none 0 0 none 0 0 none 0 0)).heap.size:=by simp
 refine⟨(ae.cell aV xaa).trans ?_,(ae.cell aV xaa).trans ?_,(ae.cell aV xaa).trans ?_,λo=>(ae.frozen aV xaa).trans ?_⟩
 ·rw[yat];rfl
 ·rw[yat];rfl
 ·rw[yat];rfl
 simp_all
theorem TR.slice{W v ts}(f:TR W B v ts):∃be x,v=.slice be ts.length x/\(0<ts.length->∃g,be=some ⟨g,0,none⟩/\B<=g/\TkA W g 0 ts.length ts/\ts.length<=x):=by
 obtain⟨be,x,e⟩:=nW f;refine⟨_,_,e,λaC=>?_⟩;obtain⟨g,cap,a6,z,J,al⟩:=f.at_ aC;grind
theorem bT.qcl(h:Zp:=by
 have an:M _:=vG Z be (eK t).length x n (eK t) rfl bf.o (λaC=>by obtain⟨g,e,_,J,_⟩:=aw aC;exact⟨g,0,e,J⟩);rw[bu.o]at an;have bJ:=Q ad;clear aw bL bW ad;generalize (eK t).length=m at*;go_upto_region 6 with (go_at_call 13;refine yai an.o ?_;rintro e ao ⟨rfl,a5⟩);obtain⟨c0,c1,c2,fr⟩:=br.o ao (bJ.o.trans a5);have bZ:=fr 0;have aS:=fr 1;have bO:=fr 2;obtain⟨aP,aQ,aU⟩:=fQ ao bh c0 c1 c2 (.slice none 0 0) (.slice none 0 0) (.slice none 0 0);have R:M (Kept 0 0 w (((ao.setCell ⟨bh,0,none⟩ (.slice none 0 0)).setCell ⟨bh,1,none⟩ (.slice none 0 0)).setCell ⟨bh,2,none⟩ (.slice none 0 0))):=yD ((ay.o.trans bJ.o).trans a5) (Nat.le_of_eq bH.o);clear fr br an ay bJ a5 bu;go_wp2_with fail;refine yax (v:=.tuple #[tG,h0 2,h0 p]) (by simp[results,results4,go_sem,aP,aQ,aU]) rfl ?_;exact⟨rfl,R.o⟩):Zp:=h
open bT in
theorem qM(f:TxA w a n t)(V:n<=4000)(aY:n<=cap){p:Nat}(aB:dT n (eK t) [eE]=(p:Int)):Calls prog 4 #[.slice a n cap] w (PaE w 2 p):=by
 have b3:¬(4000:Int)<(n:Int):=xaa;have aE:=dE 0 0 w (eZ none 0 0 none 0 0 none 0 0);have bW:M _:=oP (f.keep aE) xaa aY;have bf:M ((eK t).length<=5000):=by show _<=_;have:=l7 t;have:=f.len;omega
 have br:M (∀A,Kept 0 0 (w.alloc (eZ none 0 0 none 0 0 none 0 0)) A->A.cell? ⟨w.heap.size,0,none⟩=some (.slice none 0 0)/\A.cell? ⟨w.heap.size,1,none⟩=some (.slice none 0 0)/\A.cell? ⟨w.heap.size,2,none⟩=some (.slice none 0 0)/\∀o,A.frozen? ⟨w.heap.size,o,none⟩=false):=λA ae=>by
  have aV:w.heap.size<(w.alloc (eZ none 0 0 none 0 0 none 0 0)).heap.size:=by simp
  refine⟨(ae.cell (p:=⟨w.heap.size,0,none⟩) aV xaa).trans ?_,(ae.cell (p:=⟨w.heap.size,1,none⟩) aV xaa).trans ?_,(ae.cell (p:=⟨w.heap.size,2,none⟩) aV xaa).trans ?_,λo=>(ae.frozen (p:=⟨w.heap.size,o,none⟩) aV xaa).trans ?_⟩
  ·rw[yat];rfl
  ·rw[yat];rfl
  ·rw[yat];rfl
  ·simp[World.frozen?,World.alloc,-World.alloc_eq]
 have ay:=Q aE;have bu:=Q aB;have q:0<=(p:Int):=xaa;clear aE f aB;go_enter func4,ntmps4;go_upto_region 1 with fail;change Code.wp _ _ _ _ (w.alloc (eZ none 0 0 none 0 0 none 0 0));generalize w.alloc (eZ none 0 0 none 0 0 none 0 0)=aa at bW br ay⊢;generalize av:w.heap.size=bh at br⊢;exact qck
end
section
variable{aI:List Sm}{r:Rs (LSt×Nat)}{ts:List Tok}
theorem Kl(h:PGm aI ts){k}(H:(ts.getD k h8).sym=[59])(I:∀j,j<k->(ts.getD j h8).sym≠[59]):∃s b7,aI=s::b7/\PSm s (ts.take k)/\PGm b7 (ts.drop (k+1)):=by
 cases h with
 |nil=>simp_all[h8]
 |cons ai aj aG=>
  rename_i s b7 ts us c;obtain aV|rfl|aV:=Nat.lt_trichotomy k ts.length
  ·exfalso;rw[nY _ _ aV]at H;exact Iw ai _ (by simp_all) H
  ·refine⟨s,_,rfl,?_,?_⟩
   ·simp_all
   simp_all
  grind
theorem Km(h:PGm aI ts)(I:∀j,j<ts.length->(ts.getD j h8).sym≠[59]):aI=[]/\ts=[]:=by
 cases h with
 |nil=>grind
 |cons ai aj aG=>
  rename_i s b7 ts us c;exfalso;refine I ts.length xac ?_;simp_all
def EC{α:Type}(r:Rs α):Prop:=∀c p,r=.error (c,p)->c≠0
theorem EC.ok{au x}:EC (.ok x:Rs au):=λc p h=>by cases h
theorem EC.err{au c}(h:c≠0):EC (.error (c,p):Rs au):=λf g e=>by grind
theorem j7(st v p):EC (eg st v p):=by
 unfold eg;split
 ·exact .err xab
 exact .ok
theorem wH(n p):∀(G:List Nat) (st:LSt),EC (gE n p st G)
 |[],st=>by rw[gE];exact .ok
 |i::r,st=>by
  rw[gE]
  split
  ·cases aB:eg st (dL 10 n (i:Int) 0 0) p with
   |error q=>obtain⟨c,g⟩:=q;exact .err (j7 _ _ _ c _ aB)
   |ok y=>
    obtain⟨ak,j⟩:=y
    simp only
    cases bi:gE n p ak r with
    |error q=>obtain⟨c,g⟩:=q;exact .err (wH n p r _ c _ bi)
    |ok y=>exact .ok
  ·cases bi:gE n p st r with
   |error q=>obtain⟨c,g⟩:=q;exact .err (wH n p r _ c _ bi)
   |ok y=>exact .ok
theorem Ab(st G p):EC (im st G p):=by
 unfold im;split
 ·exact wH _ _ _ _
 exact .err xab
theorem qu:EC (ft st m p):=by
 unfold ft;split
 ·exact .err xab
 exact .ok
theorem NM(st o a b):EC (lz st o a b):=by
 unfold lz;cases bi:im st [a,b] o.pos with
 |error q=>obtain⟨c,g⟩:=q;exact .err (Ab _ _ _ c _ bi)
 |ok y=>exact j7 _ _ _
theorem Kn(st k a b):EC (kS st k a b):=by
 unfold kS;cases bi:im st [a,b] k.pos with
 |error q=>obtain⟨c,g⟩:=q;exact .err (Ab _ _ _ c _ bi)
 |ok y=>
  simp only;split
  ·exact j7 _ _ _
  cases aB:eg y.1 (dL 4 (dS y.1 (y.2.getD 0 0)) (y.2.getD 0 0:Nat) (y.2.getD 1 0:Nat) 0) k.pos with
  |error q=>grind[j7]
  |ok aX=>exact j7 _ _ _
theorem NO(st k a b c):EC (po st k a b c):=by
 unfold po;cases bi:im st [a,b,c] k.pos with
 |error q=>obtain⟨c,g⟩:=q;exact .err (Ab _ _ _ c _ bi)
 |ok y=>exact j7 _ _ _
theorem C2(st k a n):EC (ju st k a n):=by
 unfold ju;split
 ·split
  ·exact .err xab
  exact j7 _ _ _
 exact xha
theorem C3{i}:EC (jK st k a i n):=by
 unfold jK;split
 ·exact .err xab
 exact xha
theorem Ko{x}:EC (mg st k a x):=by
 unfold mg;split
 ·exact .err xab
 exact qu
theorem NP(st k a x d):EC (lX st k a x d):=by
 unfold lX;split
 ·cases aB:eg st (dL 10 (dS st x) (d:Int) 0 0) k.pos with
  |error q=>grind[j7]
  |ok y=>exact qu
 split
 ·exact .err xab
 exact qu
theorem tI(st)(loc:Loc)(t):EC (dX st loc t):=by
 unfold dX;split
 ·exact .ok
 split
 ·exact .ok
 exact .err xab
theorem kX(z:∀r,a=some r->EC r)(J:∀s x,∀r,p s x=some r->EC r):∀r,iE a p=some r->EC r:=λr h=>by
 cases F:a with
 |none=>rw[F]at h;cases h
 |some r1=>
  rw[F]at h
  obtain q|⟨s,x⟩:=r1
  ·cases h<;>grind
  ·exact J s x r h
theorem Bl{p}(aB:∀s e r,p s e=some r->EC r):∀(es:List Ex) (st:LSt) (r:Rs (LSt×List Nat)),eP p st es=some r->EC r
 |[],st,r,h=>by rw[eP]at h;cases h;exact .ok
 |e::es,st,r,h=>by
  rw[eP]at h
  cases z:p st e with
  |none=>grind
  |some r1=>
   rw[z]at h
   obtain bg|⟨ak,x⟩:=r1
   ·cases h;exact λc p m=>aB _ _ _ z c p (by cases m;rfl)
   ·simp only at h
    cases J:eP p ak es with
    |none=>grind
    |some bp=>
     rw[J]at h
     obtain a8|⟨az,ys⟩:=bp
     ·cases h;exact λc p m=>Bl aB _ _ _ J c p (by cases m;rfl)
     ·cases h;exact .ok
theorem rB:∀(f:Nat) (st:LSt) (loc:Loc) (e:Ex) (r:Rs (LSt×Nat)),dQ f st loc e=some r->EC r
 |0,st,loc,e,r,h=>by rw[dQ]at h;cases h
 |f+1,st,loc,e,r,h=>by
  have O:∀st loc e r,dQ f st loc e=some r->_:=λst loc e r h=>rB f _ _ e r h
  have g:∀{a r:Rs (LSt×Nat)},EC a->some a=some r->_:=λh e=>by cases e;exact h
  cases e with
  |num t=>rw[dQ]at h;exact g (j7 _ _ _) h
  |name t=>
   rw[dQ]at h
   cases aD:dX st loc t with
   |error q=>rw[aD]at h;obtain⟨c,p⟩:=q;exact g (.err (tI _ _ _ c p aD)) h
   |ok v=>rw[aD]at h;exact g .ok h
  |neg o a=>grind[dQ,kX,j7]
  |bin o a b=>grind[dQ,kX,NM]
  |call t es=>
   rw[dQ]at h
   split at h
   ·split at h
    ·split at h
     ·cases h
     ·rename_i q F
      exact λc p m=>Bl (λs e r h=>O s _ e r h) _ _ _ F c p (by cases h;cases m;rfl)
     ·split at h
      ·exact g (.err xab) h
      ·exact O _ _ _ r h
    ·exact g (.err xab) h
   ·exact g (.err xab) h
  |key1 k a=>
   grind[dQ,kX,j7]
  |key2 k a b=>grind[dQ,kX,Kn]
  |key3 k a b c=>grind[dQ,kX,NO]
  |keyN k a n=>grind[dQ,kX,C2]
  |put k a i n=>rw[dQ]at h;exact kX (λr h=>O _ _ _ r h) (λs x r h=>g C3 h) r h
  |grad k a x=>
   rw[dQ]at h
   cases aD:dX st loc x with
   |error q=>rw[aD]at h;obtain⟨c,p⟩:=q;exact g (.err (tI _ _ _ c p aD)) h
   |ok v=>rw[aD]at h;exact kX (λr h=>O _ _ _ r h) (λs x r h=>g Ko h) r h
  |jvp k a x d=>
   rw[dQ]at h
   cases aD:dX st loc x with
   |error q=>rw[aD]at h;obtain⟨c,p⟩:=q;exact g (.err (tI _ _ _ c p aD)) h
   |ok v=>grind[kX,NP]
theorem GB{f e i s}:∀(k:Nat) (st:LSt) (r:Rs LSt),kr f e i s k st=some r->EC r
 |0,st,r,h=>by rw[kr]at h;cases h;exact .ok
 |k+1,st,r,h=>by
  rw[kr]at h
  split at h
  ·cases h
  ·rename_i q bl
   cases h
   exact λc p m=>rB _ _ _ _ _ bl c p (by cases m;rfl)
  ·exact GB k _ r h
theorem Bm{s}(h:EC r):EC (mI s r):=by
 exact xhx
theorem Kq(h:EC r):EC (EP r):=by
 exact xhx
theorem Kr{s r}(h:fF f st s=some r):EC r:=by
 have g:∀{a r:Rs LSt},EC a->some a=some r->_:=λh e=>by cases e;exact h
 cases s with
 |outS k e=>
  simp only[fF]at h;split at h
  ·exact g (.err xab) h
  cases bl:dQ f st [] e with
  |none=>rw[bl]at h;cases h
  |some r1=>rw[bl]at h;exact g (Kq (rB _ _ _ _ _ bl)) h
 |rep i n e=>
  simp only[fF]at h;split at h
  ·split at h
   ·exact g (.err xab) h
   exact GB _ _ r h
  exact g (.err xab) h
 |defS n ps e=>
  simp only[fF,lJ]at h;split at h
  ·exact g (.err xab) h
  refine g ?_ h;unfold tR;split
  ·exact .err xab
  exact .ok
 |letS n e=>
  simp only[fF,lJ]at h;split at h
  ·exact g (.err xab) h
  cases bl:dQ f st [] e with
  |none=>rw[bl]at h;cases h
  |some r1=>rw[bl]at h;exact g (Bm (rB _ _ _ _ _ bl)) h
 |inS n l=>
  simp only[fF,lJ]at h;split at h
  ·exact g (.err xab) h
  refine g ?_ h;unfold inR;split
  ·exact .err xab
  split
  ·exact .err xab
  exact Bm (j7 _ _ _)
end
section
attribute[local go_sem] dI dG dF
variable{a:Option Addr}{t:List UInt8}
abbrev GC:Obj:=.cells #[.slice none 0 0,.slice none 0 0,.slice none 0 0,.slice none 0 0,.int .i64 0,.int .i64 0,.int .i64 0] 46
theorem NQ(W:World)(B)(ax:B<=W.heap.size):WS (W.alloc GC) W.heap.size B (.slice none 0 0) (.slice none 0 0) (.slice none 0 0) (.slice none 0 0) [] LSt.zero:=by
 have cG:(Value.slice none 0 0).ownBlock=none:=rfl;have g:Apart (.slice none 0 0) (.slice none 0 0):=λk h=>by rw[cG]at h;cases h
 refine⟨by simp,λo=>?_,?_,?_,?_,?_,?_,?_,?_,yau _ _,yau _ _,yau _ _,yau _ _,⟨by rw[cG];simp,by rw[cG];simp,by rw[cG];simp,by rw[cG];simp⟩,⟨g,g,g,g,g,g⟩,rfl,λi hi=>by simp at hi,ax⟩
 ·simp[World.frozen?,World.alloc,-World.alloc_eq]
 all_goals (rw[yat];rfl)
def PaO(w:World)(B:Nat)(st:LSt)(e:Ending)(w':World):Prop:=
 ∃z1 z2 z3,e=.returned (.tuple #[.agg #[z1,z2,z3],.int .i64 0,.int .i64 0])/\w'.ownsRow B 3 1 z1 st.ins.length (st.ins.map (Value.int .i64))/\w'.ownsRow B 74 6 z2 st.vs.length (f9 st.vs)/\w'.ownsRow B 3 1 z3 st.outs.length (st.outs.map (Value.int .i64))/\Apart z1 z2/\Apart z1 z3/\Apart z2 z3/\Gd st/\Kept 0 0 w w'
def PaZ(w:World)(B:Nat)(r:Rs LSt)(e:Ending)(w':World):Prop:=match r with
 |.error (c,p)=>PaE w c p e w'
 |.ok st=>PaO w B st e w'
structure Lp2(W0 W':World)(P B:Nat)(T:List Tok)(f:Nat)(r:Rs LSt)(F i:Nat)(st:LSt)(ss:List Sm)(bs:List Bc)(z1 z2 z3 z4:Value):Prop where
 ws:WS W' P B z1 z2 z3 z4 bs st
 mv:Mv (Mst P (.slice none 0 0) (.slice none 0 0) (.slice none 0 0) (.slice none 0 0)) W0 (Mst P z1 z2 z3 z4) W'
 pg:PGm ss (T.drop F)
 pm:kM f st ss=some r
 gd:Gd st
 nm:NmOK st
 nl:st.names.length<=F
 ns:∀j,F<=j->j<i->(T.getD j h8).sym≠[59]
theorem wI{b}(h:Mst P (.slice none 0 0) (.slice none 0 0) (.slice none 0 0) (.slice none 0 0) b):b=P:=by
 obtain c|c|c|c|c:=h<;>grind[Value.ownBlock]
theorem qw(T:List Tok)(F k):(T.drop F).getD k h8=T.getD (F+k) h8:=by
 simp_all
theorem bU.qcl(h:Zp:=by
 have an:M _:=vG Z be (eK t).length x n (eK t) rfl (yan bf.o xab) (λaC=>by obtain⟨g,e,_,J,_⟩:=aw aC;exact⟨g,0,e,J⟩);rw[bu.o]at an;have aL:=Q aw;have bJ:=Q ad;clear aw bL bW ad bu;obtain⟨T,cc⟩:∃T,T=eK t:=⟨_,rfl⟩
 rw[<-cc]at bf cG cx cM an aL⊢;clear cc;have cT:=bf.o;generalize bp:T.length=m at aL an cT⊢;exact qfx):Zp:=h
theorem bU.qfs(h:Zp:=by
 have br:M (∀A,Kept 0 0 (w.alloc (eZ none 0 0 none 0 0 none 0 0)) A->_):=λA ae=>Bk w A ae;have ay:=Q aE;have bu:=Q aB;have cG:M (∀af∈eK t,af.sym=fx->Dgs af.text):=λaf z J=>F6 (tr t _ af z J) (H af z (.inl J));have cx:=Q H;have cM:=Q Y;have bx:=Q aM;clear aE f aB H Y aM;go_enter func4,ntmps4;go_upto_region 1 with fail;change Code.wp _ _ _ _ (w.alloc (eZ none 0 0 none 0 0 none 0 0));have S:M ((w.alloc (eZ none 0 0 none 0 0 none 0 0)).heap.size=w.heap.size+1):=by show _=_;simp
 generalize w.alloc (eZ none 0 0 none 0 0 none 0 0)=aa at bW br ay S⊢;generalize av:w.heap.size=bh at br S⊢;exact qck):Zp:=h
theorem bU.qfy(h:Zp:=by
 have ch:M (0<m->∃g,be=some ⟨g,0,none⟩/\aa.heap.size<=g/\TkA ao g 0 m T/\m<=x):=λaC=>by
  exact xhu
 clear an a5 aL bJ;go_wp2_with fail;go_loopw [7] (λbF A=>∃i:Nat,i<=m/\bF=h0 i/\M (Kept 0 0 ao A)) (λbF _=>m-(intOf bF).toNat)
 case atStart=>exact⟨0,yad,rfl,(show M (Kept 0 0 ao ao) from Kept.refl 0 0 ao)⟩
 case round=>
  obtain⟨i,hi,rfl,bd⟩:=hrel;by_cases aV:i<m
  ·obtain⟨aR,b4,_,b0,_⟩:=ch.o xaa;have bn:=b0.keep bd.o;subst b4;have bT:=bn.c0 i aV;have a8:=bn.c2 i aV;rw[Nat.zero_add]at bT a8;have bc:M (isN (T.getD i h8)->_):=λh=>cx.o _ (by rw[yah,yal (it O.o aV)];exact List.getElem_mem _) h;generalize T.getD i h8=af at bT a8 bc;obtain⟨ba,ps,bv⟩:=af;simp only at bT a8 bc;clear b0 bn;have aF:=Lib.run_convert_string_bytes (P:=prog) wr 9 22 5 ⟨bv.toArray⟩ underlying9 underlying22 underlying5;have u:M _:=nH wr 5 bv;have B:M _:=lg wr 5 ⟨bv.toArray⟩;have bY:(⟨bv.toArray⟩:ByteArray).size=bv.length:=rfl;rw[bY]at aF;have q:(convert 9 22 (dJ bv)).run prog wr=_:=aF;clear aF bY;cases c1:(ba==[105,110,116])
   ·cases c2:(ba==[100,101,99])
    ·exact xfw
    have D:M (iu bv):=bc.o (.inr (eq_of_beq c2));exact xbz
   have D:M (iu bv):=bc.o (.inl (eq_of_beq c1));exact xbz
  obtain rfl:i=m:=xaa;have cI:M _:=ai.o.trans bd.o;go_upto_region 14 with fail;go_upto_region 15 with fail;change Code.wp _ _ _ _ (wr.alloc GC);have ax:M (bh+1<=wr.heap.size):=by show _<=_;rw[<-S.o];exact cI.o.size
  have az:M _:=NQ wr (bh+1) ax.o;have aT:=dE 0 0 wr GC
  have ci:M (0<i->∃g,be=some ⟨g,0,none⟩/\bh+1<=g/\g<wr.heap.size/\TkA (wr.alloc GC) g 0 i T/\i<=x):=λaC=>by
   obtain⟨g,e,z,J,al⟩:=ch.o aC
   exact⟨g,e,by rw[S.o]at z;exact z,(J.keep bd.o).lt,(J.keep bd.o).keep aT,al⟩
  have o:M _:=cI.o.trans aT;clear aT ch bd cI;generalize wr.alloc GC=W0 at az ci o⊢;generalize d2:wr.heap.size=P at az ci ax⊢;clear d2;have cn:M (Lp2 W0 W0 P (bh+1) T bM r 0 0 LSt.zero aI [] (.slice none 0 0) (.slice none 0 0) (.slice none 0 0) (.slice none 0 0)):=⟨az.o,Mv.refl _ _,by rw[List.drop_zero];exact cM.o,bx.o,JX,JY,yac,λj z J=>by omega⟩
  go_wp2_with fail;go_loopw [11,12] (λbC bF A=>∃F i1:Nat,F<=i/\i1<=i/\bC=h0 F/\bF=h0 i1/\M ((∃st aI am a9 bj bI bR,F<=i1/\Lp2 W0 A P (bh+1) T bM r F i1 st aI am a9 bj bI bR)\/(∃(c:Int) (p:Nat),c≠0/\r=.error (c,p)/\A.cell? ⟨P,5,none⟩=some (h0 c)/\A.cell? ⟨P,6,none⟩=some (h0 p)/\Chg (Mst P (.slice none 0 0) (.slice none 0 0) (.slice none 0 0) (.slice none 0 0)) W0 A))) (λ_ bF _=>i-(intOf bF).toNat)
  case atStart=>exact⟨0,0,yad,yad,rfl,rfl,(show M _ from .inl ⟨_,_,_,_,_,_,_,yac,cn.o⟩)⟩
  case round=>
   obtain⟨F,i1,a0,b2,rfl,rfl,bo⟩:=hrel;clear cn cM bx az;obtain⟨st,aI,am,a9,bj,bI,bR,d4,aO⟩|⟨c,p,aj,b5,bU,cg,bb⟩:=bo.o
   ·have k:=Q aO;have p5:=aO.ws.c5;clear aO bo;by_cases cz:i1<i
    ·obtain⟨aR,b4,d3,cr,cO,ea⟩:=ci.o xaa;subst b4;have cP:¬Mst P (.slice none 0 0) (.slice none 0 0) (.slice none 0 0) (.slice none 0 0) aR:=λc=>by have:=wI c;omega
     have bq:M _:=cO.keepC k.o.mv.chg cP;have c7:¬Mst P a9 bj bI bR aR:=λc=>(k.o.mv.new aR c).elim cP (λc=>ih cO.lt);have dp:=Q c7;have bT:=bq.o.c0 i1 cz;rw[Nat.zero_add]at bT;generalize dd:(T.getD i1 h8).sym=ba at bT;have cF:=Q dd;clear dd cO cP c7;cases c3:(ba==[59])
     ·have b9:∀j,F<=j->j<i1+1->(T.getD j h8).sym≠[59]:=λj z J=>by
       by_cases e:j=i1
       ·subst e
        rw[cF.o]
        intro d
        rw[d]at c3
        simp at c3
       ·exact k.o.ns j z xaa
      have bg:M (Lp2 W0 wr P (bh+1) T bM r F (i1+1) st aI am a9 bj bI bR):=⟨k.o.ws,k.o.mv,k.o.pg,k.o.pm,k.o.gd,k.o.nm,k.o.nl,b9⟩
      clear b9;go_wp2_with fail;go_roundw
      case rel=>exact⟨F,i1+1,a0,by omega,rfl,by go_num,(show M _ from .inl ⟨st,aI,am,a9,bj,bI,bR,by omega,bg.o⟩)⟩
      case measure=>simp[intOf];omega
     have c8:=cF.o.trans (eq_of_beq c3);obtain⟨s,b7,c9,co,bV⟩:=Kl k.o.pg (k:=i1-F) (by rw[qw,show F+(i1-F)=i1 by omega];exact c8) (λj aK=>by rw[qw];exact k.o.ns (F+j) xaa xaa);have bD:=PD co;rw[List.length_take]at bD;have d5:F<i1:=xaa;rw[List.drop_drop,show F+(i1-F+1)=i1+1 by omega]at bV;have d0:=k.o.pm;rw[c9]at d0;obtain⟨r1,cf,l,ar⟩:=uL d0;have ct:∀af∈(T.drop F).take (i1-F),af∈T:=λaf h=>List.mem_of_mem_drop (List.mem_of_mem_take h);have c6:TrIn wr P (bh+1) a9 bj bI bR am st none 0 [] aR (0+F*3) (i1-F) (x-F) ((T.drop F).take (i1-F)):=⟨k.o.ws,k.o.gd,k.o.nm,FH,yad,(λb I=>by cases I),bq.o.in_ F i1 _ rfl xaa,dp.o,by omega,by omega,λaf z J=>cG.o af (ct af z) J,λaf z J=>cx.o af (ct af z) J⟩
     have aN:M _:=Gz c6 co cf;rw[Nat.zero_add]at aN;have bS:=Q l;have bl:=Q ar;have dg:M _:=Kr cf;have cX:M (∀ak,r1=.ok ak->_):=λak e=>uG k.o.gd k.o.nm (ih k.o.nl) (PB co (λaf z J=>cG.o af (ct af z) J)) (iv e cf);have dv:=Q bV;clear c6 cf l ar co bV d0 ct c9 bD c8;obtain⟨c,p⟩|ak:=r1
     ·have bk:M _:=bS.o _ rfl;have bi:M (c≠0):=dg.o c p rfl;go_wp2_with (go_at_call 15;refine yai aN.o ?_;rintro e aA ⟨rfl,C⟩);have bX:=Q C;have ds:=Q k.o.mv;clear C aN;go_wp2_with fail;go_roundw
      case rel=>exact⟨i1+1,i1+1,by omega,by omega,by go_num,by go_num,(show M _ from .inr ⟨c,p,bi.o,bk.o,bX.o.1,bX.o.2.1,ds.o.bad bX.o.2.2⟩)⟩
      case measure=>simp[intOf];omega
     have sg:=cX.o ak rfl;have au:=Q sg;have d1:M _:=bl.o ak rfl;clear sg;go_wp2_with (go_at_call 15;refine yai aN.o ?_;rintro e aA ⟨rfl,L,aQ,aU,bN,cp,ce,cb⟩);have bg:M (Lp2 W0 aA P (bh+1) T bM r (i1+1) (i1+1) ak b7 L aQ aU bN cp):=⟨ce,k.o.mv.trans cb,dv.o,d1.o,au.o.g,au.o.nm,ip au.o.m k.o.nl,λj z J=>by omega⟩
     clear ce cb aN k;go_wp2_with fail;go_roundw
     case rel=>exact⟨i1+1,i1+1,by omega,by omega,by go_num,by go_num,(show M _ from .inl ⟨ak,b7,L,aQ,aU,bN,cp,yac,bg.o⟩)⟩
     case measure=>simp[intOf];omega
    obtain rfl:i1=i:=xaa;obtain⟨cS,_⟩:=Km k.o.pg (λj aK=>by rw[List.length_drop,O.o]at aK;rw[qw];exact k.o.ns (F+j) xaa xaa)
    have bk:M (r=.ok st):=by
     have h:=k.o.pm;rw[cS,kM]at h;exact(h4 h).symm
    have ap:M _:=Chg.kept o.o k.o.mv.chg (λb I=>by have:=wI I;have:=ax.o;have:=S.o;omega);obtain⟨aZ,bz,aJ,fr⟩:=br.o wr ap.o;have bZ:=fr 0;have aS:=fr 1;have bO:=fr 2;have b1:=k.o.ws.c0;have bw:=k.o.ws.c1;have p2:=k.o.ws.c2;have aq:∀{aX:Value}{e s n:Nat}{G:List Value},wr.ownsRow (bh+1) e s aX n G->aX.ownBlock≠some bh:=λah c=>ih ((dO ah c).1)
    have R:M (Kept 0 0 w (((wr.setCell ⟨bh,0,none⟩ a9).setCell ⟨bh,1,none⟩ bj).setCell ⟨bh,2,none⟩ bI)):=yD (ay.o.trans ap.o) (Nat.le_of_eq bH.o);have bm:M _:=dP (u:=bI) (o:=2) (dP (u:=bj) (o:=1) (dP (u:=a9) (o:=0) k.o.ws.r1 (aq k.o.ws.r1)) (aq k.o.ws.r1)) (aq k.o.ws.r1);have bP:M _:=dP (u:=bI) (o:=2) (dP (u:=bj) (o:=1) (dP (u:=a9) (o:=0) k.o.ws.r2 (aq k.o.ws.r2)) (aq k.o.ws.r2)) (aq k.o.ws.r2);have R3:M _:=dP (u:=bI) (o:=2) (dP (u:=bj) (o:=1) (dP (u:=a9) (o:=0) k.o.ws.r3 (aq k.o.ws.r3)) (aq k.o.ws.r3)) (aq k.o.ws.r3);obtain⟨aP,aQ,aU⟩:=fQ wr bh aZ bz aJ a9 bj bI;obtain⟨bB,aW,K⟩:=jo k.o.ws.r1;obtain⟨bQ,bA,a6⟩:=jo k.o.ws.r2;obtain⟨X,bs,ag⟩:=jo k.o.ws.r3;have cA:=Q k.o.ws.ap;have cd:=Q k.o.gd;clear fr br aq ci cS ap k;subst K a6 ag;go_wp2_with fail;refine yax (v:=.tuple #[.agg #[.slice bB st.ins.length aW,.slice bQ st.vs.length bA,.slice X st.outs.length bs],h0 0,h0 0]) (by simp[results,results4,go_sem,aP,aQ,aU]) rfl ?_;rw[bk.o,bH.o];exact⟨_,_,_,rfl,bm.o,bP.o,R3.o,cA.o.1,cA.o.2.1,cA.o.2.2.2.1,cd.o,R.o⟩
   have ap:M _:=Chg.kept o.o bb (λb I=>by have:=wI I;have:=ax.o;have:=S.o;omega);obtain⟨aZ,bz,aJ,fr⟩:=br.o wr ap.o;have bZ:=fr 0;have aS:=fr 1;have bO:=fr 2;have bG:=yav aj;have aD:(c !=0)=true:=by unfold bne;rw[bG];rfl
   have b6:bh≠P:=λe=>ih ax.o
   have bE:(((wr.drew.setCell ⟨bh,0,none⟩ (.slice none 0 0)).setCell ⟨bh,1,none⟩ (.slice none 0 0)).setCell ⟨bh,2,none⟩ (.slice none 0 0)).cell? ⟨P,5,none⟩=some (h0 c):=by
    rw[dR (.inl b6),dR (.inl b6),dR (.inl b6)];exact bU
   have cl:(((wr.drew.setCell ⟨bh,0,none⟩ (.slice none 0 0)).setCell ⟨bh,1,none⟩ (.slice none 0 0)).setCell ⟨bh,2,none⟩ (.slice none 0 0)).cell? ⟨P,6,none⟩=some (h0 p):=by
    rw[dR (.inl b6),dR (.inl b6),dR (.inl b6)];exact cg
   obtain⟨aP,aQ,aU⟩:=fQ wr bh aZ bz aJ (.slice none 0 0) (.slice none 0 0) (.slice none 0 0);have bK:(wr.setCell ⟨bh,0,none⟩ (.slice none 0 0)).cell? ⟨bh,0,none⟩=some (.slice none 0 0):=eR aZ;have a9:((wr.setCell ⟨bh,0,none⟩ (.slice none 0 0)).setCell ⟨bh,1,none⟩ (.slice none 0 0)).cell? ⟨bh,1,none⟩=some (.slice none 0 0):=eR ((dR (.inr xaa)).trans bz);have R:M (Kept 0 0 w (((wr.drew.setCell ⟨bh,0,none⟩ (.slice none 0 0)).setCell ⟨bh,1,none⟩ (.slice none 0 0)).setCell ⟨bh,2,none⟩ (.slice none 0 0))):=yD ((ay.o.trans ap.o).trans (dH wr)) (Nat.le_of_eq bH.o);have bk:=Q b5;clear fr br ci bb b5 bo b6 ap aj;by_cases cz:i1<i
   ·exact xeh
   exact xeh):Zp:=h
open bU in
theorem uO(f:TxA w a n t)(V:n<=4000)(aY:n<=cap)(aB:dT n (eK t) [eE]=-1)(H:∀af∈eK t,isN af->iu af.text){aI bM r}(Y:PGm aI (eK t))(aM:kM bM LSt.zero aI=some r):Calls prog 4 #[.slice a n cap] w (PaZ w (w.heap.size+1) r):=by
 have b3:¬(4000:Int)<(n:Int):=xaa;exact qfr
theorem bV.qcl(h:Zp:=by
 have an:M _:=vG _ _ _ x n _ rfl (yan bf.o xab) (λaC=>by obtain⟨g,e,_,J,_⟩:=aw aC;exact⟨g,0,e,J⟩);rw[bu.o]at an;have aL:=Q aw;have bJ:=Q ad;clear aw bL bW ad bu;obtain⟨T,cc⟩:∃T,T=eK t:=⟨_,rfl⟩
 rw[<-cc]at bf bQ ax aX ce C an aL⊢;have bN:=Q cc;clear cc;have cT:=bf.o;generalize bp:T.length=m at aL an cT bQ⊢;have bj:=bQ.o;exact qfx):Zp:=h
theorem bV.qfs(h:Zp:=by
 have br:M _:=λA ae=>Bk w A ae;have ay:=Q aE;have bu:=Q aB;have bQ:=Q bj;have ax:=Q ah;have aX:=Q aW;have ce:=Q Y
 have C:M (∀j,((eK t).getD j h8).text.length<=4000):=λj=>by
  have z:=J6 t j
  have J:=f.len
  omega
 clear aE f aB bj ah aW Y;go_enter func4,ntmps4;go_upto_region 1 with fail;change Code.wp _ _ _ _ (w.alloc (eZ _ 0 0 _ 0 0 _ 0 0));have S:M ((w.alloc (eZ none 0 0 none 0 0 none 0 0)).heap.size=w.heap.size+1):=by show _=_;simp
 generalize w.alloc _=aa at bW br ay S⊢;generalize av:w.heap.size=bh at br S⊢;exact qck):Zp:=h
theorem bV.qfy(h:Zp:=by
 have ch:M (0<m->∃g,be=some _/\aa.heap.size<=g/\TkA _ g 0 m T/\m<=x):=λaC=>by
  exact xhu
 clear an a5 aL bJ;go_wp2_with fail;go_loopw [7] (λbF A=>∃i:Nat,i<=bS/\bF=h0 i/\M (Kept 0 0 ao A)) (λbF _=>bS-(intOf bF).toNat)
 case atStart=>exact⟨0,yad,rfl,(show M _ from ib)⟩
 case round=>
  obtain⟨i,hi,rfl,bd⟩:=hrel;have aV:i<m:=xaa;obtain⟨aR,b4,d3,b0,_⟩:=ch.o xaa;have bn:=b0.keep bd.o;subst b4;have bT:=bn.c0 i aV;have bg:=bn.c1 i aV;have a8:=bn.c2 i aV;have ag:M _:=C.o i
  have F:M (∀A,Kept 0 0 _ A->A.cell? _=some _):=λA ae=>by
   have:=(bn.keep ae).c1 i aV
   rw[Nat.zero_add]at this
   exact this
  rw[Nat.zero_add]at bT bg a8;have b5:bh≠aR:=λe=>ih S.o
  have bc:M (isN _->(i<bS/\iu _)\/(i=bS/\CS _ _)):=λh=>by
   obtain c|c:=Nat.lt_or_ge i bS
   ·exact .inl ⟨c,ce.o i c h⟩
   ·have e:i=bS:=xaa
    subst e
    exact .inr ⟨rfl,aX.o⟩
  have b2:M (¬isN _->i<bS):=λh=>by
   obtain c|c:=Nat.lt_or_ge i bS
   ·exact c
   ·have e:i=bS:=xaa
    subst e
    exact absurd ax.o h
  have r:M (i=bS->(T.getD _ h8).pos=(T.getD i _).pos):=λe=>by rw[e]
  generalize T.getD i _=af at bT bg a8 bc b2 r ag F;obtain⟨ba,ps,bv⟩:=af;simp only at bT bg a8 bc r ag F;clear b0 bn;have aF:=Lib.run_convert_string_bytes wr 9 22 5 ⟨bv.toArray⟩ underlying9 underlying22 underlying5;have u:M _:=nH wr 5 bv;have B:M _:=lg wr 5 ⟨bv.toArray⟩;have bY:(⟨bv.toArray⟩:ByteArray).size=bv.length:=rfl;rw[bY]at aF;have q:(convert 9 _ (dJ _)).run _ _=_:=aF;clear aF bY;cases c1:(ba==[105,110,116])
  ·cases c2:(ba==[100,101,99])
   ·have s:i<bS:=b2.o (λh=>by
     obtain h|h:=h
     ·have h':ba=[105,110,116]:=h
      rw[h']at c1;simp at c1
     ·have h':ba=[100,101,99]:=h
      rw[h']at c2;simp at c2)
    exact xfw
   have D:M _:=bc.o (.inr (eq_of_beq c2));exact xaj
  have D:M _:=bc.o (.inl (eq_of_beq c1));exact xaj):Zp:=h
open bV in
theorem uP(f:TxA w a n t)(V:n<=4000)(aY:n<=cap)(aB:dT n (eK t) [eE]=-1){bS l}(bj:bS<(eK t).length)(ah:isN ((eK t).getD bS h8))(aW:CS ((eK t).getD bS h8).text l)(Y:∀j,j<bS->isN ((eK t).getD j h8)->iu ((eK t).getD j h8).text):Calls prog 4 #[.slice a n cap] w (PaE w l ((eK t).getD bS h8).pos):=by
 have b3:¬4000<(n:Int):=xaa;exact qfr
end
section
theorem NR{x}(h:¬iu x):∃c,CS x c:=by
 by_cases g:my (fh x)
 ·refine⟨5,.inr ⟨g,?_,rfl⟩⟩;obtain c|c:=Nat.lt_or_ge 15 ((fh x).countP dig)
  ·exact c
  exact absurd ⟨g,c⟩ h
 exact⟨2,.inl ⟨g,rfl⟩⟩
theorem uQ(T:List Tok):∀k,k<=T.length->(∀j,j<k->isN (T.getD j h8)->iu (T.getD j h8).text)\/∃i c,i<k/\isN (T.getD i h8)/\CS (T.getD i h8).text c/\∀j,j<i->isN (T.getD j h8)->iu (T.getD j h8).text
 |0,_=>.inl (λj aK=>by omega)
 |k+1,H=>by
  obtain h|⟨i,c,z,J⟩:=uQ T k xaa
  ·by_cases V:isN (T.getD k h8)->iu (T.getD k h8).text
   ·grind
   ·have z:=Classical.not_imp.1 V
    obtain⟨c,aj⟩:=NR z.2
    grind
  grind
theorem C4{t}(f:TxA w a n t)(aY:n<=cap):∃r,PaR t r/\Calls prog 4 #[.slice a n cap] w (PaZ w (w.heap.size+1) r):=by
 have ab:=f.len;by_cases bw:4000<n
 ·exact⟨_,.inl ⟨by omega,rfl⟩,tH w a n bw⟩
 obtain X|⟨p,X⟩:=qL n (eK t) [eE]
 ·have b:dT t.length (eK t) [eE]=-1:=by grind
  obtain h|⟨i,c,z,J,al,bL⟩:=uQ (eK t) _ yac
  ·have H:∀af∈eK t,isN af->iu af.text:=λaf aR V=>by
    obtain⟨j,aK,rfl⟩:=List.getElem_of_mem aR
    simp_all
   obtain⟨aI,Y⟩:=Ix X;obtain⟨r,g,aG⟩:=sX aI LSt.zero;have ah:=aG g yac;exact⟨r,.inr (.inr (.inr ⟨by omega,b,H,_,g,Y,ah⟩)),uO f xaa aY X H Y ah⟩
  exact⟨_,.inr (.inr (.inl ⟨by omega,b,i,c,z,J,al,bL,rfl⟩)),uP f xaa aY X z J al bL⟩
 exact⟨_,.inr (.inl ⟨by omega,p,by grind,rfl⟩),qM f xaa aY X⟩
