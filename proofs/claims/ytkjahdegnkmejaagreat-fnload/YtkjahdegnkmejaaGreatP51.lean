import Derived.Test.YtkjahdegnkmejaaGreatP50
namespace Go.Proofs.Z
variable{Zp:Prop}
open Tryz Go.RowKit Flt
set_option maxRecDepth 1000000
set_option maxHeartbeats 0
section
attribute[local go_sem] eE eC eB
theorem cW.qdu(h:Zp:=by
 clear ay Y ae;cases U:iI st.names H with
 |some d=>
  exact qai
 |none=>
  exact qfu):Zp:=h
theorem cW.qfl(h:Zp:=by
 rw[show(k::n::l::(us++aR::q::ts)).getD 0 _=k from rfl]at c0;rw[show(k::n::l::(us++aR::q::ts)).getD 1 _=n from rfl]at ay Y ae;rw[J,show Fm=[100,101,102] from rfl]at c0;exact qgr):Zp:=h
theorem cW.qfv(h:Zp:=by
 have aI:V (r=Gm st ⟨b2,K,H⟩ ps e):=by
  have h:=HR.o;rw[ul HFn.o]at h;exact(ix h).symm
 have bx:V (r=match oD us 0 with|some p=>.error (3,p)|none=>.ok {st with names:=st.names++[.fn H ps e]}):=by
  show _=_;rw[aI.o];unfold Gm oD;rw[List.take_zero,List.drop_zero,cp.o];rfl
 clear HR HFn aI;go_upto_region 24 with fail;go_wp2_with fail;go_loopw [11] (λaG F=>F=aq/\∃j:Nat,j<=b3/\aG=ih (3+(j:Int))) (λaG _=>3+b3-(intOf aG).toNat)
 case atStart=>exact⟨rfl,0,yae,rfl⟩
 case round=>
  obtain⟨rfl,j,hj,rfl⟩:=hrel;by_cases aY:j<b3
  ·obtain⟨aU,_,_⟩:=ct.o _ HK.o j aY;have aw:=bf.o j aY;generalize (us.getD j _).sym=aW at aU aw;have cb:(aW !=[41])=true:=by unfold bne;rw[aw];rfl
   go_wp2_with fail;go_roundw;exact⟨trivial,j+1,by omega,by go_num⟩;simp[intOf];omega
  obtain rfl:j=b3:=xaa;have aU:=bq.o _ HK.o;obtain⟨lo,(bZ:V _)⟩:∃lo,lo=wr.heap.size:=⟨_,rfl⟩
  have aK:V (TR wr lo _ (noC (us.take 0))):=TR.nil _ _;have cn:V _:=Nat.le_of_eq bZ.o.symm;have cG:V (∀b7,lo<=b7->_):=λb7 cy=>aT.o.ws.far2 (yao HK.o.size (yao cn.o cy));have cH:V (∀(aq bU:World) (v:Value) (cR:List _),Kept 0 0 _ _->TR _ _ v cR->Chg _ aq bU->_):=λaq bU v cR al dg az=>Bz cn.o al dg az;go_upto_region 27 with fail;clear aU;go_wp2_with fail;go_loopw [12,13] (λex G F=>∃i:Nat,i<=j/\G=ih (3+(i:Int))/\V (Kept 0 0 wr F)/\V (TR F lo ex (noC (us.take i)))/\V (oD us i=oD us 0)) (λ_ G _=>3+j-(intOf G).toNat)
  case atStart=>exact⟨0,yae,rfl,(show V _ from i3),aK,(show V _ from rfl)⟩
  case round=>
   obtain⟨i,hi,rfl,aS,bh,bI⟩:=hrel;clear aK;have B:V _:=HK.o.trans aS.o;by_cases cf:i<j
   ·have bQ:V _:=λF al=>ct.o F al i cf;have aX:V _:=λc=>Bh (jn a9.o cf) c;have a5:V _:=λc=>Ii (jn a9.o cf) c;have c6:=bZ.o;generalize us.getD i _=aa at bQ aX a5;obtain⟨bG,w,bH⟩:=aa;simp only at bQ aX a5;obtain⟨aU,_,_⟩:=bQ.o _ B.o;have cU:V (lo<=wr.heap.size):=by show _<=_;rw[bZ.o];exact aS.o.size
    clear c6;cases ai:(bG==[44])
    ·obtain⟨e4,cJ,cM⟩:=a5.o ai;have ck:V _:=e4;have bR:V _:=cJ;have bA:V _:=cM;obtain⟨ca,el,cj⟩:=oQ bh.o;subst cj
     have cI:V ((noC (us.take i)).length<=i):=by
      show _<=_;unfold noC;exact yao (List.length_filter_le _ _) (by rw[List.length_take];omega)
     clear e4 cJ cM aX a5;generalize d0:noC _=N at bh ck bR bA cI⊢;clear d0;have d8:=cI.o;go_upto_region 32 with fail;clear aU;go_wp2_with fail;go_loopw [14] (λcz F=>∃x:Nat,x<=N.length/\cz=ih x/\V (Kept 0 0 wr F)/\V (∀y,y<x->((N.getD y i1).text==bH)=false)) (λcz _=>N.length-(intOf cz).toNat)
     case atStart=>exact⟨0,yae,rfl,(show V _ from i3),(show V _ from λy bK=>by omega)⟩
     case round=>
      obtain⟨x,aH,rfl,ad,cu⟩:=hrel;have b:V _:=B.o.trans ad.o;have aA:V _:=aS.o.trans ad.o;obtain⟨aU,ax,aF⟩:=bQ.o _ b.o;have ch:V _:=bh.o.keep ad.o;have cF:V _:=yao cU.o ad.o.size;by_cases aJ:x<N.length
      ·obtain⟨b7,ci,bk,_,bC,_⟩:=TR.at_ ch.o xaa;cases bk;have cK:=bC.c2 x aJ;rw[Nat.zero_add]at cK;generalize cQ:(N.getD x _).text=c9 at cK;have bB:V _:=cQ;clear cQ bC;have cC:V _:=cu.o;have cN:V _:=ad.o;go_upto_region 35 with fail;go_quiet (fail)
       have b0:V _:=b.o.trans (eJ 0 0 _ nq);have bm:V _:=cN.o.trans (eJ 0 0 _ nq);clear aU ax aF cK b ad aA ch cF cN;generalize wr.drewN _=cd at b0 bm⊢;cases am:(c9==bH)
       ·have cS:V (∀y,y<x+1->((N.getD y _).text==bH)=false):=λy bK=>by
         by_cases c:y=x
         ·subst c;rw[bB.o];exact am
         ·exact cC.o y xaa
        go_wp2_with fail;go_roundw;exact⟨x+1,by omega,by go_num,bm,cS⟩;simp[intOf];omega
       have bo:V (r=.error (3,w)):=by
        have aB:N.any (λq=>q.text==bH)=true:=by
         rw[List.any_eq_true];refine⟨_,?_,jn bB.o am⟩;rw[yai,yam aJ];exact List.getElem_mem _
        show _=_;rw[bx.o,<-bI.o,bR.o aB]
       have Q:V _:=jp (aT.o.ws.keep b0.o).c5 (aT.o.ws.keep b0.o).c6 (aT.o.ws.keep b0.o).fr 3 w (Mst P u1 u2 u3 u4) (.inl rfl);obtain⟨_,ax,_⟩:=bQ.o _ b0.o;clear cC bR bA ck;go_wp2_with (go_at_call 101;refine yaj Q.o ?_;rintro e bz ⟨rfl,ba⟩);refine yaz (v:=.tuple #[]) (by simp[results,results88,go_sem]) rfl ?_;rw[bo.o];exact⟨rfl,ba.c5,ba.c6,(Mv.of b0.o).bad ba.chg⟩
      obtain rfl:x=N.length:=xaa
      have bc:V (oD us (i+1)=oD us 0):=by
       show _=_;rw[bA.o ?_]
       ·exact bI.o
       rw[List.any_eq_false];intro y bK;obtain⟨z,b5,rfl⟩:=List.getElem_of_mem bK;have:=cu.o z b5;rw[yai,yam b5]at this;simpa using this
      have b1:=yI wr ⟨bG,w,bH⟩ 127;have aL:=eA 0 0 wr (.cells #[eL bG,ih w,eL bH] 127);have cq:V _:=TR.keep ch.o aL;have ar:V _:=aA.o.trans aL;clear ch cu bR bA bh ad b aA;simp only at b1;go_wp2_with (first|(at_builtin;refine od _ rfl _ _ rfl _ _ _ (by rfl) cq.o _ _ (by rfl) b1 ?c2 ?c3 ?_)|fail)
      case c2=>omega
      case c3=>have:=cF.o;simp;omega
      intro g9 cap9 n9 a7 a2 aQ ap bV;have bb:V _:=cH.o _ _ _ _ ar.o cq.o ap;have a8:V _:=aQ;rw[<-ck.o]at a8;clear aQ ap bV a2 aL b1 cq ar aU ax aF;go_wp2_with fail;go_roundw;exact⟨i+1,by omega,by go_num,bb,a8,bc⟩;simp[intOf];omega
    obtain⟨e4,cl⟩:=aX.o ai;have O:V _:=bh.o;rw[<-e4]at O;have bc:V (oD us (i+1)=oD us 0):=by show _=_;rw[cl];exact bI.o
    clear e4 cl aX a5;go_wp2_with fail;go_roundw;exact⟨i+1,by omega,by go_num,aS,O,bc⟩;simp[intOf];omega
   obtain rfl:i=j:=xaa;have O:V _:=bh.o;rw[yap (by rw[a9.o];exact yad),cp.o]at O
   have co:V (r=.ok {st with names:=st.names++[.fn H ps e]}):=by
    have aN:oD us i=none:=by
     unfold oD;rw[List.drop_eq_nil_of_le (by rw[a9.o];exact yad)];rfl
    show _=_;rw[bx.o,<-bI.o,aN]
   clear bh bI bx ct bq bf cp cH;obtain⟨ca,el,cj⟩:=oQ O.o
   have cW:V (TkR _ _ ca _ _):=⟨rfl,λaj=>by
    obtain⟨b7,ci,bk,cy,bC,_⟩:=TR.at_ O.o aj
    rw[cj]at bk
    cases bk
    exact⟨_,0,rfl,cG.o _ cy,bC⟩⟩
   have cT:V _:=b9.o _ B.o;subst cj;have bF:V _:=ao.o.keep aS.o;have bS:V (Mv _ W (Mst P u1 u2 u3 u4) _):=Mv.of B.o;have X:=aT.o.ws.keep B.o;have bO:=aP.o;have ce:=aT.o.gd;have cV:V _:=bW;clear O cG b9 ao aT b4 R a6 aS a9 bZ cn;obtain⟨bY,bg,cg,b8,cc⟩:=nz;have bv:=X.c3;have cD:=X.fr 3;have cx:=X.lt;have bX:I<=wr.heap.size:=i4 X.sz
   obtain⟨a4,cA,e4⟩:=jq X.r4;have ah:V (u4.ownBlock≠some P/\u4.ownBlock≠some _):=⟨X.np.2.2.2,λc=>bO (.inr (.inr (.inr (.inr c))))⟩
   exact qgx):Zp:=h
theorem cW.qgs(h:Zp:=by
 have c7:us.length+5<m:=xaa
 have cw:∀j,(k::⟨b2,K,H⟩::l::(us++aR::q::ts)).getD (3+j) _=(us++aR::q::ts).getD j i1:=λj=>by
  rw[Nat.add_comm];rfl
 have ct:V (∀F,Kept 0 0 W F->∀j,j<us.length->F.cell? _=some _/\F.cell? _=some _/\F.cell? _=some _):=λF al j hj=>by
  have t:=ab.tk.keep al
  have aU:=t.c0 (3+j) xaa
  have ax:=t.c1 (3+j) xaa
  have aF:=t.c2 (3+j) xaa
  rw[cw,oU _ _ _ _ hj]at aU ax aF
  exact⟨aU,ax,aF⟩
 have bq:V (∀F,Kept 0 0 W F->F.cell? _=some (eL [41])):=λF al=>by
  have aU:=(ab.tk.keep al).c0 (3+us.length) xaa
  rw[cw,yai,yas yad,Nat.sub_self]at aU
  rw[<-au]
  exact aU
 have bf:V (∀j,j<us.length->((us.getD j i1).sym==[41])=false):=λj hj=>Ld C _ (by
  rw[yai,yam hj]
  exact List.getElem_mem _)
 have cp:V _:=Lc C
 have b9:V (∀F,Kept 0 0 W _->TkR _ F _ _ _):=λF al=>by
  have t:=(ab.tk.keep al).in_ (3+us.length+2) m ts (by
   rw[show 3+us.length+2=(us.length+2)+3 by omega,List.drop_succ_cons,List.drop_succ_cons,List.drop_succ_cons,List.drop_append,List.drop_eq_nil_of_le xaa,show us.length+2-us.length=2 by omega]
   simp only[List.nil_append,List.drop_succ_cons,List.drop_zero]
   rw[yap xaa]) yad
  exact⟨t.len,λ_=>⟨g,_,rfl,ab.tg,t⟩⟩
 have cX:V (TsOK ts):=⟨i4 ab.m5,λt ht=>ab.ti t (by simp[ht]),λt ht=>ab.tn t (by simp[ht])⟩
 have bj:V _:=aB;have b6:us.length<=5000:=xaa;clear h ab J C au aB cw;generalize cP:us.length=b3 at*;have a9:V _:=cP;clear cP aD;go_enter func88,ntmps88;go_upto_region 20 with fail;go_upto_region 21 with fail;change Code.wp _ _ _ _ (W.alloc (.cells #[eL _,.int _ _,eL _] 127));exact qdt):Zp:=h
theorem cW.qgy(h:Zp:=by
 generalize bN:ps.length=c8 at*;clear bN;have cB:IntKind.i64.wrap (3+i+2)=3+i+2:=by rw[IntKind.wrap_i64];omega
 have db:(3+(i:Int)+2).toNat=3+i+2:=xaa;have dc:(0:Int)<=3+i+2:=xaa;have dd:3+(i:Int)+2<=m:=xaa;have da:¬(cap=3+i+2):=xaa;go_upto_region 38 with fail
 go_region_law
  ((refine step_append_lies _ rfl _ _ _ rfl I 152 _ _ 5 _ underlying131 bg cg b8 cc rfl xab _ _ _ (by simp[Act.eval]) (kN bi.o 1 _) _ 1 1 (Bc.cells ⟨_,_,0,_,_,_,_,_,_⟩) (by simp[Act.eval]) rfl (Ie _ _ _) (OA _) xab (by unfold maxLen;omega) xaa yag _ rfl ?_;intro g9 cap9 a7 Z bp br cr;have a0:=jS bp cx ah.o.1 bv;have bT:=far2 bp cx ah.o.1 cD;have av:=jS bp bM ah.o.2 bd))
 all_goals
  have bE:=br.imp id (λe=>Nat.le_of_eq e.symm)
  have aV:=(eA 0 0 wr (.cells #[eL H,.bool true,ih 0,.slice ca c8 el,.slice (some ⟨g,an+(3+i+2)*3,none⟩) (m-(3+i+2)) (cap-(3+i+2))] 152)).trans (eJ 0 0 _ 1)
  obtain⟨(u:V _),af⟩:=(bw.o.keep aV).nms_ (d:=.fn H _ e) (n9:=aZ+1) (fA bp) (by rw[yal,bu.o];rfl) (by rw[wI,wJ];exact Z) bE (λmm=>⟨rfl,rfl,cW.o.mv ((Mv.of aV).trans mm),_,bj.o,⟨cX.o,by show m-(3+i+2)<=cap-(3+i+2);have:=cV.o;omega⟩,cT.o.mv ((Mv.of aV).trans mm)⟩)
  have bn:V _:=(bS.o.keep aV).trans af
  clear af bE aV Z bp br cr a0 bT av
  go_wp2_with fail
  refine yaz (v:=.tuple #[]) (by simp[results,results88,go_sem]) rfl ?_
  rw[co.o]
  exact⟨rfl,_,_,_,_,_,u.o,bn.o⟩):Zp:=h
open cW in
theorem Aa{f W P I u1 u2 u3 u4 bs st g an m cap k n l aR q e ps us ts}(ab:TrIn W P I u1 u2 u3 u4 bs st none 0 [] g an m cap (k::n::l::(us++aR::q::ts)))(J:k.sym=Fm)(C:PPz ps us)(au:aR.sym=[41])(aB:Pr 2 [e] ts){r}(h:iz f st (.defS n ps e)=some r):
  Calls prog 88 #[ge P,.slice (some ⟨g,an,none⟩) m cap] W (StO W P I u1 u2 u3 u4 r):=by
 have ag:=iW aB;have aD:=ab.tk.len;simp only[yaq,yal]at aD;exact qfk
end
section
variable{s:Sm}{ts:List Tok}
theorem Ij{f W P I u1 u2 u3 u4 bs st g an m cap}(ab:TrIn W P I u1 u2 u3 u4 bs st none 0 [] g an m cap ts)(aA:PSm s ts){r}(h:iz f st s=some r):
  Calls prog 88 #[ge P,.slice (some ⟨g,an,none⟩) m cap] W (StO W P I u1 u2 u3 u4 r):=by
 cases aA with
 |inS J _ _ ag=>exact La ab J ag h
 |letS J _ _ aB=>exact If ab J aB h
 |rep J hi _ _ aB=>exact Id ab J hi aB h
 |def0 J _ _ au _ aB=>exact Aa ab J (.inl ⟨rfl,rfl⟩) au aB h
 |defS J _ _ C au _ aB=>exact Aa ab J (.inr C) au aB h
 |outS J aB=>exact Ib ab J aB h
theorem PL(aA:PSm s ts)(hi:∀t∈ts,t.sym=ik->Dgs t.text):Pn s:=by
 cases aA with
 |inS J _ _ ag=>exact hi _ xac ag
 |letS J _ _ aB=>exact jf aB (λt ht=>hi t (by simp[ht])) _ xac
 |rep J B _ _ aB=>exact⟨hi _ xac B,jf aB (λt ht=>hi t (by simp[ht])) _ xac⟩
 |def0 J _ _ au _ aB=>exact jf aB (λt ht=>hi t (by simp[ht])) _ xac
 |defS J _ _ C au _ aB=>exact jf aB (λt ht=>hi t (by simp[ht])) _ xac
 |outS J aB=>exact jf aB (λt ht=>hi t (by simp[ht])) _ xac
theorem PM(aA:PSm s ts):0<ts.length:=by cases aA<;>simp
end
section
attribute[local go_sem] eE eC eB
variable{w:World}{a:Option Addr}{n b cap:Nat}{t:List UInt8}
theorem rF(n):∀(ts:List Tok) (st:List (List UInt8)),fC n ts st=-1\/∃p:Nat,fC n ts st=(p:Int)
 |[],st=>by
  grind[fC]
 |t::ts,st=>by
  rw[fC]
  split
  ·grind
  ·split
   ·exact rF n _ _
   grind
abbrev vM:Value:=eX none 0 0 none 0 0 none 0 0
def PaE(w:World)(c:Int)(p:Nat)(e:Ending)(w':World):Prop:=e=.returned (.tuple #[vM,.int .i64 c,.int .i64 (p:Int)])/\Kept 0 0 w w'
theorem Ik(w a cap):Calls prog 97 #[.slice a 0 cap,ih 0] w λe O=>e=.returned (ih 0)/\O=w:=by
 go_enter func97,ntmps97;go_wp2_with fail;go_loopw [1] (λG F=>F=w/\G=ih 0) (λ_ _=>0)
 case atStart=>grind
 case round=>
  obtain⟨rfl,rfl⟩:=hrel;go_wp2_with fail;go_ret;exact⟨rfl,rfl⟩
theorem Bi(w a cap):Calls prog 85 #[.slice a 0 cap] w λe O=>e=.returned (.slice none 0 0)/\O=w:=by
 have aG:V _:=Ik w a cap;go_enter func85,ntmps85;go_wp2_with (go_at_call 97;refine yaj aG.o ?_;rintro e ak ⟨rfl,S⟩;obtain rfl:=S.symm);go_loopw [3,4] (λY G F=>F=w/\G=ih 0/\Y=.slice none 0 0) (λ_ _ _=>0)
 case atStart=>grind
 case round=>
  obtain⟨rfl,rfl,rfl⟩:=hrel;go_wp2_with fail;go_ret;exact⟨rfl,rfl⟩
theorem pN(f:TxA w a n t)(hn:n<=100000)(aI:n<=cap):Calls prog 85 #[.slice a n cap] w λe O=>∃v,e=.returned v/\TR O w.heap.size v (jk t)/\Kept 0 0 w O:=by
 rcases Nat.eq_zero_or_pos n with aj|aj
 ·subst aj;have ht:=List.length_eq_zero_iff.1 f.len;subst ht;refine yaj (Bi w a _) (λe O h=>?_);grind[List.length_eq_zero_iff,pX,TR.nil,Kept.refl]
 obtain⟨g,an,rfl,B⟩:=f.at_ aj;exact Fg w g _ n _ t B hn aI
theorem rh{W o v}(k:Kept 0 0 w W)(hb:w.heap.size<=b):Kept 0 0 w (W.setCell ⟨b,o,none⟩ v):=
 ⟨k.os,k.tape,k.output,by simpa using k.size,λj hj hn=>(Below.heap_setCell W ⟨b,o,none⟩ v j (λe=>by grind)).trans (k.block j hj hn)⟩
theorem Ab{W}(k:Kept 0 0 w W)(hb:w.heap.size<=b)(bf bb bc):Kept 0 0 w (((W.setCell ⟨b,0,none⟩ bf).setCell ⟨b,1,none⟩ bb).setCell ⟨b,2,none⟩ bc):=rh (rh (rh k hb) hb) hb
theorem B9(w F:World)(al:Kept 0 0 (w.alloc (fB none 0 0 none 0 0 none 0 0)) F):F.cell? ⟨w.heap.size,0,none⟩=some (.slice none 0 0)/\F.cell? ⟨w.heap.size,1,none⟩=some (.slice none 0 0)/\F.cell? ⟨w.heap.size,2,none⟩=some (.slice none 0 0)/\∀o,F.frozen? ⟨w.heap.size,o,none⟩=false:=by
 have aY:w.heap.size<(w.alloc (fB none 0 0 none 0 0 none 0 0)).heap.size:=by simp
 refine⟨(al.cell aY xaa).trans ?_,(al.cell aY xaa).trans ?_,(al.cell aY xaa).trans ?_,λo=>(al.frozen aY xaa).trans ?_⟩
 ·rw[yav];rfl
 ·rw[yav];rfl
 ·rw[yav];rfl
 simp_all
theorem TR.slice{W I v ts}(f:TR W I v ts):∃aN b5,v=.slice aN ts.length b5/\(0<ts.length->∃g,aN=some ⟨g,0,none⟩/\I<=g/\TkA W g 0 ts.length ts/\ts.length<=b5):=by
 obtain⟨aN,b5,e⟩:=oQ f;refine⟨_,_,e,λaj=>?_⟩;obtain⟨g,cap,be,B,N,h3⟩:=f.at_ aj;grind
theorem bK.qby(h:Zp:=by
 have I:V _:=wG ak aN (jk t).length b5 n (jk t) rfl HL.o (λaj=>by obtain⟨g,e,_,N,_⟩:=S aj;exact⟨g,0,e,N⟩);rw[b1.o]at I;have bN:V _:=aC;clear S aH bL aC;generalize (jk t).length=m at*;go_upto_region 6 with (go_at_call 86;refine yaj I.o ?_;rintro e aM ⟨rfl,a9⟩);obtain⟨c0,c1,c2,fr⟩:=bD.o aM (bN.o.trans a9);have bT:=fr 0;have f1:=fr 1;have f2:=fr 2;obtain⟨a8,aJ,aP⟩:=fd aM bP _ _ _ c0 c1 c2 (.slice none 0 0) (.slice none 0 0) (.slice none 0 0);have H:V (Kept 0 0 w (((aM.setCell ⟨bP,0,none⟩ (.slice none 0 0)).setCell ⟨bP,1,none⟩ (.slice none 0 0)).setCell ⟨bP,2,none⟩ (.slice none 0 0))):=Ab ((HK.o.trans bN.o).trans a9) (Nat.le_of_eq ay.o) _ _ _;clear fr bD I HK bN a9 b1;go_wp2_with fail;refine yaz (v:=.tuple #[vM,ih 2,ih p]) (by simp[results,results64,go_sem,a8,aJ,aP]) rfl ?_;exact⟨rfl,H.o⟩):Zp:=h
open bK in
theorem Ac(f:TxA w a n t)(hn:n<=4000)(aI:n<=cap){p:Nat}(aA:fC n (jk t) [iq]=(p:Int)):Calls prog 64 #[.slice a n cap] w (PaE w 2 p):=by
 have aG:¬(4000:Int)<(n:Int):=xaa;have aL:=eA 0 0 w (fB none 0 0 none 0 0 none 0 0);have bL:V _:=pN (f.keep aL) xaa aI;have HL:V ((jk t).length<=5000):=by show _<=_;have:=pX t;have:=f.len;omega
 have bD:V (∀F,Kept 0 0 (w.alloc (fB none 0 0 none 0 0 none 0 0)) F->F.cell? ⟨w.heap.size,0,none⟩=some (.slice none 0 0)/\F.cell? ⟨w.heap.size,1,none⟩=some (.slice none 0 0)/\F.cell? ⟨w.heap.size,2,none⟩=some (.slice none 0 0)/\∀o,F.frozen? ⟨w.heap.size,o,none⟩=false):=λF al=>by
  have aY:w.heap.size<(w.alloc (fB none 0 0 none 0 0 none 0 0)).heap.size:=by simp
  refine⟨(al.cell (p:=⟨w.heap.size,0,none⟩) aY xaa).trans ?_,(al.cell (p:=⟨w.heap.size,1,none⟩) aY xaa).trans ?_,(al.cell (p:=⟨w.heap.size,2,none⟩) aY xaa).trans ?_,λo=>(al.frozen (p:=⟨w.heap.size,o,none⟩) aY xaa).trans ?_⟩
  ·rw[yav];rfl
  ·rw[yav];rfl
  ·rw[yav];rfl
  ·simp[World.frozen?,World.alloc,-World.alloc_eq]
 have HK:V _:=aL;have b1:V _:=aA;have aa:0<=(p:Int):=xaa;clear aL f aA;go_enter func64,ntmps64;go_upto_region 1 with fail;change Code.wp _ _ _ _ (w.alloc (fB none 0 0 none 0 0 none 0 0));generalize w.alloc (fB none 0 0 none 0 0 none 0 0)=aK at bL bD HK⊢;generalize bM:w.heap.size=bP at bD⊢;exact qbx
end
section
variable{af:List Sm}{r:Rs (LSt×Nat)}{ts:List Tok}
theorem Le(h:PGm af ts){k}(J:(ts.getD k i1).sym=[59])(hb:∀j,j<k->(ts.getD j i1).sym≠[59]):∃s aO,af=s::aO/\PSm s (ts.take k)/\PGm aO (ts.drop (k+1)):=by
 cases h with
 |nil=>simp_all[i1]
 |cons aw ai az=>
  rename_i s aO ts us c;rcases Nat.lt_trichotomy k ts.length with aY|rfl|aY
  ·exfalso;rw[oU _ _ _ _ aY]at J;exact Jm aw _ (by simp_all) J
  ·refine⟨s,_,rfl,?_,?_⟩
   ·simp_all
   simp_all
  grind
theorem Lf(h:PGm af ts)(hb:∀j,j<ts.length->(ts.getD j i1).sym≠[59]):af=[]/\ts=[]:=by
 cases h with
 |nil=>grind
 |cons aw ai az=>
  rename_i s aO ts us c;exfalso;refine hb ts.length xac ?_;simp_all
def EC{α:Type}(r:Rs α):Prop:=∀c p,r=.error (c,p)->c≠0
theorem EC.ok{C x}:EC (.ok x:Rs C):=λc p h=>by cases h
theorem EC.err{C c p}(h:c≠0):EC (.error (c,p):Rs C):=λt u e=>by grind
theorem kE(st v p):EC (fQ st v p):=by
 unfold fQ;split
 ·exact .err xab
 exact .ok
theorem xU(n p):∀(xs:List Nat) (st:LSt),EC (iw n p st xs)
 |[],st=>by rw[iw];exact .ok
 |i::r,st=>by
  rw[iw]
  split
  ·cases aA:fQ st (eK 10 n (i:Int) 0 0) p with
   |error q=>obtain⟨c,u⟩:=q;exact .err (kE _ _ _ c _ aA)
   |ok y=>
    obtain⟨av,j⟩:=y
    simp only
    cases br:iw n p av r with
    |error q=>obtain⟨c,u⟩:=q;exact .err (xU n p r _ c _ br)
    |ok y=>exact .ok
  ·cases br:iw n p st r with
   |error q=>obtain⟨c,u⟩:=q;exact .err (xU n p r _ c _ br)
   |ok y=>exact .ok
theorem Bj(st xs p):EC (jN st xs p):=by
 unfold jN;split
 ·exact xU _ _ _ _
 exact .err xab
theorem ri(st m p):EC (iB st m p):=by
 unfold iB;split
 ·exact .err xab
 exact .ok
theorem OB(st o a b):EC (qk st o a b):=by
 unfold qk;cases br:jN st [a,b] o.pos with
 |error q=>obtain⟨c,u⟩:=q;exact .err (Bj _ _ _ c _ br)
 |ok y=>exact kE _ _ _
theorem Lg(st k a b):EC (ql st k a b):=by
 unfold ql;cases br:jN st [a,b] k.pos with
 |error q=>obtain⟨c,u⟩:=q;exact .err (Bj _ _ _ c _ br)
 |ok y=>
  simp only;split
  ·exact kE _ _ _
  cases aA:fQ y.1 (eK 4 (eW y.1 (y.2.getD 0 0)) (y.2.getD 0 0:Nat) (y.2.getD 1 0:Nat) 0) k.pos with
  |error q=>grind[kE]
  |ok z=>exact kE _ _ _
theorem OC(st k a b c):EC (wH st k a b c):=by
 unfold wH;cases br:jN st [a,b,c] k.pos with
 |error q=>obtain⟨c,u⟩:=q;exact .err (Bj _ _ _ c _ br)
 |ok y=>exact kE _ _ _
theorem Ea(st k a n):EC (lO st k a n):=by
 unfold lO;split
 ·split
  ·exact .err xab
  exact kE _ _ _
 exact xiq
theorem Eb(st k a i n):EC (lP st k a i n):=by
 unfold lP;split
 ·exact .err xab
 exact xiq
theorem Lh(st k a x):EC (pr st k a x):=by
 unfold pr;split
 ·exact .err xab
 exact ri _ _ _
theorem OD(st k a x d):EC (pC st k a x d):=by
 unfold pC;split
 ·cases aA:fQ st (eK 10 (eW st x) (d:Int) 0 0) k.pos with
  |error q=>grind[kE]
  |ok y=>exact ri _ _ _
 split
 ·exact .err xab
 exact ri _ _ _
theorem um(st)(u:Loc)(t):EC (fw st u t):=by
 unfold fw;split
 ·exact .ok
 split
 ·exact .ok
 exact .err xab
theorem lI{a p}(B:∀r,a=some r->EC r)(N:∀s x,∀r,p s x=some r->EC r):∀r,jo a p=some r->EC r:=λr h=>by
 cases aB:a with
 |none=>rw[aB]at h;cases h
 |some ar=>
  rw[aB]at h
  rcases ar with q|⟨s,x⟩
  ·cases h<;>grind
  ·exact N s x r h
theorem Ca{p}(aA:∀s e r,p s e=some r->EC r):∀(es:List Ex) (st:LSt) (r:Rs (LSt×List Nat)),fY p st es=some r->EC r
 |[],st,r,h=>by rw[fY]at h;cases h;exact .ok
 |e::es,st,r,h=>by
  rw[fY]at h
  cases B:p st e with
  |none=>grind
  |some ar=>
   rw[B]at h
   rcases ar with ax|⟨av,x⟩
   ·cases h;exact λc p a2=>aA _ _ _ B c p (by cases a2;rfl)
   ·simp only at h
    cases N:fY p av es with
    |none=>grind
    |some aQ=>
     rw[N]at h
     rcases aQ with aF|⟨aT,ys⟩
     ·cases h;exact λc p a2=>Ca aA _ _ _ N c p (by cases a2;rfl)
     ·cases h;exact .ok
theorem sA:∀(f:Nat) (st:LSt) (u:Loc) (e:Ex) (r:Rs (LSt×Nat)),eM f st u e=some r->EC r
 |0,st,u,e,r,h=>by rw[eM]at h;cases h
 |f+1,st,u,e,r,h=>by
  have Z:∀st u e r,eM f st u e=some r->_:=λst u e r h=>sA f _ _ e r h
  have g:∀{a r:Rs (LSt×Nat)},EC a->some a=some r->_:=λh e=>by cases e;exact h
  cases e with
  |num t=>rw[eM]at h;exact g (kE _ _ _) h
  |name t=>
   rw[eM]at h
   cases aL:fw st u t with
   |error q=>rw[aL]at h;obtain⟨c,p⟩:=q;exact g (.err (um _ _ _ c p aL)) h
   |ok v=>rw[aL]at h;exact g .ok h
  |neg o a=>grind[eM,lI,kE]
  |bin o a b=>grind[eM,lI,OB]
  |call t es=>
   rw[eM]at h
   split at h
   ·split at h
    ·split at h
     ·cases h
     ·rename_i q aB
      exact λc p a2=>Ca (λs e r h=>Z s _ e r h) _ _ _ aB c p (by cases h;cases a2;rfl)
     ·split at h
      ·exact g (.err xab) h
      ·exact Z _ _ _ r h
    ·exact g (.err xab) h
   ·exact g (.err xab) h
  |key1 k a=>
   grind[eM,lI,kE]
  |key2 k a b=>grind[eM,lI,Lg]
  |key3 k a b c=>grind[eM,lI,OC]
  |keyN k a n=>grind[eM,lI,Ea]
  |put k a i n=>rw[eM]at h;exact lI (λr h=>Z _ _ _ r h) (λs x r h=>g (Eb _ _ _ _ _) h) r h
  |grad k a x=>
   rw[eM]at h
   cases aL:fw st u x with
   |error q=>rw[aL]at h;obtain⟨c,p⟩:=q;exact g (.err (um _ _ _ c p aL)) h
   |ok v=>rw[aL]at h;exact lI (λr h=>Z _ _ _ r h) (λs x r h=>g (Lh _ _ _ _) h) r h
  |jvp k a x d=>
   rw[eM]at h
   cases aL:fw st u x with
   |error q=>rw[aL]at h;obtain⟨c,p⟩:=q;exact g (.err (um _ _ _ c p aL)) h
   |ok v=>grind[lI,OD]
theorem Il{f e i s}:∀(k:Nat) (st:LSt) (r:Rs LSt),nF f e i s k st=some r->EC r
 |0,st,r,h=>by rw[nF]at h;cases h;exact .ok
 |k+1,st,r,h=>by
  rw[nF]at h
  split at h
  ·cases h
  ·rename_i q ay
   cases h
   exact λc p a2=>sA _ _ _ _ _ ay c p (by cases a2;rfl)
  ·exact Il k _ r h
theorem Cb{s}(h:EC r):EC (qt s r):=by
 exact xjz
theorem Li(h:EC r):EC (NH r):=by
 exact xjz
theorem Lj{f st s r}(h:iz f st s=some r):EC r:=by
 have g:∀{a r:Rs LSt},EC a->some a=some r->_:=λh e=>by cases e;exact h
 cases s with
 |outS k e=>
  simp only[iz]at h;split at h
  ·exact g (.err xab) h
  cases ay:eM f st [] e with
  |none=>rw[ay]at h;cases h
  |some ar=>rw[ay]at h;exact g (Li (sA _ _ _ _ _ ay)) h
 |rep i n e=>
  simp only[iz]at h;split at h
  ·split at h
   ·exact g (.err xab) h
   exact Il _ _ r h
  exact g (.err xab) h
 |defS n ps e=>
  simp only[iz,pd]at h;split at h
  ·exact g (.err xab) h
  refine g ?_ h;unfold Gm;split
  ·exact .err xab
  exact .ok
 |letS n e=>
  simp only[iz,pd]at h;split at h
  ·exact g (.err xab) h
  cases ay:eM f st [] e with
  |none=>rw[ay]at h;cases h
  |some ar=>rw[ay]at h;exact g (Cb (sA _ _ _ _ _ ay)) h
 |inS n l=>
  simp only[iz,pd]at h;split at h
  ·exact g (.err xab) h
  refine g ?_ h;unfold inR;split
  ·exact .err xab
  split
  ·exact .err xab
  exact Cb (kE _ _ _)
end
section
attribute[local go_sem] eE eC eB
variable{a:Option Addr}{t:List UInt8}
abbrev Im:Obj:=.cells #[.slice none 0 0,.slice none 0 0,.slice none 0 0,.slice none 0 0,.int .i64 0,.int .i64 0,.int .i64 0] 133
theorem OE(W:World)(I)(aZ:I<=W.heap.size):WS (W.alloc Im) W.heap.size I (.slice none 0 0) (.slice none 0 0) (.slice none 0 0) (.slice none 0 0) [] LSt.zero:=by
 have nn:(Value.slice none 0 0).ownBlock=none:=rfl;have aC:Apart (.slice none 0 0) (.slice none 0 0):=λk h=>by rw[nn]at h;cases h
 refine⟨by simp,λo=>?_,?_,?_,?_,?_,?_,?_,?_,yaw _ _ _ _,yaw _ _ _ _,yaw _ _ _ _,yaw _ _ _ _,⟨by rw[nn];simp,by rw[nn];simp,by rw[nn];simp,by rw[nn];simp⟩,⟨aC,aC,aC,aC,aC,aC⟩,rfl,λi hi=>by simp at hi,aZ⟩
 ·simp[World.frozen?,World.alloc,-World.alloc_eq]
 all_goals (rw[yav];rfl)
def PaO(w:World)(B:Nat)(st:LSt)(e:Ending)(w':World):Prop:=
 ∃z1 z2 z3,e=.returned (.tuple #[.agg #[z1,z2,z3],.int .i64 0,.int .i64 0])/\w'.ownsRow B 3 1 z1 st.ins.length (st.ins.map (Value.int .i64))/\w'.ownsRow B 79 6 z2 st.vs.length (fU st.vs)/\w'.ownsRow B 3 1 z3 st.outs.length (st.outs.map (Value.int .i64))/\Apart z1 z2/\Apart z1 z3/\Apart z2 z3/\Gd st/\Kept 0 0 w w'
def PaZ(w:World)(B:Nat)(r:Rs LSt)(e:Ending)(w':World):Prop:=match r with
 |.error (c,p)=>PaE w c p e w'
 |.ok st=>PaO w B st e w'
structure Lp2(W0 W':World)(P B:Nat)(T:List Tok)(f:Nat)(r:Rs LSt)(F i:Nat)(st:LSt)(ss:List Sm)(bs:List Bc)(z1 z2 z3 z4:Value):Prop where
 ws:WS W' P B z1 z2 z3 z4 bs st
 mv:Mv (Mst P (.slice none 0 0) (.slice none 0 0) (.slice none 0 0) (.slice none 0 0)) W0 (Mst P z1 z2 z3 z4) W'
 pg:PGm ss (T.drop F)
 pm:oy f st ss=some r
 gd:Gd st
 nm:NmOK st
 nl:st.names.length<=F
 ns:∀j,F<=j->j<i->(T.getD j i1).sym≠[59]
theorem xV{P b}(h:Mst P (.slice none 0 0) (.slice none 0 0) (.slice none 0 0) (.slice none 0 0) b):b=P:=by
 rcases h with c|c|c|c|c<;>grind[Value.ownBlock]
theorem rj(T:List Tok)(aB k):(T.drop aB).getD k i1=T.getD (aB+k) i1:=by
 simp_all
theorem bL.qby(h:Zp:=by
 have I:V _:=wG ak aN (jk t).length b5 n (jk t) rfl (yao HL.o xab) (λaj=>by obtain⟨g,e,_,N,_⟩:=S aj;exact⟨g,0,e,N⟩);rw[b1.o]at I;have Y:V _:=S;have bN:V _:=aC;clear S aH bL aC b1;obtain⟨T,a0⟩:∃T,T=jk t:=⟨_,rfl⟩
 rw[<-a0]at HL bR bF bW I Y⊢;clear a0;have cd:=HL.o;generalize aZ:T.length=m at Y I cd⊢;exact qfh):Zp:=h
theorem bL.qey(h:Zp:=by
 have bD:V (∀F,Kept 0 0 (w.alloc (fB none 0 0 none 0 0 none 0 0)) F->_):=λF al=>B9 w F al;have HK:V _:=aL;have b1:V _:=aA;have bR:V (∀aa∈jk t,aa.sym=ik->Dgs aa.text):=λaa B N=>NO (zk t _ aa B N) (aw aa B (.inl N));have bF:V _:=aw;have bW:V _:=ax;have bj:V _:=cn;clear aL f aA aw ax cn;go_enter func64,ntmps64;go_upto_region 1 with fail;change Code.wp _ _ _ _ (w.alloc (fB none 0 0 none 0 0 none 0 0));have b4:V ((w.alloc (fB none 0 0 none 0 0 none 0 0)).heap.size=w.heap.size+1):=by show _=_;simp
 generalize w.alloc (fB none 0 0 none 0 0 none 0 0)=aK at bL bD HK b4⊢;generalize bM:w.heap.size=bP at bD b4⊢;exact qbx):Zp:=h
theorem bL.qfi(h:Zp:=by
 have a7:V (0<m->∃g,aN=some ⟨g,0,none⟩/\aK.heap.size<=g/\TkA aM g 0 m T/\m<=b5):=λaj=>by
  exact xjx
 clear I a9 Y bN;go_wp2_with fail;go_loopw [7] (λG F=>∃i:Nat,i<=m/\G=ih i/\V (Kept 0 0 aM F)) (λG _=>m-(intOf G).toNat)
 case atStart=>exact⟨0,yae,rfl,(show V (Kept 0 0 aM aM) from Kept.refl 0 0 aM)⟩
 case round=>
  obtain⟨i,hi,rfl,aS⟩:=hrel;by_cases aY:i<m
  ·obtain⟨am,bA,_,bC,_⟩:=a7.o xaa;have ap:=bC.keep aS.o;subst bA;have aU:=ap.c0 i aY;have aF:=ap.c2 i aY;rw[Nat.zero_add]at aU aF;have bu:V (isN (T.getD i i1)->_):=λh=>bF.o _ (by rw[yai,yam (jn Z.o aY)];exact List.getElem_mem _) h;generalize T.getD i i1=aa at aU aF bu;obtain⟨aW,ps,br⟩:=aa;simp only at aU aF bu;clear bC ap;have O:=Lib.run_convert_string_bytes (P:=prog) wr 9 22 5 ⟨br.toArray⟩ underlying9 underlying22 underlying5;have bv:V _:=qr wr 5 br;have u:V _:=mL wr 5 ⟨br.toArray⟩;have b9:(⟨br.toArray⟩:ByteArray).size=br.length:=rfl;rw[b9]at O;have q:(convert 9 22 (eL br)).run prog wr=_:=O;clear O b9;cases c1:(aW==[105,110,116])
   ·cases c2:(aW==[100,101,99])
    ·exact xhd
    have Q:V (kr br):=bu.o (.inr (eq_of_beq c2));exact xci
   have Q:V (kr br):=bu.o (.inl (eq_of_beq c1));exact xci
  obtain rfl:i=m:=xaa;have bS:V _:=bZ.o.trans aS.o;go_upto_region 14 with fail;go_upto_region 15 with fail;change Code.wp _ _ _ _ (wr.alloc Im);have ao:V (bP+1<=wr.heap.size):=by show _<=_;rw[<-b4.o];exact bS.o.size
  have K:V _:=OE wr (bP+1) ao.o;have l:=eA 0 0 wr Im
  have aD:V (0<i->∃g,aN=some ⟨g,0,none⟩/\bP+1<=g/\g<wr.heap.size/\TkA (wr.alloc Im) g 0 i T/\i<=b5):=λaj=>by
   obtain⟨g,e,B,N,h3⟩:=a7.o aj
   exact⟨g,e,by rw[b4.o]at B;exact B,(N.keep aS.o).lt,(N.keep aS.o).keep l,h3⟩
  have bV:V _:=bS.o.trans l;clear l a7 aS bS;generalize wr.alloc Im=W0 at K aD bV⊢;generalize cA:wr.heap.size=P at K aD ao⊢;clear cA;have bc:V (Lp2 W0 W0 P (bP+1) T ba r 0 0 LSt.zero af [] (.slice none 0 0) (.slice none 0 0) (.slice none 0 0) (.slice none 0 0)):=⟨K.o,Mv.refl _ _,by rw[List.drop_zero];exact bW.o,bj.o,Kh,Ki,yad,λj B N=>by omega⟩
  go_wp2_with fail;go_loopw [11,12] (λdc G F=>∃aB ct:Nat,aB<=i/\ct<=i/\dc=ih aB/\G=ih ct/\V ((∃st af bs aV bg bq bB,aB<=ct/\Lp2 W0 F P (bP+1) T ba r aB ct st af bs aV bg bq bB)\/(∃(c:Int) (p:Nat),c≠0/\r=.error (c,p)/\F.cell? ⟨P,5,none⟩=some (ih c)/\F.cell? ⟨P,6,none⟩=some (ih p)/\Chg (Mst P (.slice none 0 0) (.slice none 0 0) (.slice none 0 0) (.slice none 0 0)) W0 F))) (λ_ G _=>i-(intOf G).toNat)
  case atStart=>exact⟨0,0,yae,yae,rfl,rfl,(show V _ from .inl ⟨_,_,_,_,_,_,_,yad,bc.o⟩)⟩
  case round=>
   obtain⟨aB,ct,bK,eg,rfl,rfl,bI⟩:=hrel;clear bc bW bj K;rcases bI.o with⟨st,af,bs,aV,bg,bq,bB,cB,L⟩|⟨c,p,ai,co,cl,aQ,ci⟩
   ·have k:V _:=L;have cG:=L.ws.c5;clear L bI;by_cases cf:ct<i
    ·obtain⟨am,bA,cc,cF,b6,cD⟩:=aD.o xaa;subst bA;have aT:¬Mst P (.slice none 0 0) (.slice none 0 0) (.slice none 0 0) (.slice none 0 0) am:=λc=>by have:=xV c;omega
     have R:V _:=b6.keepC k.o.mv.chg aT;have c6:¬Mst P aV bg bq bB am:=λc=>(k.o.mv.new am c).elim aT (λc=>i4 b6.lt);have cx:V _:=c6;have aU:=R.o.c0 ct cf;rw[Nat.zero_add]at aU;generalize cr:(T.getD ct i1).sym=aW at aU;have bf:V _:=cr;clear cr b6 aT c6;cases c3:(aW==[59])
     ·have cj:∀j,aB<=j->j<ct+1->(T.getD j i1).sym≠[59]:=λj B N=>by
       by_cases e:j=ct
       ·subst e
        rw[bf.o]
        intro d
        rw[d]at c3
        simp at c3
       ·exact k.o.ns j B xaa
      have cg:V (Lp2 W0 wr P (bP+1) T ba r aB (ct+1) st af bs aV bg bq bB):=⟨k.o.ws,k.o.mv,k.o.pg,k.o.pm,k.o.gd,k.o.nm,k.o.nl,cj⟩
      clear cj;go_wp2_with fail;go_roundw;exact⟨aB,ct+1,bK,by omega,rfl,by go_num,(show V _ from .inl ⟨st,af,bs,aV,bg,bq,bB,by omega,cg.o⟩)⟩;simp[intOf];omega
     have ch:=bf.o.trans (eq_of_beq c3);obtain⟨s,aO,cq,bi,b2⟩:=Le k.o.pg (k:=ct-aB) (by rw[rj,show aB+(ct-aB)=ct by omega];exact ch) (λj hj=>by rw[rj];exact k.o.ns (aB+j) xaa xaa);have a6:=PM bi;rw[List.length_take]at a6;have cC:aB<ct:=xaa;rw[List.drop_drop,show aB+(ct-aB+1)=ct+1 by omega]at b2;have cW:=k.o.pm;rw[cq]at cW;obtain⟨ar,bp,bY,b8⟩:=Da cW;have bE:∀aa∈(T.drop aB).take (ct-aB),aa∈T:=λaa h=>List.mem_of_mem_drop (List.mem_of_mem_take h);have ce:TrIn wr P (bP+1) aV bg bq bB bs st none 0 [] am (0+aB*3) (ct-aB) (b5-aB) ((T.drop aB).take (ct-aB)):=⟨k.o.ws,k.o.gd,k.o.nm,Ic _ _,yae,(λb hb=>by cases hb),R.o.in_ aB ct _ rfl xaa,cx.o,by omega,by omega,λaa B N=>bR.o aa (bE aa B) N,λaa B N=>bF.o aa (bE aa B) N⟩
     have y:V _:=Ij ce bi bp;rw[Nat.zero_add]at y;have HE:V _:=bY;have HO:V _:=b8;have cw:V _:=Lj bp;have b7:V (∀av,ar=.ok av->_):=λav e=>C9 k.o.gd k.o.nm (i4 k.o.nl) (PL bi (λaa B N=>bR.o aa (bE aa B) N)) (jv e bp);have eb:V _:=b2;clear ce bp bY b8 bi b2 cW bE cq a6 ch;rcases ar with⟨c,p⟩|av
     ·have bo:V _:=HE.o _ rfl;have cu:V (c≠0):=cw.o c p rfl;go_wp2_with (go_at_call 88;refine yaj y.o ?_;rintro e bz ⟨rfl,bh⟩);have a5:V _:=bh;have cy:V _:=k.o.mv;clear bh y;go_wp2_with fail;go_roundw;exact⟨ct+1,ct+1,by omega,by omega,by go_num,by go_num,(show V _ from .inr ⟨c,p,cu.o,bo.o,a5.o.1,a5.o.2.1,cy.o.bad a5.o.2.2⟩)⟩;simp[intOf];omega
     have sg:=b7.o av rfl;have X:V _:=sg;have cz:V _:=HO.o av rfl;clear sg;go_wp2_with (go_at_call 88;refine yaj y.o ?_;rintro e bz ⟨rfl,x,aJ,aP,bw,b3,bm,bd⟩);have cg:V (Lp2 W0 bz P (bP+1) T ba r (ct+1) (ct+1) av aO x aJ aP bw b3):=⟨bm,k.o.mv.trans bd,eb.o,cz.o,X.o.g,X.o.nm,jj X.o.m k.o.nl,λj B N=>by omega⟩
     clear bm bd y k;go_wp2_with fail;go_roundw;exact⟨ct+1,ct+1,by omega,by omega,by go_num,by go_num,(show V _ from .inl ⟨av,aO,x,aJ,aP,bw,b3,yad,cg.o⟩)⟩;simp[intOf];omega
    obtain rfl:ct=i:=xaa;obtain⟨d0,_⟩:=Lf k.o.pg (λj hj=>by rw[List.length_drop,Z.o]at hj;rw[rj];exact k.o.ns (aB+j) xaa xaa)
    have bo:V (r=.ok st):=by
     have h:=k.o.pm;rw[d0,oy]at h;exact(ix h).symm
    have J:V _:=Chg.kept bV.o k.o.mv.chg (λb hb=>by have:=xV hb;have:=ao.o;have:=b4.o;omega);obtain⟨aR,ca,a2,fr⟩:=bD.o wr J.o;have bT:=fr 0;have f1:=fr 1;have f2:=fr 2;have bG:=k.o.ws.c0;have bn:=k.o.ws.c1;have p2:=k.o.ws.c2;have ae:∀{z:Value}{e s n:Nat}{xs:List Value},wr.ownsRow (bP+1) e s z n xs->z.ownBlock≠some bP:=λau c=>i4 ((eF au c).1)
    have H:V (Kept 0 0 w (((wr.setCell ⟨bP,0,none⟩ aV).setCell ⟨bP,1,none⟩ bg).setCell ⟨bP,2,none⟩ bq)):=Ab (HK.o.trans J.o) (Nat.le_of_eq ay.o) _ _ _;have R1:V _:=eH (u:=bq) (o:=2) (eH (u:=bg) (o:=1) (eH (u:=aV) (o:=0) k.o.ws.r1 (ae k.o.ws.r1)) (ae k.o.ws.r1)) (ae k.o.ws.r1);have R2:V _:=eH (u:=bq) (o:=2) (eH (u:=bg) (o:=1) (eH (u:=aV) (o:=0) k.o.ws.r2 (ae k.o.ws.r2)) (ae k.o.ws.r2)) (ae k.o.ws.r2);have R3:V _:=eH (u:=bq) (o:=2) (eH (u:=bg) (o:=1) (eH (u:=aV) (o:=0) k.o.ws.r3 (ae k.o.ws.r3)) (ae k.o.ws.r3)) (ae k.o.ws.r3);obtain⟨a8,aJ,aP⟩:=fd wr bP _ _ _ aR ca a2 aV bg bq;obtain⟨bH,aX,ad⟩:=ja k.o.ws.r1;obtain⟨bJ,bk,be⟩:=ja k.o.ws.r2;obtain⟨cb,ab,ah⟩:=ja k.o.ws.r3;have bO:V _:=k.o.ws.ap;have cp:V _:=k.o.gd;clear fr bD ae aD d0 J k;subst ad be ah;go_wp2_with fail;refine yaz (v:=.tuple #[.agg #[.slice bH st.ins.length aX,.slice bJ st.vs.length bk,.slice cb st.outs.length ab],ih 0,ih 0]) (by simp[results,results64,go_sem,a8,aJ,aP]) rfl ?_;rw[bo.o,ay.o];exact⟨_,_,_,rfl,R1.o,R2.o,R3.o,bO.o.1,bO.o.2.1,bO.o.2.2.2.1,cp.o,H.o⟩
   have J:V _:=Chg.kept bV.o ci (λb hb=>by have:=xV hb;have:=ao.o;have:=b4.o;omega);obtain⟨aR,ca,a2,fr⟩:=bD.o wr J.o;have bT:=fr 0;have f1:=fr 1;have f2:=fr 2;have bl:=yax ai;have bQ:(c !=0)=true:=by unfold bne;rw[bl];rfl
   have an:bP≠P:=λe=>i4 ao.o
   have ck:(((wr.drew.setCell ⟨bP,0,none⟩ (.slice none 0 0)).setCell ⟨bP,1,none⟩ (.slice none 0 0)).setCell ⟨bP,2,none⟩ (.slice none 0 0)).cell? ⟨P,5,none⟩=some (ih c):=by
    rw[eG _ _ _ _ _ _ (.inl an),eG _ _ _ _ _ _ (.inl an),eG _ _ _ _ _ _ (.inl an)];exact cl
   have aq:(((wr.drew.setCell ⟨bP,0,none⟩ (.slice none 0 0)).setCell ⟨bP,1,none⟩ (.slice none 0 0)).setCell ⟨bP,2,none⟩ (.slice none 0 0)).cell? ⟨P,6,none⟩=some (ih p):=by
    rw[eG _ _ _ _ _ _ (.inl an),eG _ _ _ _ _ _ (.inl an),eG _ _ _ _ _ _ (.inl an)];exact aQ
   obtain⟨a8,aJ,aP⟩:=fd wr bP _ _ _ aR ca a2 (.slice none 0 0) (.slice none 0 0) (.slice none 0 0);have bX:(wr.setCell ⟨bP,0,none⟩ (.slice none 0 0)).cell? ⟨bP,0,none⟩=some (.slice none 0 0):=fc _ _ _ _ _ aR;have aV:((wr.setCell ⟨bP,0,none⟩ (.slice none 0 0)).setCell ⟨bP,1,none⟩ (.slice none 0 0)).cell? ⟨bP,1,none⟩=some (.slice none 0 0):=fc _ _ _ _ _ ((eG _ _ _ _ _ _ (.inr xaa)).trans ca);have H:V (Kept 0 0 w (((wr.drew.setCell ⟨bP,0,none⟩ (.slice none 0 0)).setCell ⟨bP,1,none⟩ (.slice none 0 0)).setCell ⟨bP,2,none⟩ (.slice none 0 0))):=Ab ((HK.o.trans J.o).trans (eD wr)) (Nat.le_of_eq ay.o) _ _ _;have bo:V _:=co;clear fr bD aD ci co bI an J ai;by_cases cf:ct<i
   ·exact xex
   exact xex):Zp:=h
open bL in
theorem Ec{w n cap}(f:TxA w a n t)(hn:n<=4000)(aI:n<=cap)(aA:fC n (jk t) [iq]=-1)(aw:∀aa∈jk t,isN aa->kr aa.text){af ba r}(ax:PGm af (jk t))(cn:oy ba LSt.zero af=some r):Calls prog 64 #[.slice a n cap] w (PaZ w (w.heap.size+1) r):=by
 have aG:¬(4000:Int)<(n:Int):=xaa;exact qex
theorem bM.qby(h:Zp:=by
 have I:V _:=wG _ _ _ b5 n _ rfl (yao HL.o xab) (λaj=>by obtain⟨g,e,_,N,_⟩:=S aj;exact⟨g,0,e,N⟩);rw[b1.o]at I;have Y:V _:=S;have bN:V _:=aC;clear S aH bL aC b1;obtain⟨T,a0⟩:∃T,T=jk t:=⟨_,rfl⟩
 rw[<-a0]at HL aB ao y b7 b I Y⊢;have bq:V _:=a0;clear a0;have cd:=HL.o;generalize aZ:T.length=m at Y I cd aB⊢;have bg:=aB.o;exact qfh):Zp:=h
theorem bM.qey(h:Zp:=by
 have bD:V _:=λF al=>B9 w F al;have HK:V _:=aL;have b1:V _:=aA;have aB:V _:=bg;have ao:V _:=cp;have y:V _:=aD;have b7:V _:=cJ
 have b:V (∀j,((jk t).getD j i1).text.length<=4000):=λj=>by
  have B:=IX t j
  have N:=f.len
  omega
 clear aL f aA bg cp aD cJ;go_enter func64,ntmps64;go_upto_region 1 with fail;change Code.wp _ _ _ _ (w.alloc (fB _ 0 0 _ 0 0 _ 0 0));have b4:V ((w.alloc (fB none 0 0 none 0 0 none 0 0)).heap.size=w.heap.size+1):=by show _=_;simp
 generalize w.alloc _=aK at bL bD HK b4⊢;generalize bM:w.heap.size=bP at bD b4⊢;exact qbx):Zp:=h
theorem bM.qfi(h:Zp:=by
 have a7:V (0<m->∃g,aN=some _/\aK.heap.size<=g/\TkA _ g 0 m T/\m<=b5):=λaj=>by
  exact xjx
 clear I a9 Y bN;go_wp2_with fail;go_loopw [7] (λG F=>∃i:Nat,i<=bY/\G=ih i/\V (Kept 0 0 aM F)) (λG _=>bY-(intOf G).toNat)
 case atStart=>exact⟨0,yae,rfl,(show V _ from i3)⟩
 case round=>
  obtain⟨i,hi,rfl,aS⟩:=hrel;have aY:i<m:=xaa;obtain⟨am,bA,cc,bC,_⟩:=a7.o xaa;have ap:=bC.keep aS.o;subst bA;have aU:=ap.c0 i aY;have ax:=ap.c1 i aY;have aF:=ap.c2 i aY;have ba:V _:=b.o i
  have cO:V (∀F,Kept 0 0 _ F->F.cell? _=some _):=λF al=>by
   have:=(ap.keep al).c1 i aY
   rw[Nat.zero_add]at this
   exact this
  rw[Nat.zero_add]at aU ax aF;have b2:bP≠am:=λe=>i4 b4.o
  have bu:V (isN _->(i<bY/\kr _)\/(i=bY/\Gp _ _)):=λh=>by
   rcases Nat.lt_or_ge i bY with c|c
   ·exact .inl ⟨c,b7.o i c h⟩
   ·have e:i=bY:=xaa
    subst e
    exact .inr ⟨rfl,y.o⟩
  have au:V (¬isN _->i<bY):=λh=>by
   rcases Nat.lt_or_ge i bY with c|c
   ·exact c
   ·have e:i=bY:=xaa
    subst e
    exact absurd ao.o h
  have k:V (i=bY->(T.getD _ i1).pos=(T.getD i _).pos):=λe=>by rw[e]
  generalize T.getD i _=aa at aU ax aF bu au k ba cO;obtain⟨aW,ps,br⟩:=aa;simp only at aU ax aF bu k ba cO;clear bC ap;have O:=Lib.run_convert_string_bytes wr 9 22 5 ⟨br.toArray⟩ underlying9 underlying22 underlying5;have bv:V _:=qr wr 5 br;have u:V _:=mL wr 5 ⟨br.toArray⟩;have b9:(⟨br.toArray⟩:ByteArray).size=br.length:=rfl;rw[b9]at O;have q:(convert 9 _ (eL _)).run _ _=_:=O;clear O b9;cases c1:(aW==[105,110,116])
  ·cases c2:(aW==[100,101,99])
   ·have x:i<bY:=au.o (λh=>by
     rcases h with h|h
     ·have h':aW=[105,110,116]:=h
      rw[h']at c1;simp at c1
     ·have h':aW=[100,101,99]:=h
      rw[h']at c2;simp at c2)
    exact xhd
   have Q:V _:=bu.o (.inr (eq_of_beq c2));exact xam
  have Q:V _:=bu.o (.inl (eq_of_beq c1));exact xam):Zp:=h
open bM in
theorem Ed{w n cap}(f:TxA w a n t)(hn:n<=4000)(aI:n<=cap)(aA:fC n (jk t) [iq]=-1){bY bw}(bg:bY<(jk t).length)(cp:isN ((jk t).getD bY i1))(aD:Gp ((jk t).getD bY i1).text bw)(cJ:∀j,j<bY->isN ((jk t).getD j i1)->kr ((jk t).getD j i1).text):Calls prog 64 #[.slice a n cap] w (PaE w bw ((jk t).getD bY i1).pos):=by
 have aG:¬4000<(n:Int):=xaa;exact qex
end
section
theorem OF{x}(h:¬kr x):∃c,Gp x c:=by
 by_cases g:v7 (gX x)
 ·refine⟨5,.inr ⟨g,?_,rfl⟩⟩;rcases Nat.lt_or_ge 15 ((gX x).countP dig) with c|c
  ·exact c
  exact absurd ⟨g,c⟩ h
 exact⟨2,.inl ⟨g,rfl⟩⟩
theorem vN(T:List Tok):∀k,k<=T.length->(∀j,j<k->isN (T.getD j i1)->kr (T.getD j i1).text)\/∃i c,i<k/\isN (T.getD i i1)/\Gp (T.getD i i1).text c/\∀j,j<i->isN (T.getD j i1)->kr (T.getD j i1).text
 |0,_=>.inl (λj hj=>by omega)
 |k+1,J=>by
  rcases vN T k xaa with h|⟨i,c,B,N⟩
  ·by_cases hn:isN (T.getD k i1)->kr (T.getD k i1).text
   ·grind
   ·have B:=Classical.not_imp.1 hn
    obtain⟨c,ai⟩:=OF B.2
    grind
  grind
theorem psD(t)(bp:t.length<=4000):∃r:Rs LSt,∀{w:World}{a:Option Addr}{cap:Nat},TxA w a t.length t->t.length<=cap->Calls prog 64 #[.slice a t.length cap] w (PaZ w (w.heap.size+1) r):=by
 rcases rF t.length (jk t) [iq] with S|⟨p,S⟩
 ·rcases vN (jk t) (jk t).length yad with h|⟨i,c,B,N,h3,bU⟩
  ·have aw:∀aa∈jk t,isN aa->kr aa.text:=λaa aD hn=>by
    obtain⟨j,hj,rfl⟩:=List.getElem_of_mem aD
    have:=h j hj
    rw[yai,yam hj]at this
    exact this hn
   obtain⟨af,ax⟩:=Jn S;obtain⟨r,g,az⟩:=ze af LSt.zero;exact⟨r,λf aI=>Ec f bp aI S aw ax (az g yad)⟩
  exact⟨.error (c,((jk t).getD i i1).pos),λf aI=>Ed f bp aI S B N h3 bU⟩
 exact⟨.error (2,p),λf aI=>Ac f bp aI S⟩
theorem Bk{w g t}(h:YS w (some ⟨g,0,none⟩) t.length (gX t)):TxA w (some ⟨g,0,none⟩) t.length t:=
 ⟨rfl,λhn=>by
  rcases h.at_ with e|⟨aI,an,e,h3,bp⟩
  ·omega
  ·exact⟨aI,an,e,rfl,h3,λk J=>by rw[bp k J,qP t k J]⟩⟩
