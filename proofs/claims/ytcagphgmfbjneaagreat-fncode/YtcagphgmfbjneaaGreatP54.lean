import Derived.Test.YtcagphgmfbjneaaGreatP53
import Derived.Test.YtcagphgmfbjneaaGreatP46
namespace Go.Proofs.Z
variable{Zp:Prop}
open Tryz Go.RowKit Flt
set_option maxRecDepth 1000000
set_option maxHeartbeats 0
section
attribute[local go_sem] eE eD eC
theorem dC.qeb(h:Zp:=by
 clear ci Z ae;cases aX:iN st.names a with
 |some d=>
  exact qak
 |none=>
  exact qfs):Zp:=h
theorem dC.qfn(h:Zp:=by
 rw[show(k::n::l::(us++bc::q::ts)).getD 0 _=k from rfl]at c0;rw[show(k::n::l::(us++bc::q::ts)).getD 1 _=n from rfl]at ci Z ae;rw[O,show GO=[100,101,102] from rfl]at c0;exact qgr):Zp:=h
theorem dC.qft(h:Zp:=by
 have aC:V (r=Hd st ⟨bf,Y,a⟩ ps e):=by
  have h:=HR.o;rw[vr HFn.o]at h;exact(h8 h).symm
 have bx:V (r=match oW us 0 with|some p=>.error (3,p)|none=>.ok {st with names:=st.names++[.fn a ps e]}):=by
  show _=_;rw[aC.o];unfold Hd oW;rw[List.take_zero,List.drop_zero,b8.o];rfl
 clear HR HFn aC;go_upto_region 24 with fail;go_wp2_with fail;go_loopw [11] (λba H=>H=ax/\∃j:Nat,j<=bh/\ba=h1 (3+(j:Int))) (λba _=>3+bh-(intOf ba).toNat)
 case atStart=>grind
 case round=>
  obtain⟨rfl,j,hj,rfl⟩:=hrel;by_cases hlt:j<bh
  ·obtain⟨aP,_,_⟩:=cd.o _ HK.o j hlt;have aw:=bR.o j hlt;generalize (us.getD j _).sym=aT at aP aw;have bJ:(aT !=[41])=true:=by unfold bne;rw[aw];rfl
   go_wp2_with fail;go_roundw;exact⟨trivial,j+1,by omega,by go_num⟩;simp[intOf];omega
  obtain rfl:j=bh:=xaa;have aP:=bC.o _ HK.o;obtain⟨lo,(aI:V _)⟩:∃lo,lo=wr.heap.size:=⟨_,rfl⟩
  have HR0:V (TR wr lo _ (noC (us.take 0))):=TR.nil _ _;have b7:V _:=Nat.le_of_eq aI.o.symm;have cy:V (∀bY,lo<=bY->_):=λbY co=>aW.o.ws.far2 (yao HK.o.size (yao b7.o co));have cA:V (∀(ax bo:World) (v:Value) (b5:List _),Kept 0 0 _ _->TR _ _ v b5->Chg _ ax bo->_):=λax bo v b5 aj d4 aK=>Cz b7.o aj d4 aK;go_upto_region 27 with fail;clear aP;go_wp2_with fail;go_loopw [12,13] (λer S H=>∃i:Nat,i<=j/\S=h1 (3+(i:Int))/\V (Kept 0 0 wr H)/\V (TR H lo er (noC (us.take i)))/\V (oW us i=oW us 0)) (λ_ S _=>3+j-(intOf S).toNat)
  case atStart=>exact⟨0,yae,rfl,(show V _ from iv),HR0,(show V _ from rfl)⟩
  case round=>
   obtain⟨i,hi,rfl,aG,bm,bS⟩:=hrel;clear HR0;have F:V _:=HK.o.trans aG.o;by_cases cr:i<j
   ·have HQ:V _:=λH aj=>cd.o H aj i cr;have br:V _:=λc=>Cg (i1 ag.o cr) c;have aS:V _:=λc=>Jy (i1 ag.o cr) c;have cR:=aI.o;generalize us.getD i _=C at HQ br aS;obtain⟨bk,w,bB⟩:=C;simp only at HQ br aS;obtain⟨aP,_,_⟩:=HQ.o _ F.o;have cO:V (lo<=wr.heap.size):=by show _<=_;rw[aI.o];exact aG.o.size
    clear cR;cases al:(bk==[44])
    ·obtain⟨e4,cB,bu⟩:=aS.o al;have b6:V _:=e4;have aZ:V _:=cB;have af:V _:=bu;obtain⟨bH,dv,b4⟩:=pF bm.o;subst b4
     have cG:V ((noC (us.take i)).length<=i):=by
      show _<=_;unfold noC;exact yao (List.length_filter_le _ _) (by rw[List.length_take];omega)
     clear e4 cB bu br aS;generalize bM:noC _=B at bm b6 aZ af cG⊢;clear bM;have cM:=cG.o;go_upto_region 32 with fail;clear aP;go_wp2_with fail;go_loopw [14] (λcq H=>∃x:Nat,x<=B.length/\cq=h1 x/\V (Kept 0 0 wr H)/\V (∀y,y<x->((B.getD y ih).text==bB)=false)) (λcq _=>B.length-(intOf cq).toNat)
     case atStart=>exact⟨0,yae,rfl,(show V _ from iv),(show V _ from λy bp=>by omega)⟩
     case round=>
      obtain⟨x,ap,rfl,bb,ck⟩:=hrel;have b:V _:=F.o.trans bb.o;have bZ:V _:=aG.o.trans bb.o;obtain⟨aP,ay,aB⟩:=HQ.o _ b.o;have bT:V _:=bm.o.keep bb.o;have cz:V _:=yao cO.o bb.o.size;by_cases cD:x<B.length
      ·obtain⟨bY,b3,bG,_,a6,_⟩:=TR.at_ bT.o xaa;cases bG;have cf:=a6.c2 x cD;rw[Nat.zero_add]at cf;generalize cI:(B.getD x _).text=cU at cf;have bA:V _:=cI;clear cI a6;have ct:V _:=ck.o;have cC:V _:=bb.o;go_upto_region 35 with fail;go_quiet (fail)
       have a0:V _:=b.o.trans (eH 0 0 _ nq);have cp:V _:=cC.o.trans (eH 0 0 _ nq);clear aP ay aB cf b bb bZ bT cz cC;generalize wr.drewN _=cc at a0 cp⊢;cases aA:(cU==bB)
       ·have cJ:V (∀y,y<x+1->((B.getD y _).text==bB)=false):=λy bp=>by
         by_cases c:y=x
         ·subst c;rw[bA.o];exact aA
         ·exact ct.o y xaa
        go_wp2_with fail;go_roundw;exact⟨x+1,by omega,by go_num,cp,cJ⟩;simp[intOf];omega
       have J:V (r=.error (3,w)):=by
        have az:B.any (λq=>q.text==bB)=true:=by
         rw[List.any_eq_true];refine⟨_,?_,i1 bA.o aA⟩;rw[yai,yam cD];exact List.getElem_mem _
        show _=_;rw[bx.o,<-bS.o,aZ.o az]
       have bE:V _:=jw (aW.o.ws.keep a0.o).c5 (aW.o.ws.keep a0.o).c6 (aW.o.ws.keep a0.o).fr 3 w (Mst P u1 u2 u3 u4) (.inl rfl);obtain⟨_,ay,_⟩:=HQ.o _ a0.o;clear ct aZ af b6;go_wp2_with (go_at_call 111;refine yaj bE.o ?_;rintro e bD ⟨rfl,G⟩);refine yaz (v:=.tuple #[]) (by simp[results,results99,go_sem]) rfl ?_;rw[J.o];exact⟨rfl,G.c5,G.c6,(Mv.of a0.o).bad G.chg⟩
      obtain rfl:x=B.length:=xaa
      have bP:V (oW us (i+1)=oW us 0):=by
       show _=_;rw[af.o ?_]
       ·exact bS.o
       rw[List.any_eq_false];intro y bp;obtain⟨z,a5,rfl⟩:=List.getElem_of_mem bp;have:=ck.o z a5;rw[yai,yam a5]at this;simpa using this
      have aH:=zH wr ⟨bk,w,bB⟩ 137;have aN:=eA 0 0 wr (.cells #[eK bk,h1 w,eK bB] 137);have ca:V _:=TR.keep bT.o aN;have K:V _:=bZ.o.trans aN;clear bT ck aZ af bm bb b bZ;simp only at aH;go_wp2_with (first|(at_builtin;refine oJ _ rfl _ _ rfl _ _ _ (by rfl) ca.o _ _ (by rfl) aH ?c2 ?c3 ?_)|fail)
      case c2=>omega
      case c3=>have:=cz.o;simp;omega
      intro g9 cap9 n9 bn an b9 bF ch;have au:V _:=cA.o _ _ _ _ K.o ca.o bF;have aL:V _:=b9;rw[<-b6.o]at aL;clear b9 bF ch an aN aH ca K aP ay aB;go_wp2_with fail;go_roundw;exact⟨i+1,by omega,by go_num,au,aL,bP⟩;simp[intOf];omega
    obtain⟨e4,ce⟩:=br.o al;have aq:V _:=bm.o;rw[<-e4]at aq;have bP:V (oW us (i+1)=oW us 0):=by show _=_;rw[ce];exact bS.o
    clear e4 ce br aS;go_wp2_with fail;go_roundw;exact⟨i+1,by omega,by go_num,aG,aq,bP⟩;simp[intOf];omega
   obtain rfl:i=j:=xaa;have aq:V _:=bm.o;rw[yap (by rw[ag.o];exact yad),b8.o]at aq
   have cw:V (r=.ok {st with names:=st.names++[.fn a ps e]}):=by
    have aO:oW us i=none:=by
     unfold oW;rw[List.drop_eq_nil_of_le (by rw[ag.o];exact yad)];rfl
    show _=_;rw[bx.o,<-bS.o,aO]
   clear bm bS bx cd bC bR b8 cA;obtain⟨bH,dv,b4⟩:=pF aq.o
   have cP:V (TkR _ _ bH _ _):=⟨rfl,λak=>by
    obtain⟨bY,b3,bG,co,a6,_⟩:=TR.at_ aq.o ak
    rw[b4]at bG
    cases bG
    exact⟨_,0,rfl,cy.o _ co,a6⟩⟩
   have cN:V _:=bl.o _ F.o;subst b4;have bw:V _:=T.o.keep aG.o;have cu:V (Mv _ W (Mst P u1 u2 u3 u4) _):=Mv.of F.o;have a8:=aW.o.ws.keep F.o;have bi:=bg.o;have bW:=aW.o.gd;have cj:V _:=bX;clear aq cy bl T aW bL U aV aG ag aI b7;obtain⟨b1,bd,hz0,hz1,hz2⟩:=nU;have bz:=a8.c3;have cx:=a8.fr 3;have aM:=a8.lt;have b0:I<=wr.heap.size:=ix a8.sz
   obtain⟨a4,cK,e4⟩:=jy a8.r4;have aJ:V (u4.ownBlock≠some P/\u4.ownBlock≠some _):=⟨a8.np.2.2.2,λc=>bi (.inr (.inr (.inr (.inr c))))⟩
   exact qgx):Zp:=h
theorem dC.qgs(h:Zp:=by
 have cS:us.length+5<m:=xaa
 have cn:∀j,(k::⟨bf,Y,a⟩::l::(us++bc::q::ts)).getD (3+j) _=(us++bc::q::ts).getD j ih:=λj=>by
  rw[Nat.add_comm];rfl
 have cd:V (∀H,Kept 0 0 W H->∀j,j<us.length->H.cell? _=some _/\H.cell? _=some _/\H.cell? _=some _):=λH aj j hj=>by
  have t:=ad.tk.keep aj
  have aP:=t.c0 (3+j) xaa
  have ay:=t.c1 (3+j) xaa
  have aB:=t.c2 (3+j) xaa
  rw[cn,rT _ _ _ _ hj]at aP ay aB
  exact⟨aP,ay,aB⟩
 have bC:V (∀H,Kept 0 0 W H->H.cell? _=some (eK [41])):=λH aj=>by
  have aP:=(ad.tk.keep aj).c0 (3+us.length) xaa
  rw[cn,yai,yas yad,Nat.sub_self]at aP
  rw[<-aF]
  exact aP
 have bR:V (∀j,j<us.length->((us.getD j ih).sym==[41])=false):=λj hj=>MC aR _ (by
  simp_all)
 have b8:V _:=MB aR
 have bl:V (∀H,Kept 0 0 W _->TkR _ H _ _ _):=λH aj=>by
  have t:=(ad.tk.keep aj).in_ (3+us.length+2) m ts (by
   rw[show 3+us.length+2=(us.length+2)+3 by omega,List.drop_succ_cons,List.drop_succ_cons,List.drop_succ_cons,List.drop_append,List.drop_eq_nil_of_le xaa,show us.length+2-us.length=2 by omega]
   simp only[List.nil_append,List.drop_succ_cons,List.drop_zero]
   rw[yap xaa]) yad
  exact⟨t.len,λ_=>⟨g,_,rfl,ad.tg,t⟩⟩
 have cQ:V (TsOK ts):=⟨by omega,λt ht=>ad.ti t (by simp[ht]),λt ht=>ad.tn t (by simp[ht])⟩
 have bj:V _:=az;have b2:us.length<=5000:=xaa;clear h ad O aR aF az cn;generalize cH:us.length=bh at*;have ag:V _:=cH;clear cH ao;go_enter func99,ntmps99;go_upto_region 20 with fail;go_upto_region 21 with fail;change Code.wp _ _ _ _ (W.alloc (.cells #[eK _,.int _ _,eK _] 137));exact qea):Zp:=h
theorem dC.qgy(h:Zp:=by
 generalize bQ:ps.length=cT at*;clear bQ;have ea:IntKind.i64.wrap (3+i+2)=3+i+2:=by rw[IntKind.wrap_i64];omega
 have cW:(3+(i:Int)+2).toNat=3+i+2:=xaa;have cX:(0:Int)<=3+i+2:=xaa;have c6:3+(i:Int)+2<=m:=xaa;have cV:¬(cap=3+i+2):=xaa;go_upto_region 38 with fail
 go_region_law
  ((refine step_append_lies _ rfl _ _ _ rfl I 162 _ _ 5 _ underlying141 bd hz0 hz1 hz2 rfl xab _ _ _ (by simp[Act.eval]) (lU bq.o 1 _) _ 1 1 (Bc.cells ⟨_,_,0,_,_,_,_,_,_⟩) (by simp[Act.eval]) rfl (Ju _ _ _) (PF _) xab (by unfold maxLen;omega) xaa yag _ rfl ?_;intro g9 cap9 bn bU bK bO bV;have aY:=kR bK aM aJ.o.1 bz;have bN:=far2 bK aM aJ.o.1 cx;have ar:=kR bK a2 aJ.o.2 a9))
 all_goals
  have be:=bO.imp id (λe=>Nat.le_of_eq e.symm)
  have ab:=(eA 0 0 wr (.cells #[eK a,.bool true,h1 0,.slice bH cT dv,.slice (some ⟨g,off+(3+i+2)*3,none⟩) (m-(3+i+2)) (cap-(3+i+2))] 162)).trans (eH 0 0 _ 1)
  obtain⟨(u:V _),Q⟩:=(bv.o.keep ab).nms_ (d:=.fn a _ e) (n9:=N+1) (fT bK) (by rw[yal,HN.o];rfl) (by rw[yg,yh];exact bU) be (λmm=>⟨rfl,rfl,cP.o.mv ((Mv.of ab).trans mm),_,bj.o,⟨cQ.o,by show m-(3+i+2)<=cap-(3+i+2);have:=cj.o;omega⟩,cN.o.mv ((Mv.of ab).trans mm)⟩)
  have aQ:V _:=(cu.o.keep ab).trans Q
  clear Q be ab bU bK bO bV aY bN ar
  go_wp2_with fail
  refine yaz (v:=.tuple #[]) (by simp[results,results99,go_sem]) rfl ?_
  rw[cw.o]
  exact⟨rfl,_,_,_,_,_,u.o,aQ.o⟩):Zp:=h
open dC in
theorem A1{f W P I u1 u2 u3 u4 bs st g off m cap k n l bc q e ps us ts}(ad:TrIn W P I u1 u2 u3 u4 bs st none 0 [] g off m cap (k::n::l::(us++bc::q::ts)))(O:k.sym=GO)(aR:PPz ps us)(aF:bc.sym=[41])(az:Pr 2 [e] ts){r}(h:iz f st (.defS n ps e)=some r):
  Calls prog 99 #[hZ P,.slice (some ⟨g,off,none⟩) m cap] W (StO W P I u1 u2 u3 u4 r):=by
 have ai:=iZ az;have ao:=ad.tk.len;simp only[yaq,yal]at ao;exact qfm
end
section
variable{s:Sm}{ts:List Tok}
theorem Jz{f W P I u1 u2 u3 u4 bs st g off m cap}(ad:TrIn W P I u1 u2 u3 u4 bs st none 0 [] g off m cap ts)(aQ:PSm s ts){r}(h:iz f st s=some r):
  Calls prog 99 #[hZ P,.slice (some ⟨g,off,none⟩) m cap] W (StO W P I u1 u2 u3 u4 r):=by
 cases aQ with
 |inS O _ _ ai=>exact Mz ad O ai h
 |letS O _ _ az=>exact Jv ad O az h
 |rep O hi _ _ az=>exact Jt ad O hi az h
 |def0 O _ _ aF _ az=>exact A1 ad O (.inl ⟨rfl,rfl⟩) aF az h
 |defS O _ _ aR aF _ az=>exact A1 ad O (.inr aR) aF az h
 |outS O az=>exact Jr ad O az h
theorem QW(aQ:PSm s ts)(hi:∀t∈ts,t.sym=ik->Dgs t.text):Qh s:=by
 cases aQ with
 |inS O _ _ ai=>exact hi _ xac ai
 |letS O _ _ az=>exact jm az (λt ht=>hi t (by simp[ht])) _ xac
 |rep O F _ _ az=>exact⟨hi _ xac F,jm az (λt ht=>hi t (by simp[ht])) _ xac⟩
 |def0 O _ _ aF _ az=>exact jm az (λt ht=>hi t (by simp[ht])) _ xac
 |defS O _ _ aR aF _ az=>exact jm az (λt ht=>hi t (by simp[ht])) _ xac
 |outS O az=>exact jm az (λt ht=>hi t (by simp[ht])) _ xac
theorem QX(aQ:PSm s ts):0<ts.length:=by cases aQ<;>simp
end
section
attribute[local go_sem] eE eD eC
variable{w:World}{a:Option Addr}{n b cap:Nat}{t:List UInt8}
theorem sD(n):∀(ts:List Tok) (st:List (List UInt8)),ft n ts st=-1\/∃p:Nat,ft n ts st=(p:Int)
 |[],st=>by
  grind[ft]
 |t::ts,st=>by
  rw[ft]
  split
  ·grind
  ·split
   ·exact sD n _ _
   grind
abbrev wW:Value:=eX none 0 0 none 0 0 none 0 0
def PaE(w:World)(c:Int)(p:Nat)(e:Ending)(w':World):Prop:=e=.returned (.tuple #[wW,.int .i64 c,.int .i64 (p:Int)])/\Kept 0 0 w w'
theorem JA(w a cap):Calls prog 107 #[.slice a 0 cap,h1 0] w λe B=>e=.returned (h1 0)/\B=w:=by
 go_enter func107,ntmps107;go_wp2_with fail;go_loopw [1] (λS H=>H=w/\S=h1 0) (λ_ _=>0)
 case atStart=>grind
 case round=>
  obtain⟨rfl,rfl⟩:=hrel;go_wp2_with fail;go_ret;exact⟨rfl,rfl⟩
theorem Ch(w a cap):Calls prog 96 #[.slice a 0 cap] w λe B=>e=.returned (.slice none 0 0)/\B=w:=by
 have au:V _:=JA w a cap;go_enter func96,ntmps96;go_wp2_with (go_at_call 107;refine yaj au.o ?_;rintro e am ⟨rfl,X⟩;obtain rfl:=X.symm);go_loopw [3,4] (λaw S H=>H=w/\S=h1 0/\aw=.slice none 0 0) (λ_ _ _=>0)
 case atStart=>grind
 case round=>
  obtain⟨rfl,rfl,rfl⟩:=hrel;go_wp2_with fail;go_ret;exact⟨rfl,rfl⟩
theorem qm(f:TxA w a n t)(ag:n<=100000)(aW:n<=cap):Calls prog 96 #[.slice a n cap] w λe B=>∃v,e=.returned v/\TR B w.heap.size v (jq t)/\Kept 0 0 w B:=by
 rcases Nat.eq_zero_or_pos n with ak|ak
 ·subst ak;have ht:=List.length_eq_zero_iff.1 f.len;subst ht;refine yaj (Ch w a _) (λe B h=>?_);grind[List.length_eq_zero_iff,qw,TR.nil,Kept.refl]
 obtain⟨g,off,rfl,F⟩:=f.at_ ak;exact Gl w g _ n _ t F ag aW
theorem rV{W o v}(k:Kept 0 0 w W)(hb:w.heap.size<=b):Kept 0 0 w (W.setCell ⟨b,o,none⟩ v):=
 ⟨k.os,k.tape,k.output,by simpa using k.size,λj hj ag=>(Below.heap_setCell W ⟨b,o,none⟩ v j (λe=>by grind)).trans (k.block j hj ag)⟩
theorem A2{W}(k:Kept 0 0 w W)(hb:w.heap.size<=b)(ba bb bc):Kept 0 0 w (((W.setCell ⟨b,0,none⟩ ba).setCell ⟨b,1,none⟩ bb).setCell ⟨b,2,none⟩ bc):=rV (rV (rV k hb) hb) hb
theorem Di(w H:World)(aj:Kept 0 0 (w.alloc (fx none 0 0 none 0 0 none 0 0)) H):H.cell? ⟨w.heap.size,0,none⟩=some (.slice none 0 0)/\H.cell? ⟨w.heap.size,1,none⟩=some (.slice none 0 0)/\H.cell? ⟨w.heap.size,2,none⟩=some (.slice none 0 0)/\∀o,H.frozen? ⟨w.heap.size,o,none⟩=false:=by
 have hlt:w.heap.size<(w.alloc (fx none 0 0 none 0 0 none 0 0)).heap.size:=by simp
 refine⟨(aj.cell hlt xaa).trans ?_,(aj.cell hlt xaa).trans ?_,(aj.cell hlt xaa).trans ?_,λo=>(aj.frozen hlt xaa).trans ?_⟩
 ·rw[yav];rfl
 ·rw[yav];rfl
 ·rw[yav];rfl
 simp_all
theorem TR.slice{W I v ts}(f:TR W I v ts):∃aL aA,v=.slice aL ts.length aA/\(0<ts.length->∃g,aL=some ⟨g,0,none⟩/\I<=g/\TkA W g 0 ts.length ts/\ts.length<=aA):=by
 obtain⟨aL,aA,e⟩:=pF f;refine⟨_,_,e,λak=>?_⟩;obtain⟨g,cap,bg,F,h2,h3⟩:=f.at_ ak;grind
theorem bP.qcd(h:Zp:=by
 have I:V _:=xL am aL (jq t).length aA n (jq t) rfl HL.o (λak=>by grind);rw[bZ.o]at I;have bQ:V _:=av;clear a5 ba bI av;generalize (jq t).length=m at*;go_upto_region 6 with (go_at_call 97;refine yaj I.o ?_;rintro e aU ⟨rfl,aZ⟩);obtain⟨c0,c1,c2,fr⟩:=bv.o aU (bQ.o.trans aZ);have bN:=fr 0;have f1:=fr 1;have f2:=fr 2;obtain⟨bh,aJ,y2⟩:=fd aU a7 _ _ _ c0 c1 c2 (.slice none 0 0) (.slice none 0 0) (.slice none 0 0);have R:V (Kept 0 0 w (((aU.setCell ⟨a7,0,none⟩ (.slice none 0 0)).setCell ⟨a7,1,none⟩ (.slice none 0 0)).setCell ⟨a7,2,none⟩ (.slice none 0 0))):=A2 ((HK.o.trans bQ.o).trans aZ) (Nat.le_of_eq aD.o) _ _ _;clear fr bv I HK bQ aZ bZ;go_wp2_with fail;refine yaz (v:=.tuple #[wW,h1 2,h1 p]) (by simp[results,results83,go_sem,bh,aJ,y2]) rfl ?_;exact⟨rfl,R.o⟩):Zp:=h
open bP in
theorem A3(f:TxA w a n t)(ag:n<=4000)(aW:n<=cap){p:Nat}(aQ:ft n (jq t) [im]=(p:Int)):Calls prog 83 #[.slice a n cap] w (PaE w 2 p):=by
 have aY:¬(4000:Int)<(n:Int):=xaa;have aN:=eA 0 0 w (fx none 0 0 none 0 0 none 0 0);have bI:V _:=qm (f.keep aN) xaa aW;have HL:V ((jq t).length<=5000):=by show _<=_;have:=qw t;have:=f.len;omega
 have bv:V (∀H,Kept 0 0 (w.alloc (fx none 0 0 none 0 0 none 0 0)) H->H.cell? ⟨w.heap.size,0,none⟩=some (.slice none 0 0)/\H.cell? ⟨w.heap.size,1,none⟩=some (.slice none 0 0)/\H.cell? ⟨w.heap.size,2,none⟩=some (.slice none 0 0)/\∀o,H.frozen? ⟨w.heap.size,o,none⟩=false):=λH aj=>by
  have hlt:w.heap.size<(w.alloc (fx none 0 0 none 0 0 none 0 0)).heap.size:=by simp
  refine⟨(aj.cell (p:=⟨w.heap.size,0,none⟩) hlt xaa).trans ?_,(aj.cell (p:=⟨w.heap.size,1,none⟩) hlt xaa).trans ?_,(aj.cell (p:=⟨w.heap.size,2,none⟩) hlt xaa).trans ?_,λo=>(aj.frozen (p:=⟨w.heap.size,o,none⟩) hlt xaa).trans ?_⟩
  ·rw[yav];rfl
  ·rw[yav];rfl
  ·rw[yav];rfl
  simp_all
 have HK:V _:=aN;have bZ:V _:=aQ;have Z:0<=(p:Int):=xaa;clear aN f aQ;go_enter func83,ntmps83;go_upto_region 1 with fail;change Code.wp _ _ _ _ (w.alloc (fx none 0 0 none 0 0 none 0 0));generalize w.alloc (fx none 0 0 none 0 0 none 0 0)=aH at bI bv HK⊢;generalize a2:w.heap.size=a7 at bv⊢;exact qcc
end
section
variable{ss:List Sm}{r:Rs (LSt×Nat)}{ts:List Tok}
theorem MD(h:PGm ss ts){k}(O:(ts.getD k ih).sym=[59])(hb:∀j,j<k->(ts.getD j ih).sym≠[59]):∃s Q,ss=s::Q/\PSm s (ts.take k)/\PGm Q (ts.drop (k+1)):=by
 cases h with
 |nil=>simp_all[ih]
 |cons aw al aK=>
  rename_i s Q ts us c;rcases Nat.lt_trichotomy k ts.length with hlt|rfl|hlt
  ·grind[Kx]
  ·refine⟨s,_,rfl,?_,?_⟩
   ·simp_all
   simp_all
  grind
theorem ME(h:PGm ss ts)(hb:∀j,j<ts.length->(ts.getD j ih).sym≠[59]):ss=[]/\ts=[]:=by
 cases h with
 |nil=>grind
 |cons aw al aK=>
  rename_i s Q ts us c;exfalso;refine hb ts.length xac ?_;simp_all
def EC{α:Type}(r:Rs α):Prop:=∀c p,r=.error (c,p)->c≠0
theorem EC.ok{J x}:EC (.ok x:Rs J):=λc p h=>by cases h
theorem EC.err{J c p}(h:c≠0):EC (.error (c,p):Rs J):=λt f e=>by grind
theorem kJ(st v p):EC (fI st v p):=by
 unfold fI;split
 ·exact .err xab
 exact .ok
theorem yN(n p):∀(xs:List Nat) (st:LSt),EC (iu n p st xs)
 |[],st=>by rw[iu];exact .ok
 |i::r,st=>by
  rw[iu]
  split
  ·cases aQ:fI st (eJ 10 n (i:Int) 0 0) p with
   |error q=>obtain⟨c,f⟩:=q;exact .err (kJ _ _ _ c _ aQ)
   |ok y=>
    obtain⟨ar,j⟩:=y
    simp only
    cases ba:iu n p ar r with
    |error q=>obtain⟨c,f⟩:=q;exact .err (yN n p r _ c _ ba)
    |ok y=>exact .ok
  ·cases ba:iu n p st r with
   |error q=>obtain⟨c,f⟩:=q;exact .err (yN n p r _ c _ ba)
   |ok y=>exact .ok
theorem Ci(st xs p):EC (jT st xs p):=by
 unfold jT;split
 ·exact yN _ _ _ _
 exact .err xab
theorem rW(st m p):EC (iC st m p):=by
 unfold iC;split
 ·exact .err xab
 exact .ok
theorem PG(st o a b):EC (qM st o a b):=by
 unfold qM;cases ba:jT st [a,b] o.pos with
 |error q=>obtain⟨c,f⟩:=q;exact .err (Ci _ _ _ c _ ba)
 |ok y=>exact kJ _ _ _
theorem MF(st k a b):EC (qN st k a b):=by
 unfold qN;cases ba:jT st [a,b] k.pos with
 |error q=>obtain⟨c,f⟩:=q;exact .err (Ci _ _ _ c _ ba)
 |ok y=>
  simp only;split
  ·exact kJ _ _ _
  cases aQ:fI y.1 (eJ 4 (eW y.1 (y.2.getD 0 0)) (y.2.getD 0 0:Nat) (y.2.getD 1 0:Nat) 0) k.pos with
  |error q=>grind[kJ]
  |ok z=>exact kJ _ _ _
theorem PH(st k a b c):EC (ye st k a b c):=by
 unfold ye;cases ba:jT st [a,b,c] k.pos with
 |error q=>obtain⟨c,f⟩:=q;exact .err (Ci _ _ _ c _ ba)
 |ok y=>exact kJ _ _ _
theorem Fr(st k a n):EC (mi st k a n):=by
 unfold mi;split
 ·split
  ·exact .err xab
  exact kJ _ _ _
 exact xia
theorem Fs(st k a i n):EC (mj st k a i n):=by
 unfold mj;split
 ·exact .err xab
 exact xia
theorem MG(st k a x):EC (pN st k a x):=by
 unfold pN;split
 ·exact .err xab
 exact rW _ _ _
theorem PI(st k a x d):EC (pV st k a x d):=by
 unfold pV;split
 ·cases aQ:fI st (eJ 10 (eW st x) (d:Int) 0 0) k.pos with
  |error q=>grind[kJ]
  |ok y=>exact rW _ _ _
 split
 ·exact .err xab
 exact rW _ _ _
theorem vu(st)(u:Loc)(t):EC (fi st u t):=by
 unfold fi;split
 ·exact .ok
 split
 ·exact .ok
 exact .err xab
theorem lQ{a p}(F:∀r,a=some r->EC r)(h2:∀s x,∀r,p s x=some r->EC r):∀r,ju a p=some r->EC r:=λr h=>by
 cases az:a with
 |none=>rw[az]at h;cases h
 |some aq=>
  rw[az]at h
  rcases aq with q|⟨s,x⟩
  ·cases h<;>grind
  ·exact h2 s x r h
theorem Dj{p}(aQ:∀s e r,p s e=some r->EC r):∀(es:List Ex) (st:LSt) (r:Rs (LSt×List Nat)),fQ p st es=some r->EC r
 |[],st,r,h=>by rw[fQ]at h;cases h;exact .ok
 |e::es,st,r,h=>by
  rw[fQ]at h
  cases F:p st e with
  |none=>grind
  |some aq=>
   rw[F]at h
   rcases aq with ay|⟨ar,x⟩
   ·cases h;exact λc p a2=>aQ _ _ _ F c p (by cases a2;rfl)
   ·simp only at h
    cases h2:fQ p ar es with
    |none=>grind
    |some aT=>
     rw[h2]at h
     rcases aT with aB|⟨aW,ys⟩
     ·cases h;exact λc p a2=>Dj aQ _ _ _ h2 c p (by cases a2;rfl)
     ·cases h;exact .ok
theorem tJ:∀(f:Nat) (st:LSt) (u:Loc) (e:Ex) (r:Rs (LSt×Nat)),eM f st u e=some r->EC r
 |0,st,u,e,r,h=>by rw[eM]at h;cases h
 |f+1,st,u,e,r,h=>by
  have G:∀st u e r,eM f st u e=some r->_:=λst u e r h=>tJ f _ _ e r h
  have g:∀{a r:Rs (LSt×Nat)},EC a->some a=some r->_:=λh e=>by cases e;exact h
  cases e with
  |num t=>rw[eM]at h;exact g (kJ _ _ _) h
  |name t=>
   rw[eM]at h
   cases aN:fi st u t with
   |error q=>rw[aN]at h;obtain⟨c,p⟩:=q;exact g (.err (vu _ _ _ c p aN)) h
   |ok v=>rw[aN]at h;exact g .ok h
  |neg o a=>grind[eM,lQ,kJ]
  |bin o a b=>grind[eM,lQ,PG]
  |call t es=>
   rw[eM]at h
   split at h
   ·split at h
    ·split at h
     ·cases h
     ·rename_i q az
      exact λc p a2=>Dj (λs e r h=>G s _ e r h) _ _ _ az c p (by cases h;cases a2;rfl)
     ·split at h
      ·exact g (.err xab) h
      ·exact G _ _ _ r h
    ·exact g (.err xab) h
   ·exact g (.err xab) h
  |key1 k a=>
   grind[eM,lQ,kJ]
  |key2 k a b=>grind[eM,lQ,MF]
  |key3 k a b c=>grind[eM,lQ,PH]
  |keyN k a n=>grind[eM,lQ,Fr]
  |put k a i n=>rw[eM]at h;exact lQ (λr h=>G _ _ _ r h) (λs x r h=>g (Fs _ _ _ _ _) h) r h
  |grad k a x=>
   rw[eM]at h
   cases aN:fi st u x with
   |error q=>rw[aN]at h;obtain⟨c,p⟩:=q;exact g (.err (vu _ _ _ c p aN)) h
   |ok v=>rw[aN]at h;exact lQ (λr h=>G _ _ _ r h) (λs x r h=>g (MG _ _ _ _) h) r h
  |jvp k a x d=>
   rw[eM]at h
   cases aN:fi st u x with
   |error q=>rw[aN]at h;obtain⟨c,p⟩:=q;exact g (.err (vu _ _ _ c p aN)) h
   |ok v=>grind[lQ,PI]
theorem JB{f e i s}:∀(k:Nat) (st:LSt) (r:Rs LSt),od f e i s k st=some r->EC r
 |0,st,r,h=>by rw[od]at h;cases h;exact .ok
 |k+1,st,r,h=>by
  rw[od]at h
  split at h
  ·cases h
  ·rename_i q Y
   cases h
   exact λc p a2=>tJ _ _ _ _ _ Y c p (by cases a2;rfl)
  ·exact JB k _ r h
theorem Dk{s}(h:EC r):EC (qP s r):=by
 exact xjj
theorem MH(h:EC r):EC (Ok r):=by
 exact xjj
theorem MI{f st s r}(h:iz f st s=some r):EC r:=by
 have g:∀{a r:Rs LSt},EC a->some a=some r->_:=λh e=>by cases e;exact h
 cases s with
 |outS k e=>
  simp only[iz]at h;split at h
  ·exact g (.err xab) h
  cases Y:eM f st [] e with
  |none=>rw[Y]at h;cases h
  |some aq=>rw[Y]at h;exact g (MH (tJ _ _ _ _ _ Y)) h
 |rep i n e=>
  simp only[iz]at h;split at h
  ·split at h
   ·exact g (.err xab) h
   exact JB _ _ r h
  exact g (.err xab) h
 |defS n ps e=>
  simp only[iz,pH]at h;split at h
  ·exact g (.err xab) h
  refine g ?_ h;unfold Hd;split
  ·exact .err xab
  exact .ok
 |letS n e=>
  simp only[iz,pH]at h;split at h
  ·exact g (.err xab) h
  cases Y:eM f st [] e with
  |none=>rw[Y]at h;cases h
  |some aq=>rw[Y]at h;exact g (Dk (tJ _ _ _ _ _ Y)) h
 |inS n l=>
  simp only[iz,pH]at h;split at h
  ·exact g (.err xab) h
  refine g ?_ h;unfold inR;split
  ·exact .err xab
  split
  ·exact .err xab
  exact Dk (kJ _ _ _)
end
section
attribute[local go_sem] eE eD eC
variable{a:Option Addr}{t:List UInt8}
abbrev JC:Obj:=.cells #[.slice none 0 0,.slice none 0 0,.slice none 0 0,.slice none 0 0,.int .i64 0,.int .i64 0,.int .i64 0] 143
theorem PJ(W:World)(I)(a7:I<=W.heap.size):WS (W.alloc JC) W.heap.size I (.slice none 0 0) (.slice none 0 0) (.slice none 0 0) (.slice none 0 0) [] LSt.zero:=by
 have nn:(Value.slice none 0 0).ownBlock=none:=rfl;have ay:Apart (.slice none 0 0) (.slice none 0 0):=λk h=>by grind
 refine⟨by simp,λo=>?_,?_,?_,?_,?_,?_,?_,?_,yaw _ _ _ _,yaw _ _ _ _,yaw _ _ _ _,yaw _ _ _ _,⟨by rw[nn];simp,by rw[nn];simp,by rw[nn];simp,by rw[nn];simp⟩,⟨ay,ay,ay,ay,ay,ay⟩,rfl,λi hi=>by simp at hi,a7⟩
 ·simp_all
 all_goals (rw[yav];rfl)
def PaO(w:World)(B:Nat)(st:LSt)(e:Ending)(w':World):Prop:=
 ∃z1 z2 z3,e=.returned (.tuple #[.agg #[z1,z2,z3],.int .i64 0,.int .i64 0])/\w'.ownsRow B 3 1 z1 st.ins.length (st.ins.map (Value.int .i64))/\w'.ownsRow B 86 6 z2 st.vs.length (fN st.vs)/\w'.ownsRow B 3 1 z3 st.outs.length (st.outs.map (Value.int .i64))/\Apart z1 z2/\Apart z1 z3/\Apart z2 z3/\Gd st/\Kept 0 0 w w'
def PaZ(w:World)(B:Nat)(r:Rs LSt)(e:Ending)(w':World):Prop:=match r with
 |.error (c,p)=>PaE w c p e w'
 |.ok st=>PaO w B st e w'
structure Lp2(W0 W':World)(P B:Nat)(T:List Tok)(f:Nat)(r:Rs LSt)(F i:Nat)(st:LSt)(ss:List Sm)(bs:List Bc)(z1 z2 z3 z4:Value):Prop where
 ws:WS W' P B z1 z2 z3 z4 bs st
 mv:Mv (Mst P (.slice none 0 0) (.slice none 0 0) (.slice none 0 0) (.slice none 0 0)) W0 (Mst P z1 z2 z3 z4) W'
 pg:PGm ss (T.drop F)
 pm:oQ f st ss=some r
 gd:Gd st
 nm:NmOK st
 nl:st.names.length<=F
 ns:∀j,F<=j->j<i->(T.getD j ih).sym≠[59]
theorem yP{P b}(h:Mst P (.slice none 0 0) (.slice none 0 0) (.slice none 0 0) (.slice none 0 0) b):b=P:=by
 rcases h with c|c|c|c|c<;>grind[Value.ownBlock]
theorem rX(T:List Tok)(br k):(T.drop br).getD k ih=T.getD (br+k) ih:=by
 simp_all
theorem bQ.qcd(h:Zp:=by
 have I:V _:=xL am aL (jq t).length aA n (jq t) rfl (yao HL.o xab) (λak=>by grind);rw[bZ.o]at I;have ad:V _:=a5;have bQ:V _:=av;clear a5 ba bI av bZ;obtain⟨T,bc⟩:∃T,T=jq t:=⟨_,rfl⟩
 rw[<-bc]at HL bV bO bY I ad⊢;clear bc;have b9:=HL.o;generalize bp:T.length=m at ad I b9⊢;exact qfk):Zp:=h
theorem bQ.qfb(h:Zp:=by
 have bv:V (∀H,Kept 0 0 (w.alloc (fx none 0 0 none 0 0 none 0 0)) H->_):=λH aj=>Di w H aj;have HK:V _:=aN;have bZ:V _:=aQ;have bV:V (∀C∈jq t,C.sym=ik->Dgs C.text):=λC F h2=>Oq (Ah t _ C F h2) (aw C F (.inl h2));have bO:V _:=aw;have bY:V _:=ay;have bj:V _:=ci;clear aN f aQ aw ay ci;go_enter func83,ntmps83;go_upto_region 1 with fail;change Code.wp _ _ _ _ (w.alloc (fx none 0 0 none 0 0 none 0 0));have bL:V ((w.alloc (fx none 0 0 none 0 0 none 0 0)).heap.size=w.heap.size+1):=by show _=_;simp
 generalize w.alloc (fx none 0 0 none 0 0 none 0 0)=aH at bI bv HK bL⊢;generalize a2:w.heap.size=a7 at bv bL⊢;exact qcc):Zp:=h
theorem bQ.qfl(h:Zp:=by
 have bn:V (0<m->∃g,aL=some ⟨g,0,none⟩/\aH.heap.size<=g/\TkA aU g 0 m T/\m<=aA):=λak=>by
  exact xja
 clear I aZ ad bQ;go_wp2_with fail;go_loopw [7] (λS H=>∃i:Nat,i<=m/\S=h1 i/\V (Kept 0 0 aU H)) (λS _=>m-(intOf S).toNat)
 case atStart=>grind[V,Kept.refl]
 case round=>
  obtain⟨i,hi,rfl,aG⟩:=hrel;by_cases hlt:i<m
  ·obtain⟨ao,a9,_,a6,_⟩:=bn.o xaa;have ap:=a6.keep aG.o;subst a9;have aP:=ap.c0 i hlt;have aB:=ap.c2 i hlt;rw[Nat.zero_add]at aP aB;have HN:V (isN (T.getD i ih)->_):=λh=>bO.o _ (by rw[yai,yam (i1 Y.o hlt)];exact List.getElem_mem _) h;generalize T.getD i ih=C at aP aB HN;obtain⟨aT,ps,a8⟩:=C;simp only at aP aB HN;clear a6 ap;have N:=Lib.run_convert_string_bytes (P:=prog) wr 9 22 5 ⟨a8.toArray⟩ underlying9 underlying22 underlying5;have aX:V _:=qO wr 5 a8;have G:V _:=mS wr 5 ⟨a8.toArray⟩;have b2:(⟨a8.toArray⟩:ByteArray).size=a8.length:=rfl;rw[b2]at N;have B:(convert 9 22 (eK a8)).run prog wr=_:=N;clear N b2;cases c1:(aT==[105,110,116])
   ·cases c2:(aT==[100,101,99])
    ·exact xgw
    have ae:V (kD a8):=HN.o (.inr (eq_of_beq c2));exact xci
   have ae:V (kD a8):=HN.o (.inl (eq_of_beq c1));exact xci
  obtain rfl:i=m:=xaa;have bW:V _:=aO.o.trans aG.o;go_upto_region 14 with fail;go_upto_region 15 with fail;change Code.wp _ _ _ _ (wr.alloc JC);have Z:V (a7+1<=wr.heap.size):=by show _<=_;rw[<-bL.o];exact bW.o.size
  have u:V _:=PJ wr (a7+1) Z.o;have X:=eA 0 0 wr JC
  have be:V (0<i->∃g,aL=some ⟨g,0,none⟩/\a7+1<=g/\g<wr.heap.size/\TkA (wr.alloc JC) g 0 i T/\i<=aA):=λak=>by
   obtain⟨g,e,F,h2,h3⟩:=bn.o ak
   exact⟨g,e,by rw[bL.o]at F;exact F,(h2.keep aG.o).lt,(h2.keep aG.o).keep X,h3⟩
  have bX:V _:=bW.o.trans X;clear X bn aG bW;generalize wr.alloc JC=W0 at u be bX⊢;generalize cw:wr.heap.size=P at u be Z⊢;clear cw;have bF:V (Lp2 W0 W0 P (a7+1) T bq r 0 0 LSt.zero ss [] (.slice none 0 0) (.slice none 0 0) (.slice none 0 0) (.slice none 0 0)):=⟨u.o,Mv.refl _ _,by rw[List.drop_zero];exact bY.o,bj.o,KT,KU,yad,λj F h2=>by omega⟩
  go_wp2_with fail;go_loopw [11,12] (λcQ S H=>∃br cc:Nat,br<=i/\cc<=i/\cQ=h1 br/\S=h1 cc/\V ((∃st ss bs aR bd bu bC,br<=cc/\Lp2 W0 H P (a7+1) T bq r br cc st ss bs aR bd bu bC)\/(∃(c:Int) (p:Nat),c≠0/\r=.error (c,p)/\H.cell? ⟨P,5,none⟩=some (h1 c)/\H.cell? ⟨P,6,none⟩=some (h1 p)/\Chg (Mst P (.slice none 0 0) (.slice none 0 0) (.slice none 0 0) (.slice none 0 0)) W0 H))) (λ_ S _=>i-(intOf S).toNat)
  case atStart=>exact⟨0,0,yae,yae,rfl,rfl,(show V _ from .inl ⟨_,_,_,_,_,_,_,yad,bF.o⟩)⟩
  case round=>
   obtain⟨br,cc,b0,bE,rfl,rfl,bx⟩:=hrel;clear bF bY bj u;rcases bx.o with⟨st,ss,bs,aR,bd,bu,bC,cA,L⟩|⟨c,p,al,cj,ce,bb,cg⟩
   ·have k:V _:=L;have cz:=L.ws.c5;clear L bx;by_cases cr:cc<i
    ·obtain⟨ao,a9,b8,cD,b7,cC⟩:=be.o xaa;subst a9;have bw:¬Mst P (.slice none 0 0) (.slice none 0 0) (.slice none 0 0) (.slice none 0 0) ao:=λc=>by have:=yP c;omega
     have U:V _:=b7.keepC k.o.mv.chg bw;have ch:¬Mst P aR bd bu bC ao:=λc=>(k.o.mv.new ao c).elim bw (λc=>ix b7.lt);have cq:V _:=ch;have aP:=U.o.c0 cc cr;rw[Nat.zero_add]at aP;generalize cl:(T.getD cc ih).sym=aT at aP;have bR:V _:=cl;clear cl b7 bw ch;cases c3:(aT==[59])
     ·have bS:∀j,br<=j->j<cc+1->(T.getD j ih).sym≠[59]:=λj F h2=>by
       by_cases e:j=cc
       ·subst e
        rw[bR.o]
        intro d
        rw[d]at c3
        simp at c3
       ·exact k.o.ns j F xaa
      have cx:V (Lp2 W0 wr P (a7+1) T bq r br (cc+1) st ss bs aR bd bu bC):=⟨k.o.ws,k.o.mv,k.o.pg,k.o.pm,k.o.gd,k.o.nm,k.o.nl,bS⟩
      clear bS;go_wp2_with fail;go_roundw;exact⟨br,cc+1,b0,by omega,rfl,by go_num,(show V _ from .inl ⟨st,ss,bs,aR,bd,bu,bC,by omega,cx.o⟩)⟩;simp[intOf];omega
     have b6:=bR.o.trans (eq_of_beq c3);obtain⟨s,Q,ck,bz,b1⟩:=MD k.o.pg (k:=cc-br) (by rw[rX,show br+(cc-br)=cc by omega];exact b6) (λj hj=>by rw[rX];exact k.o.ns (br+j) xaa xaa);have aV:=QX bz;rw[List.length_take]at aV;have cB:br<cc:=xaa;rw[List.drop_drop,show br+(cc-br+1)=cc+1 by omega]at b1;have cW:=k.o.pm;rw[ck]at cW;obtain⟨aq,bK,bU,l⟩:=Ei cW;have bf:∀C∈(T.drop br).take (cc-br),C∈T:=λC h=>List.mem_of_mem_drop (List.mem_of_mem_take h);have cf:TrIn wr P (a7+1) aR bd bu bC bs st none 0 [] ao (0+br*3) (cc-br) (aA-br) ((T.drop br).take (cc-br)):=⟨k.o.ws,k.o.gd,k.o.nm,Js _ _,yae,(λb hb=>by cases hb),U.o.in_ br cc _ rfl xaa,cq.o,by omega,by omega,λC F h2=>bV.o C (bf C F) h2,λC F h2=>bO.o C (bf C F) h2⟩
     have y:V _:=Jz cf bz bK;rw[Nat.zero_add]at y;have HE:V _:=bU;have HO:V _:=l;have co:V _:=MI bK;have ca:V (∀ar,aq=.ok ar->_):=λar e=>Eh k.o.gd k.o.nm (ix k.o.nl) (QW bz (λC F h2=>bV.o C (bf C F) h2)) (i2 e bK);have cX:V _:=b1;clear cf bK bU l bz b1 cW bf ck aV b6;rcases aq with⟨c,p⟩|ar
     ·have J:V _:=HE.o _ rfl;have cn:V (c≠0):=co.o c p rfl;go_wp2_with (go_at_call 99;refine yaj y.o ?_;rintro e bD ⟨rfl,bm⟩);have aS:V _:=bm;have ct:V _:=k.o.mv;clear bm y;go_wp2_with fail;go_roundw;exact⟨cc+1,cc+1,by omega,by omega,by go_num,by go_num,(show V _ from .inr ⟨c,p,cn.o,J.o,aS.o.1,aS.o.2.1,ct.o.bad aS.o.2.2⟩)⟩;simp[intOf];omega
     have sg:=ca.o ar rfl;have ab:V _:=sg;have cu:V _:=HO.o ar rfl;clear sg;go_wp2_with (go_at_call 99;refine yaj y.o ?_;rintro e bD ⟨rfl,x,aJ,y2,y3,y4,bJ,bl⟩);have cx:V (Lp2 W0 bD P (a7+1) T bq r (cc+1) (cc+1) ar Q x aJ y2 y3 y4):=⟨bJ,k.o.mv.trans bl,cX.o,cu.o,ab.o.g,ab.o.nm,i0 ab.o.m k.o.nl,λj F h2=>by omega⟩
     clear bJ bl y k;go_wp2_with fail;go_roundw;exact⟨cc+1,cc+1,by omega,by omega,by go_num,by go_num,(show V _ from .inl ⟨ar,Q,x,aJ,y2,y3,y4,yad,cx.o⟩)⟩;simp[intOf];omega
    obtain rfl:cc=i:=xaa;obtain⟨bM,_⟩:=ME k.o.pg (λj hj=>by rw[List.length_drop,Y.o]at hj;rw[rX];exact k.o.ns (br+j) xaa xaa)
    have J:V (r=.ok st):=by
     have h:=k.o.pm;rw[bM,oQ]at h;exact(h8 h).symm
    have O:V _:=Chg.kept bX.o k.o.mv.chg (λb hb=>by have:=yP hb;have:=Z.o;have:=bL.o;omega);obtain⟨az,b5,a0,fr⟩:=bv.o wr O.o;have bN:=fr 0;have f1:=fr 1;have f2:=fr 2;have bH:=k.o.ws.c0;have bk:=k.o.ws.c1;have p2:=k.o.ws.c2;have an:∀{z:Value}{e s n:Nat}{xs:List Value},wr.ownsRow (a7+1) e s z n xs->z.ownBlock≠some a7:=λaF c=>ix ((eG aF c).1)
    have R:V (Kept 0 0 w (((wr.setCell ⟨a7,0,none⟩ aR).setCell ⟨a7,1,none⟩ bd).setCell ⟨a7,2,none⟩ bu)):=A2 (HK.o.trans O.o) (Nat.le_of_eq aD.o) _ _ _;have R1:V _:=eI (u:=bu) (o:=2) (eI (u:=bd) (o:=1) (eI (u:=aR) (o:=0) k.o.ws.r1 (an k.o.ws.r1)) (an k.o.ws.r1)) (an k.o.ws.r1);have R2:V _:=eI (u:=bu) (o:=2) (eI (u:=bd) (o:=1) (eI (u:=aR) (o:=0) k.o.ws.r2 (an k.o.ws.r2)) (an k.o.ws.r2)) (an k.o.ws.r2);have R3:V _:=eI (u:=bu) (o:=2) (eI (u:=bd) (o:=1) (eI (u:=aR) (o:=0) k.o.ws.r3 (an k.o.ws.r3)) (an k.o.ws.r3)) (an k.o.ws.r3);obtain⟨bh,aJ,y2⟩:=fd wr a7 _ _ _ az b5 a0 aR bd bu;obtain⟨bB,aM,af⟩:=je k.o.ws.r1;obtain⟨bG,bi,bg⟩:=je k.o.ws.r2;obtain⟨b3,aI,ah⟩:=je k.o.ws.r3;have bT:V _:=k.o.ws.ap;have cp:V _:=k.o.gd;clear fr bv an be bM O k;subst af bg ah;go_wp2_with fail;refine yaz (v:=.tuple #[.agg #[.slice bB st.ins.length aM,.slice bG st.vs.length bi,.slice b3 st.outs.length aI],h1 0,h1 0]) (by simp[results,results83,go_sem,bh,aJ,y2]) rfl ?_;rw[J.o,aD.o];exact⟨_,_,_,rfl,R1.o,R2.o,R3.o,bT.o.1,bT.o.2.1,bT.o.2.2.2.1,cp.o,R.o⟩
   have O:V _:=Chg.kept bX.o cg (λb hb=>by have:=yP hb;have:=Z.o;have:=bL.o;omega);obtain⟨az,b5,a0,fr⟩:=bv.o wr O.o;have bN:=fr 0;have f1:=fr 1;have f2:=fr 2;have cd:=yax al;have aC:(c !=0)=true:=by unfold bne;rw[cd];rfl
   have ax:a7≠P:=λe=>ix Z.o
   have cy:(((wr.drew.setCell ⟨a7,0,none⟩ (.slice none 0 0)).setCell ⟨a7,1,none⟩ (.slice none 0 0)).setCell ⟨a7,2,none⟩ (.slice none 0 0)).cell? ⟨P,5,none⟩=some (h1 c):=by
    rw[eV _ _ _ _ _ _ (.inl ax),eV _ _ _ _ _ _ (.inl ax),eV _ _ _ _ _ _ (.inl ax)];exact ce
   have cI:(((wr.drew.setCell ⟨a7,0,none⟩ (.slice none 0 0)).setCell ⟨a7,1,none⟩ (.slice none 0 0)).setCell ⟨a7,2,none⟩ (.slice none 0 0)).cell? ⟨P,6,none⟩=some (h1 p):=by
    rw[eV _ _ _ _ _ _ (.inl ax),eV _ _ _ _ _ _ (.inl ax),eV _ _ _ _ _ _ (.inl ax)];exact bb
   obtain⟨bh,aJ,y2⟩:=fd wr a7 _ _ _ az b5 a0 (.slice none 0 0) (.slice none 0 0) (.slice none 0 0);have bP:(wr.setCell ⟨a7,0,none⟩ (.slice none 0 0)).cell? ⟨a7,0,none⟩=some (.slice none 0 0):=fy _ _ _ _ _ az;have aR:((wr.setCell ⟨a7,0,none⟩ (.slice none 0 0)).setCell ⟨a7,1,none⟩ (.slice none 0 0)).cell? ⟨a7,1,none⟩=some (.slice none 0 0):=fy _ _ _ _ _ ((eV _ _ _ _ _ _ (.inr xaa)).trans b5);have R:V (Kept 0 0 w (((wr.drew.setCell ⟨a7,0,none⟩ (.slice none 0 0)).setCell ⟨a7,1,none⟩ (.slice none 0 0)).setCell ⟨a7,2,none⟩ (.slice none 0 0))):=A2 ((HK.o.trans O.o).trans (eF wr)) (Nat.le_of_eq aD.o) _ _ _;have J:V _:=cj;clear fr bv be cg cj bx ax O al;by_cases cr:cc<i
   ·exact xeo
   exact xeo):Zp:=h
open bQ in
theorem Ft{w n cap}(f:TxA w a n t)(ag:n<=4000)(aW:n<=cap)(aQ:ft n (jq t) [im]=-1)(aw:∀C∈jq t,isN C->kD C.text){ss bq r}(ay:PGm ss (jq t))(ci:oQ bq LSt.zero ss=some r):Calls prog 83 #[.slice a n cap] w (PaZ w (w.heap.size+1) r):=by
 have aY:¬(4000:Int)<(n:Int):=xaa;exact qfa
theorem bR.qcd(h:Zp:=by
 have I:V _:=xL _ _ _ aA n _ rfl (yao HL.o xab) (λak=>by obtain⟨g,e,_,h2,_⟩:=a5 ak;exact⟨g,0,e,h2⟩);rw[bZ.o]at I;have ad:V _:=a5;have bQ:V _:=av;clear a5 ba bI av bZ;obtain⟨T,bc⟩:∃T,T=jq t:=⟨_,rfl⟩
 rw[<-bc]at HL bq Z y ca b I ad⊢;have bC:V _:=bc;clear bc;have b9:=HL.o;generalize bp:T.length=m at ad I b9 bq⊢;have bd:=bq.o;exact qfk):Zp:=h
theorem bR.qfb(h:Zp:=by
 have bv:V _:=λH aj=>Di w H aj;have HK:V _:=aN;have bZ:V _:=aQ;have bq:V _:=bd;have Z:V _:=ax;have y:V _:=ab;have ca:V _:=Q
 have b:V (∀j,((jq t).getD j ih).text.length<=4000):=λj=>by
  have F:=JS t j
  have h2:=f.len
  omega
 clear aN f aQ bd ax ab Q;go_enter func83,ntmps83;go_upto_region 1 with fail;change Code.wp _ _ _ _ (w.alloc (fx _ 0 0 _ 0 0 _ 0 0));have bL:V ((w.alloc (fx none 0 0 none 0 0 none 0 0)).heap.size=w.heap.size+1):=by show _=_;simp
 generalize w.alloc _=aH at bI bv HK bL⊢;generalize a2:w.heap.size=a7 at bv bL⊢;exact qcc):Zp:=h
theorem bR.qfl(h:Zp:=by
 have bn:V (0<m->∃g,aL=some _/\aH.heap.size<=g/\TkA _ g 0 m T/\m<=aA):=λak=>by
  exact xja
 clear I aZ ad bQ;go_wp2_with fail;go_loopw [7] (λS H=>∃i:Nat,i<=b1/\S=h1 i/\V (Kept 0 0 aU H)) (λS _=>b1-(intOf S).toNat)
 case atStart=>exact⟨0,yae,rfl,(show V _ from iv)⟩
 case round=>
  obtain⟨i,hi,rfl,aG⟩:=hrel;have hlt:i<m:=xaa;obtain⟨ao,a9,b8,a6,_⟩:=bn.o xaa;have ap:=a6.keep aG.o;subst a9;have aP:=ap.c0 i hlt;have ay:=ap.c1 i hlt;have aB:=ap.c2 i hlt;have u:V _:=b.o i
  have be:V (∀H,Kept 0 0 _ H->H.cell? _=some _):=λH aj=>by
   have:=(ap.keep aj).c1 i hlt
   rw[Nat.zero_add]at this
   exact this
  rw[Nat.zero_add]at aP ay aB;have bO:a7≠ao:=λe=>ix bL.o
  have HN:V (isN _->(i<b1/\kD _)\/(i=b1/\Hf _ _)):=λh=>by
   rcases Nat.lt_or_ge i b1 with c|c
   ·exact .inl ⟨c,ca.o i c h⟩
   ·have e:i=b1:=xaa
    subst e
    exact .inr ⟨rfl,y.o⟩
  have bB:V (¬isN _->i<b1):=λh=>by
   rcases Nat.lt_or_ge i b1 with c|c
   ·exact c
   ·have e:i=b1:=xaa
    subst e
    exact absurd Z.o h
  have r:V (i=b1->(T.getD _ ih).pos=(T.getD i _).pos):=λe=>by rw[e]
  generalize T.getD i _=C at aP ay aB HN bB r u be;obtain⟨aT,ps,a8⟩:=C;simp only at aP ay aB HN r u be;clear a6 ap;have N:=Lib.run_convert_string_bytes wr 9 22 5 ⟨a8.toArray⟩ underlying9 underlying22 underlying5;have aX:V _:=qO wr 5 a8;have G:V _:=mS wr 5 ⟨a8.toArray⟩;have b2:(⟨a8.toArray⟩:ByteArray).size=a8.length:=rfl;rw[b2]at N;have B:(convert 9 _ (eK _)).run _ _=_:=N;clear N b2;cases c1:(aT==[105,110,116])
  ·cases c2:(aT==[100,101,99])
   ·have P:i<b1:=bB.o (λh=>by
     rcases h with h|h
     ·have h':aT=[105,110,116]:=h
      rw[h']at c1;simp at c1
     ·have h':aT=[100,101,99]:=h
      rw[h']at c2;simp at c2)
    exact xgw
   have ae:V _:=HN.o (.inr (eq_of_beq c2));exact xam
  have ae:V _:=HN.o (.inl (eq_of_beq c1));exact xam):Zp:=h
open bR in
theorem Fu{w n cap}(f:TxA w a n t)(ag:n<=4000)(aW:n<=cap)(aQ:ft n (jq t) [im]=-1){b1 cb}(bd:b1<(jq t).length)(ax:isN ((jq t).getD b1 ih))(ab:Hf ((jq t).getD b1 ih).text cb)(Q:∀j,j<b1->isN ((jq t).getD j ih)->kD ((jq t).getD j ih).text):Calls prog 83 #[.slice a n cap] w (PaE w cb ((jq t).getD b1 ih).pos):=by
 have aY:¬4000<(n:Int):=xaa;exact qfa
end
section
theorem PK{x}(h:¬kD x):∃c,Hf x c:=by
 by_cases g:xw (gU x)
 ·refine⟨5,.inr ⟨g,?_,rfl⟩⟩;rcases Nat.lt_or_ge 15 ((gU x).countP dig) with c|c
  ·exact c
  exact absurd ⟨g,c⟩ h
 exact⟨2,.inl ⟨g,rfl⟩⟩
theorem wX(T:List Tok):∀k,k<=T.length->(∀j,j<k->isN (T.getD j ih)->kD (T.getD j ih).text)\/∃i c,i<k/\isN (T.getD i ih)/\Hf (T.getD i ih).text c/\∀j,j<i->isN (T.getD j ih)->kD (T.getD j ih).text
 |0,_=>.inl (λj hj=>by omega)
 |k+1,O=>by
  rcases wX T k xaa with h|⟨i,c,F,h2⟩
  ·by_cases ag:isN (T.getD k ih)->kD (T.getD k ih).text
   ·grind
   ·have F:=Classical.not_imp.1 ag
    obtain⟨c,al⟩:=PK F.2
    grind
  grind
theorem psD(t)(h4:t.length<=4000):∃r:Rs LSt,∀{w:World}{a:Option Addr}{cap:Nat},TxA w a t.length t->t.length<=cap->Calls prog 83 #[.slice a t.length cap] w (PaZ w (w.heap.size+1) r):=by
 rcases sD t.length (jq t) [im] with X|⟨p,X⟩
 ·rcases wX (jq t) (jq t).length yad with h|⟨i,c,F,h2,h3,bK⟩
  ·have aw:∀C∈jq t,isN C->kD C.text:=λC ao ag=>by
    obtain⟨j,hj,rfl⟩:=List.getElem_of_mem ao
    simp_all
   obtain⟨ss,ay⟩:=Ky X;obtain⟨r,g,aK⟩:=Ad ss LSt.zero;exact⟨r,λf aW=>Ft f h4 aW X aw ay (aK g yad)⟩
  exact⟨.error (c,((jq t).getD i ih).pos),λf aW=>Fu f h4 aW X F h2 h3 bK⟩
 exact⟨.error (2,p),λf aW=>A3 f h4 aW X⟩
theorem Cj{w g t}(h:YS w (some ⟨g,0,none⟩) t.length (gU t)):TxA w (some ⟨g,0,none⟩) t.length t:=
 ⟨rfl,λag=>by
  rcases h.at_ with e|⟨aC,off,e,h3,h4⟩
  ·omega
  ·exact⟨aC,off,e,rfl,h3,λk O=>by rw[h4 k O,rF t k O]⟩⟩
