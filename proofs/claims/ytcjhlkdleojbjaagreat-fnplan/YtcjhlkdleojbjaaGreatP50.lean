import Derived.Test.YtcjhlkdleojbjaaGreatP49
namespace Go.Proofs.Z
variable{Zp:Prop}
open Tryz Go.RowKit Flt
set_option maxRecDepth 1000000
set_option maxHeartbeats 0
section
attribute[local go_sem] eF eE eD
theorem cJ.qdt(h:Zp:=by
 clear cf Z n2;cases ai:iQ st.names u with
 |some d=>
  exact qag
 |none=>
  exact qfk):Zp:=h
theorem cJ.qfj(h:Zp:=by
 rw[show(k::n::l::(us++ay::q::ts)).getD 0 _=k from rfl]at c0;rw[show(k::n::l::(us++ay::q::ts)).getD 1 _=n from rfl]at cf Z n2;rw[O,show Hb=[100,101,102] from rfl]at c0;exact qgd):Zp:=h
theorem cJ.qfl(h:Zp:=by
 have bI:E (r=H4 st ⟨bw,U,u⟩ ps e):=by
  have h:=HR.o;rw[uE HFn.o]at h;exact(hE h).symm
 have bo:E (r=match oK us 0 with|some p=>.error (3,p)|none=>.ok {st with names:=st.names++[.fn u ps e]}):=by
  show _=_;rw[bI.o];unfold H4 oK;rw[List.take_zero,List.drop_zero,cj.o];rfl
 clear HR HFn bI;go_upto_region 24 with fail;go_wp2_with fail;go_loopw [11] (λao I=>I=az/\∃j:Nat,j<=cg/\ao=hA (3+(j:Int))) (λao _=>3+cg-(intOf ao).toNat)
 case atStart=>grind
 case round=>
  obtain⟨rfl,j,hj,rfl⟩:=hrel;by_cases aG:j<cg
  ·obtain⟨aY,_,_⟩:=cw.o _ HK.o j aG;have au:=bU.o j aG;generalize (us.getD j _).sym=aO at aY au;have ch:(aO !=[41])=true:=by unfold bne;rw[au];rfl
   go_wp2_with fail;go_roundw;exact⟨trivial,j+1,by omega,by go_num⟩;simp[intOf];omega
  obtain rfl:j=cg:=xaa;have aY:=bk.o _ HK.o;obtain⟨lo,(aH:E _)⟩:∃lo,lo=wr.heap.size:=⟨_,rfl⟩
  have HR0:E (TR wr lo _ (noC (us.take 0))):=TR.nil _ _;have b8:E _:=Nat.le_of_eq aH.o.symm;have cJ:E (∀bR,lo<=bR->_):=λbR cB=>aU.o.ws.far2 (yao HK.o.size (yao b8.o cB));have cK:E (∀(az bS:World) (v:Value) (b5:List _),Kept 0 0 _ _->TR _ _ v b5->Chg _ az bS->_):=λaz bS v b5 aj d6 bV=>Ce b8.o aj d6 bV;go_upto_region 27 with fail;clear aY;go_wp2_with fail;go_loopw [12,13] (λeB S I=>∃i:Nat,i<=j/\S=hA (3+(i:Int))/\E (Kept 0 0 wr I)/\E (TR I lo eB (noC (us.take i)))/\E (oK us i=oK us 0)) (λ_ S _=>3+j-(intOf S).toNat)
  case atStart=>exact⟨0,yae,rfl,(show E _ from hI),HR0,(show E _ from rfl)⟩
  case round=>
   obtain⟨i,hi,rfl,aI,bd,bB⟩:=hrel;clear HR0;have Q:E _:=HK.o.trans aI.o;by_cases cc:i<j
   ·have bY:E _:=λI aj=>cw.o I aj i cc;have ba:E _:=λc=>BO (hL N.o cc) c;have br:E _:=λc=>Ji (hL N.o cc) c;have c7:=aH.o;generalize us.getD i _=C at bY ba br;obtain⟨aR,s,aX⟩:=C;simp only at bY ba br;obtain⟨aY,_,_⟩:=bY.o _ Q.o;have cV:E (lo<=wr.heap.size):=by show _<=_;rw[aH.o];exact aI.o.size
    clear c7;cases ah:(aR==[44])
    ·obtain⟨e4,cM,bi⟩:=br.o ah;have bZ:E _:=e4;have cd:E _:=cM;have cC:E _:=bi;obtain⟨F,di,bg⟩:=oZ bd.o;subst bg
     have cG:E ((noC (us.take i)).length<=i):=by
      show _<=_;unfold noC;exact yao (List.length_filter_le _ _) (by rw[List.length_take];omega)
     clear e4 cM bi ba br;generalize bA:noC _=w at bd bZ cd cC cG⊢;clear bA;have cA:=cG.o;go_upto_region 32 with fail;clear aY;go_wp2_with fail;go_loopw [14] (λcD I=>∃x:Nat,x<=w.length/\cD=hA x/\E (Kept 0 0 wr I)/\E (∀y,y<x->((w.getD y hG).text==aX)=false)) (λcD _=>w.length-(intOf cD).toNat)
     case atStart=>exact⟨0,yae,rfl,(show E _ from hI),(show E _ from λy bN=>by omega)⟩
     case round=>
      obtain⟨x,an,rfl,ae,cx⟩:=hrel;have G:E _:=Q.o.trans ae.o;have bX:E _:=aI.o.trans ae.o;obtain⟨aY,aC,aL⟩:=bY.o _ G.o;have bK:E _:=bd.o.keep ae.o;have cF:E _:=yao cV.o ae.o.size;by_cases ci:x<w.length
      ·obtain⟨bR,bP,B,_,bH,_⟩:=TR.at_ bK.o xaa;cases B;have cn:=bH.c2 x ci;rw[Nat.zero_add]at cn;generalize cR:(w.getD x _).text=cX at cn;have bl:E _:=cR;clear cR bH;have cH:E _:=cx.o;have cN:E _:=ae.o;go_upto_region 35 with fail;go_quiet (fail)
       have bO:E _:=G.o.trans (eJ 0 0 _ nq);have co:E _:=cN.o.trans (eJ 0 0 _ nq);clear aY aC aL cn G ae bX bK cF cN;generalize wr.drewN _=bc at bO co⊢;cases ap:(cX==aX)
       ·have cT:E (∀y,y<x+1->((w.getD y _).text==aX)=false):=λy bN=>by
         by_cases c:y=x
         ·subst c;rw[bl.o];exact ap
         ·exact cH.o y xaa
        go_wp2_with fail;go_roundw;exact⟨x+1,by omega,by go_num,co,cT⟩;simp[intOf];omega
       have bx:E (r=.error (3,s)):=by
        have ar:w.any (λq=>q.text==aX)=true:=by
         rw[List.any_eq_true];refine⟨_,?_,hL bl.o ap⟩;rw[yai,yam ci];exact List.getElem_mem _
        show _=_;rw[bo.o,<-bB.o,cd.o ar]
       have ck:E _:=jq (aU.o.ws.keep bO.o).c5 (aU.o.ws.keep bO.o).c6 (aU.o.ws.keep bO.o).fr 3 s (Mst P u1 u2 u3 u4) (.inl rfl);obtain⟨_,aC,_⟩:=bY.o _ bO.o;clear cH cd cC bZ;go_wp2_with (go_at_call 100;refine yaj ck.o ?_;rintro e bp ⟨rfl,aB⟩);refine yaz (v:=.tuple #[]) (by simp[results,results76,go_sem]) rfl ?_;rw[bx.o];exact⟨rfl,aB.c5,aB.c6,(Mv.of bO.o).bad aB.chg⟩
      obtain rfl:x=w.length:=xaa
      have a7:E (oK us (i+1)=oK us 0):=by
       show _=_;rw[cC.o ?_]
       ·exact bB.o
       rw[List.any_eq_false];intro y bN;obtain⟨z,bv,rfl⟩:=List.getElem_of_mem bN;have:=cx.o z bv;rw[yai,yam bv]at this;simpa using this
      have b9:=zh wr ⟨aR,s,aX⟩ 119;have a0:=ez 0 0 wr (.cells #[eN aR,hA s,eN aX] 119);have cr:E _:=TR.keep bK.o a0;have aT:E _:=bX.o.trans a0;clear bK cx cd cC bd ae G bX;simp only at b9;go_wp2_with (first|(at_builtin;refine oe _ rfl _ _ rfl _ _ _ (by rfl) cr.o _ _ (by rfl) b9 ?c2 ?c3 ?_)|fail)
      case c2=>omega
      case c3=>have:=cF.o;simp;omega
      intro g9 cap9 n9 bj aw bM aN b6;have a5:E _:=cK.o _ _ _ _ aT.o cr.o aN;have ab:E _:=bM;rw[<-bZ.o]at ab;clear bM aN b6 aw a0 b9 cr aT aY aC aL;go_wp2_with fail;go_roundw;exact⟨i+1,by omega,by go_num,a5,ab,a7⟩;simp[intOf];omega
    obtain⟨e4,b7⟩:=ba.o ah;have K:E _:=bd.o;rw[<-e4]at K;have a7:E (oK us (i+1)=oK us 0):=by show _=_;rw[b7];exact bB.o
    clear e4 b7 ba br;go_wp2_with fail;go_roundw;exact⟨i+1,by omega,by go_num,aI,K,a7⟩;simp[intOf];omega
   obtain rfl:i=j:=xaa;have K:E _:=bd.o;rw[yap (by rw[N.o];exact yad),cj.o]at K
   have cu:E (r=.ok {st with names:=st.names++[.fn u ps e]}):=by
    have aK:oK us i=none:=by
     unfold oK;rw[List.drop_eq_nil_of_le (by rw[N.o];exact yad)];rfl
    show _=_;rw[bo.o,<-bB.o,aK]
   clear bd bB bo cw bk bU cj cK;obtain⟨F,di,bg⟩:=oZ K.o
   have cW:E (TkR _ _ F _ _):=⟨rfl,λal=>by
    obtain⟨bR,bP,B,cB,bH,_⟩:=TR.at_ K.o al
    rw[bg]at B
    cases B
    exact⟨_,0,rfl,cJ.o _ cB,bH⟩⟩
   have cU:E _:=bn.o _ Q.o;subst bg;have bz:E _:=av.o.keep aI.o;have ct:E (Mv _ W (Mst P u1 u2 u3 u4) _):=Mv.of Q.o;have a2:=aU.o.ws.keep Q.o;have cq:=aP.o;have b2:=aU.o.gd;have ce:E _:=bu;clear K cJ bn av aU bE R aS aI N aH b8;obtain⟨bW,a8,b4,b3,b0⟩:=ng;have b1:=a2.c3;have ca:=a2.fr 3;have be:=a2.lt;have cS:J<=wr.heap.size:=hJ a2.sz
   obtain⟨a4,cI,e4⟩:=jr a2.r4;have ad:E (u4.ownBlock≠some P/\u4.ownBlock≠some _):=⟨a2.np.2.2.2,λc=>cq (.inr (.inr (.inr (.inr c))))⟩
   exact qgj):Zp:=h
theorem cJ.qge(h:Zp:=by
 have c8:us.length+5<m:=xaa
 have cy:∀j,(k::⟨bw,U,u⟩::l::(us++ay::q::ts)).getD (3+j) _=(us++ay::q::ts).getD j hG:=λj=>by
  rw[Nat.add_comm];rfl
 have cw:E (∀I,Kept 0 0 W I->∀j,j<us.length->I.cell? _=some _/\I.cell? _=some _/\I.cell? _=some _):=λI aj j hj=>by
  have t:=Y.tk.keep aj
  have aY:=t.c0 (3+j) xaa
  have aC:=t.c1 (3+j) xaa
  have aL:=t.c2 (3+j) xaa
  rw[cy,rD _ _ _ _ hj]at aY aC aL
  exact⟨aY,aC,aL⟩
 have bk:E (∀I,Kept 0 0 W I->I.cell? _=some (eN [41])):=λI aj=>by
  have aY:=(Y.tk.keep aj).c0 (3+us.length) xaa
  rw[cy,yai,yas yad,Nat.sub_self]at aY
  rw[<-aD]
  exact aY
 have bU:E (∀j,j<us.length->((us.getD j hG).sym==[41])=false):=λj hj=>Mo aA _ (by
  simp_all)
 have cj:E _:=Mn aA
 have bn:E (∀I,Kept 0 0 W _->TkR _ I _ _ _):=λI aj=>by
  have t:=(Y.tk.keep aj).in_ (3+us.length+2) m ts (by
   rw[show 3+us.length+2=(us.length+2)+3 by omega,List.drop_succ_cons,List.drop_succ_cons,List.drop_succ_cons,List.drop_append,List.drop_eq_nil_of_le xaa,show us.length+2-us.length=2 by omega]
   simp only[List.nil_append,List.drop_succ_cons,List.drop_zero]
   rw[yap xaa]) yad
  exact⟨t.len,λ_=>⟨g,_,rfl,Y.tg,t⟩⟩
 have c6:E (TsOK ts):=⟨by omega,λt ht=>Y.ti t (by simp[ht]),λt ht=>Y.tn t (by simp[ht])⟩
 have bh:E _:=ar;have bD:us.length<=5000:=xaa;clear h Y O aA aD ar cy;generalize cP:us.length=cg at*;have N:E _:=cP;clear cP am;go_enter func76,ntmps76;go_upto_region 20 with fail;go_upto_region 21 with fail;change Code.wp _ _ _ _ (W.alloc (.cells #[eN _,.int _ _,eN _] 119));exact qds):Zp:=h
theorem cJ.qgk(h:Zp:=by
 generalize bL:ps.length=c9 at*;clear bL;have cl:IntKind.i64.wrap (3+i+2)=3+i+2:=by rw[IntKind.wrap_i64];omega
 have cQ:(3+(i:Int)+2).toNat=3+i+2:=xaa;have dd:(0:Int)<=3+i+2:=xaa;have df:3+(i:Int)+2<=m:=xaa;have dc:¬(cap=3+i+2):=xaa;go_upto_region 38 with fail
 go_region_law
  ((refine step_append_lies _ rfl _ _ _ rfl J 157 _ _ 5 _ underlying123 a8 b4 b3 b0 rfl xab _ _ _ (by simp[Act.eval]) (kE a6.o 1 _) _ 1 1 (Bc.cells ⟨_,_,0,_,_,_,_,_,_⟩) (by simp[Act.eval]) rfl (Je _ _ _) (O0 _) xab (by unfold maxLen;omega) xaa yag _ rfl ?_;intro g9 cap9 bj bF aW bT cz;have aZ:=kG aW be ad.o.1 b1;have bG:=far2 aW be ad.o.1 ca;have ax:=kG aW bq ad.o.2 bb))
 all_goals
  have bQ:=bT.imp id (λe=>Nat.le_of_eq e.symm)
  have aQ:=(ez 0 0 wr (.cells #[eN u,.bool true,hA 0,.slice F c9 di,.slice (some ⟨g,off+(3+i+2)*3,none⟩) (m-(3+i+2)) (cap-(3+i+2))] 157)).trans (eJ 0 0 _ 1)
  obtain⟨(o:E _),H⟩:=(bJ.o.keep aQ).nms_ (d:=.fn u _ e) (n9:=aV+1) (gh aW) (by rw[yal,bm.o];rfl) (by rw[xR,xS];exact bF) bQ (λmm=>⟨rfl,rfl,cW.o.mv ((Mv.of aQ).trans mm),_,bh.o,⟨c6.o,by show m-(3+i+2)<=cap-(3+i+2);have:=ce.o;omega⟩,cU.o.mv ((Mv.of aQ).trans mm)⟩)
  have bf:E _:=(ct.o.keep aQ).trans H
  clear H bQ aQ bF aW bT cz aZ bG ax
  go_wp2_with fail
  refine yaz (v:=.tuple #[]) (by simp[results,results76,go_sem]) rfl ?_
  rw[cu.o]
  exact⟨rfl,_,_,_,_,_,o.o,bf.o⟩):Zp:=h
open cJ in
theorem Aw{f W P J u1 u2 u3 u4 bs st g off m cap k n l ay q e ps us ts}(Y:TrIn W P J u1 u2 u3 u4 bs st none 0 [] g off m cap (k::n::l::(us++ay::q::ts)))(O:k.sym=Hb)(aA:PPz ps us)(aD:ay.sym=[41])(ar:Pr 2 [e] ts){r}(h:iI f st (.defS n ps e)=some r):
  Calls prog 76 #[hy P,.slice (some ⟨g,off,none⟩) m cap] W (StO W P J u1 u2 u3 u4 r):=by
 have af:=iS ar;have am:=Y.tk.len;simp only[yaq,yal]at am;exact qfi
end
section
variable{s:Sm}{ts:List Tok}
theorem Jj{f W P J u1 u2 u3 u4 bs st g off m cap}(Y:TrIn W P J u1 u2 u3 u4 bs st none 0 [] g off m cap ts)(aM:PSm s ts){r}(h:iI f st s=some r):
  Calls prog 76 #[hy P,.slice (some ⟨g,off,none⟩) m cap] W (StO W P J u1 u2 u3 u4 r):=by
 cases aM with
 |inS O _ _ af=>exact Mk Y O af h
 |letS O _ _ ar=>exact Jf Y O ar h
 |rep O hi _ _ ar=>exact Jd Y O hi ar h
 |def0 O _ _ aD _ ar=>exact Aw Y O (.inl ⟨rfl,rfl⟩) aD ar h
 |defS O _ _ aA aD _ ar=>exact Aw Y O (.inr aA) aD ar h
 |outS O ar=>exact Jb Y O ar h
theorem Qg(aM:PSm s ts)(hi:∀t∈ts,t.sym=iK->Dgs t.text):PT s:=by
 cases aM with
 |inS O _ _ af=>exact hi _ xac af
 |letS O _ _ ar=>exact je ar (λt ht=>hi t (by simp[ht])) _ xac
 |rep O F _ _ ar=>exact⟨hi _ xac F,je ar (λt ht=>hi t (by simp[ht])) _ xac⟩
 |def0 O _ _ aD _ ar=>exact je ar (λt ht=>hi t (by simp[ht])) _ xac
 |defS O _ _ aA aD _ ar=>exact je ar (λt ht=>hi t (by simp[ht])) _ xac
 |outS O ar=>exact je ar (λt ht=>hi t (by simp[ht])) _ xac
theorem Qh(aM:PSm s ts):0<ts.length:=by cases aM<;>simp
end
section
attribute[local go_sem] eF eE eD
variable{w:World}{a:Option Addr}{n b cap:Nat}{t:List UInt8}
theorem rT(n):∀(ts:List Tok) (st:List (List UInt8)),fA n ts st=-1\/∃p:Nat,fA n ts st=(p:Int)
 |[],st=>by
  grind[fA]
 |t::ts,st=>by
  rw[fA]
  split
  ·grind
  ·split
   ·exact rT n _ _
   grind
abbrev v7:Value:=eZ none 0 0 none 0 0 none 0 0
def PaE(w:World)(c:Int)(p:Nat)(e:Ending)(w':World):Prop:=e=.returned (.tuple #[v7,.int .i64 c,.int .i64 (p:Int)])/\Kept 0 0 w w'
theorem Jk(w a cap):Calls prog 96 #[.slice a 0 cap,hA 0] w λe B=>e=.returned (hA 0)/\B=w:=by
 go_enter func96,ntmps96;go_wp2_with fail;go_loopw [1] (λS I=>I=w/\S=hA 0) (λ_ _=>0)
 case atStart=>grind
 case round=>
  obtain⟨rfl,rfl⟩:=hrel;go_wp2_with fail;go_ret;exact⟨rfl,rfl⟩
theorem BP(w a cap):Calls prog 73 #[.slice a 0 cap] w λe B=>e=.returned (.slice none 0 0)/\B=w:=by
 have ao:E _:=Jk w a cap;go_enter func73,ntmps73;go_wp2_with (go_at_call 96;refine yaj ao.o ?_;rintro e ag ⟨rfl,X⟩;obtain rfl:=X.symm);go_loopw [3,4] (λaq S I=>I=w/\S=hA 0/\aq=.slice none 0 0) (λ_ _ _=>0)
 case atStart=>grind
 case round=>
  obtain⟨rfl,rfl,rfl⟩:=hrel;go_wp2_with fail;go_ret;exact⟨rfl,rfl⟩
theorem pS(f:TxA w a n t)(ad:n<=100000)(u:n<=cap):Calls prog 73 #[.slice a n cap] w λe B=>∃v,e=.returned v/\TR B w.heap.size v (jk t)/\Kept 0 0 w B:=by
 rcases Nat.eq_zero_or_pos n with al|al
 ·subst al;have ht:=List.length_eq_zero_iff.1 f.len;subst ht;refine yaj (BP w a _) (λe B h=>?_);grind[List.length_eq_zero_iff,qj,TR.nil,Kept.refl]
 obtain⟨g,off,rfl,F⟩:=f.at_ al;exact Gv w g _ n _ t F ad u
theorem rF{W o v}(k:Kept 0 0 w W)(hb:w.heap.size<=b):Kept 0 0 w (W.setCell ⟨b,o,none⟩ v):=
 ⟨k.os,k.tape,k.output,by simpa using k.size,λj hj ad=>(Below.heap_setCell W ⟨b,o,none⟩ v j (λe=>by grind)).trans (k.block j hj ad)⟩
theorem Ax{W}(k:Kept 0 0 w W)(hb:w.heap.size<=b)(a5 a7 z):Kept 0 0 w (((W.setCell ⟨b,0,none⟩ a5).setCell ⟨b,1,none⟩ a7).setCell ⟨b,2,none⟩ z):=rF (rF (rF k hb) hb) hb
theorem CT(w I:World)(aj:Kept 0 0 (w.alloc (e9 none 0 0 none 0 0 none 0 0)) I):I.cell? ⟨w.heap.size,0,none⟩=some (.slice none 0 0)/\I.cell? ⟨w.heap.size,1,none⟩=some (.slice none 0 0)/\I.cell? ⟨w.heap.size,2,none⟩=some (.slice none 0 0)/\∀o,I.frozen? ⟨w.heap.size,o,none⟩=false:=by
 have aG:w.heap.size<(w.alloc (e9 none 0 0 none 0 0 none 0 0)).heap.size:=by simp
 refine⟨(aj.cell aG xaa).trans ?_,(aj.cell aG xaa).trans ?_,(aj.cell aG xaa).trans ?_,λo=>(aj.frozen aG xaa).trans ?_⟩
 ·rw[yav];rfl
 ·rw[yav];rfl
 ·rw[yav];rfl
 simp_all
theorem TR.slice{W J v ts}(f:TR W J v ts):∃bM a2,v=.slice bM ts.length a2/\(0<ts.length->∃g,bM=some ⟨g,0,none⟩/\J<=g/\TkA W g 0 ts.length ts/\ts.length<=a2):=by
 obtain⟨bM,a2,e⟩:=oZ f;refine⟨_,_,e,λal=>?_⟩;obtain⟨g,cap,a9,F,N,h3⟩:=f.at_ al;grind
theorem aZ.qbz(h:Zp:=by
 have J:E _:=xd ag bM (jk t).length a2 n (jk t) rfl HL.o (λal=>by grind);rw[bL.o]at J;have bB:E _:=ak;clear aB aT aV ak;generalize (jk t).length=m at*;go_upto_region 6 with (go_at_call 74;refine yaj J.o ?_;rintro e aF ⟨rfl,aR⟩);obtain⟨c0,c1,c2,fr⟩:=be.o aF (bB.o.trans aR);have bG:=fr 0;have f1:=fr 1;have f2:=fr 2;obtain⟨ba,aP,y2⟩:=fp aF aJ _ _ _ c0 c1 c2 (.slice none 0 0) (.slice none 0 0) (.slice none 0 0);have H:E (Kept 0 0 w (((aF.setCell ⟨aJ,0,none⟩ (.slice none 0 0)).setCell ⟨aJ,1,none⟩ (.slice none 0 0)).setCell ⟨aJ,2,none⟩ (.slice none 0 0))):=Ax ((HK.o.trans bB.o).trans aR) (Nat.le_of_eq az.o) _ _ _;clear fr be J HK bB aR bL;go_wp2_with fail;refine yaz (v:=.tuple #[v7,hA 2,hA p]) (by simp[results,results41,go_sem,ba,aP,y2]) rfl ?_;exact⟨rfl,H.o⟩):Zp:=h
open aZ in
theorem Ay(f:TxA w a n t)(ad:n<=4000)(u:n<=cap){p:Nat}(aM:fA n (jk t) [iq]=(p:Int)):Calls prog 41 #[.slice a n cap] w (PaE w 2 p):=by
 have a7:¬(4000:Int)<(n:Int):=xaa;have a0:=ez 0 0 w (e9 none 0 0 none 0 0 none 0 0);have aV:E _:=pS (f.keep a0) xaa u;have HL:E ((jk t).length<=5000):=by show _<=_;have:=qj t;have:=f.len;omega
 have be:E (∀I,Kept 0 0 (w.alloc (e9 none 0 0 none 0 0 none 0 0)) I->I.cell? ⟨w.heap.size,0,none⟩=some (.slice none 0 0)/\I.cell? ⟨w.heap.size,1,none⟩=some (.slice none 0 0)/\I.cell? ⟨w.heap.size,2,none⟩=some (.slice none 0 0)/\∀o,I.frozen? ⟨w.heap.size,o,none⟩=false):=λI aj=>by
  have aG:w.heap.size<(w.alloc (e9 none 0 0 none 0 0 none 0 0)).heap.size:=by simp
  refine⟨(aj.cell (p:=⟨w.heap.size,0,none⟩) aG xaa).trans ?_,(aj.cell (p:=⟨w.heap.size,1,none⟩) aG xaa).trans ?_,(aj.cell (p:=⟨w.heap.size,2,none⟩) aG xaa).trans ?_,λo=>(aj.frozen (p:=⟨w.heap.size,o,none⟩) aG xaa).trans ?_⟩
  ·rw[yav];rfl
  ·rw[yav];rfl
  ·rw[yav];rfl
  simp_all
 have HK:E _:=a0;have bL:E _:=aM;have av:0<=(p:Int):=xaa;clear a0 f aM;go_enter func41,ntmps41;go_upto_region 1 with fail;change Code.wp _ _ _ _ (w.alloc (e9 none 0 0 none 0 0 none 0 0));generalize w.alloc (e9 none 0 0 none 0 0 none 0 0)=aA at aV be HK⊢;generalize bq:w.heap.size=aJ at be⊢;exact qby
end
section
variable{ss:List Sm}{r:Rs (LSt×Nat)}{ts:List Tok}
theorem Mp(h:PGm ss ts){k}(O:(ts.getD k hG).sym=[59])(hb:∀j,j<k->(ts.getD j hG).sym≠[59]):∃s aW,ss=s::aW/\PSm s (ts.take k)/\PGm aW (ts.drop (k+1)):=by
 cases h with
 |nil=>simp_all[hG]
 |cons au ah aJ=>
  rename_i s aW ts us c;rcases Nat.lt_trichotomy k ts.length with aG|rfl|aG
  ·grind[KG]
  ·refine⟨s,_,rfl,?_,?_⟩
   ·simp_all
   simp_all
  grind
theorem Mq(h:PGm ss ts)(hb:∀j,j<ts.length->(ts.getD j hG).sym≠[59]):ss=[]/\ts=[]:=by
 cases h with
 |nil=>grind
 |cons au ah aJ=>
  rename_i s aW ts us c;exfalso;refine hb ts.length xac ?_;simp_all
def EC{α:Type}(r:Rs α):Prop:=∀c p,r=.error (c,p)->c≠0
theorem EC.ok{K x}:EC (.ok x:Rs K):=λc p h=>by cases h
theorem EC.err{K c p}(h:c≠0):EC (.error (c,p):Rs K):=λar u e=>by grind
theorem kq(st v p):EC (fN st v p):=by
 unfold fN;split
 ·exact .err xab
 exact .ok
theorem yn(n p):∀(xs:List Nat) (st:LSt),EC (iC n p st xs)
 |[],st=>by rw[iC];exact .ok
 |i::r,st=>by
  rw[iC]
  split
  ·cases aM:fN st (eK 10 n (i:Int) 0 0) p with
   |error q=>obtain⟨c,u⟩:=q;exact .err (kq _ _ _ c _ aM)
   |ok y=>
    obtain⟨ax,j⟩:=y
    simp only
    cases a5:iC n p ax r with
    |error q=>obtain⟨c,u⟩:=q;exact .err (yn n p r _ c _ a5)
    |ok y=>exact .ok
  ·cases a5:iC n p st r with
   |error q=>obtain⟨c,u⟩:=q;exact .err (yn n p r _ c _ a5)
   |ok y=>exact .ok
theorem BQ(st xs p):EC (jJ st xs p):=by
 unfold jJ;split
 ·exact yn _ _ _ _
 exact .err xab
theorem rG(st m p):EC (iJ st m p):=by
 unfold iJ;split
 ·exact .err xab
 exact .ok
theorem O1(st o a b):EC (qD st o a b):=by
 unfold qD;cases a5:jJ st [a,b] o.pos with
 |error q=>obtain⟨c,u⟩:=q;exact .err (BQ _ _ _ c _ a5)
 |ok y=>exact kq _ _ _
theorem Mr(st k a b):EC (qE st k a b):=by
 unfold qE;cases a5:jJ st [a,b] k.pos with
 |error q=>obtain⟨c,u⟩:=q;exact .err (BQ _ _ _ c _ a5)
 |ok y=>
  simp only;split
  ·exact kq _ _ _
  cases aM:fN y.1 (eK 4 (eX y.1 (y.2.getD 0 0)) (y.2.getD 0 0:Nat) (y.2.getD 1 0:Nat) 0) k.pos with
  |error q=>grind[kq]
  |ok z=>exact kq _ _ _
theorem O2(st k a b c):EC (xQ st k a b c):=by
 unfold xQ;cases a5:jJ st [a,b,c] k.pos with
 |error q=>obtain⟨c,u⟩:=q;exact .err (BQ _ _ _ c _ a5)
 |ok y=>exact kq _ _ _
theorem Fh(st k a n):EC (lV st k a n):=by
 unfold lV;split
 ·split
  ·exact .err xab
  exact kq _ _ _
 exact xhq
theorem Fi(st k a i n):EC (lW st k a i n):=by
 unfold lW;split
 ·exact .err xab
 exact xhq
theorem Ms(st k a x):EC (py st k a x):=by
 unfold py;split
 ·exact .err xab
 exact rG _ _ _
theorem O3(st k a x d):EC (pJ st k a x d):=by
 unfold pJ;split
 ·cases aM:fN st (eK 10 (eX st x) (d:Int) 0 0) k.pos with
  |error q=>grind[kq]
  |ok y=>exact rG _ _ _
 split
 ·exact .err xab
 exact rG _ _ _
theorem uF(st)(u:Loc)(t):EC (fx st u t):=by
 unfold fx;split
 ·exact .ok
 split
 ·exact .ok
 exact .err xab
theorem lD{a p}(F:∀r,a=some r->EC r)(N:∀s x,∀r,p s x=some r->EC r):∀r,jp a p=some r->EC r:=λr h=>by
 cases ar:a with
 |none=>rw[ar]at h;cases h
 |some ay=>
  rw[ar]at h
  rcases ay with q|⟨s,x⟩
  ·cases h<;>grind
  ·exact N s x r h
theorem CU{p}(aM:∀s e r,p s e=some r->EC r):∀(es:List Ex) (st:LSt) (r:Rs (LSt×List Nat)),fY p st es=some r->EC r
 |[],st,r,h=>by rw[fY]at h;cases h;exact .ok
 |e::es,st,r,h=>by
  rw[fY]at h
  cases F:p st e with
  |none=>grind
  |some ay=>
   rw[F]at h
   rcases ay with aC|⟨ax,x⟩
   ·cases h;exact λc p aN=>aM _ _ _ F c p (by cases aN;rfl)
   ·simp only at h
    cases N:fY p ax es with
    |none=>grind
    |some a0=>
     rw[N]at h
     rcases a0 with aL|⟨aU,bJ⟩
     ·cases h;exact λc p aN=>CU aM _ _ _ N c p (by cases aN;rfl)
     ·cases h;exact .ok
theorem sH:∀(f:Nat) (st:LSt) (u:Loc) (e:Ex) (r:Rs (LSt×Nat)),eM f st u e=some r->EC r
 |0,st,u,e,r,h=>by rw[eM]at h;cases h
 |f+1,st,u,e,r,h=>by
  have G:∀st u e r,eM f st u e=some r->_:=λst u e r h=>sH f _ _ e r h
  have g:∀{a r:Rs (LSt×Nat)},EC a->some a=some r->_:=λh e=>by cases e;exact h
  cases e with
  |num t=>rw[eM]at h;exact g (kq _ _ _) h
  |name t=>
   rw[eM]at h
   cases aO:fx st u t with
   |error q=>rw[aO]at h;obtain⟨c,p⟩:=q;exact g (.err (uF _ _ _ c p aO)) h
   |ok v=>rw[aO]at h;exact g .ok h
  |neg o a=>grind[eM,lD,kq]
  |bin o a b=>grind[eM,lD,O1]
  |call t es=>
   rw[eM]at h
   split at h
   ·split at h
    ·split at h
     ·cases h
     ·rename_i q ar
      exact λc p aN=>CU (λs e r h=>G s _ e r h) _ _ _ ar c p (by cases h;cases aN;rfl)
     ·split at h
      ·exact g (.err xab) h
      ·exact G _ _ _ r h
    ·exact g (.err xab) h
   ·exact g (.err xab) h
  |key1 k a=>
   grind[eM,lD,kq]
  |key2 k a b=>grind[eM,lD,Mr]
  |key3 k a b c=>grind[eM,lD,O2]
  |keyN k a n=>grind[eM,lD,Fh]
  |put k a i n=>rw[eM]at h;exact lD (λr h=>G _ _ _ r h) (λs x r h=>g (Fi _ _ _ _ _) h) r h
  |grad k a x=>
   rw[eM]at h
   cases aO:fx st u x with
   |error q=>rw[aO]at h;obtain⟨c,p⟩:=q;exact g (.err (uF _ _ _ c p aO)) h
   |ok v=>rw[aO]at h;exact lD (λr h=>G _ _ _ r h) (λs x r h=>g (Ms _ _ _ _) h) r h
  |jvp k a x d=>
   rw[eM]at h
   cases aO:fx st u x with
   |error q=>rw[aO]at h;obtain⟨c,p⟩:=q;exact g (.err (uF _ _ _ c p aO)) h
   |ok v=>grind[lD,O3]
theorem Jl{f e i s}:∀(k:Nat) (st:LSt) (r:Rs LSt),nH f e i s k st=some r->EC r
 |0,st,r,h=>by rw[nH]at h;cases h;exact .ok
 |k+1,st,r,h=>by
  rw[nH]at h
  split at h
  ·cases h
  ·rename_i q aZ
   cases h
   exact λc p aN=>sH _ _ _ _ _ aZ c p (by cases aN;rfl)
  ·exact Jl k _ r h
theorem CV{s}(h:EC r):EC (qH s r):=by
 exact xja
theorem Mt(h:EC r):EC (Od r):=by
 exact xja
theorem Mu{f st s r}(h:iI f st s=some r):EC r:=by
 have g:∀{a r:Rs LSt},EC a->some a=some r->_:=λh e=>by cases e;exact h
 cases s with
 |outS k e=>
  simp only[iI]at h;split at h
  ·exact g (.err xab) h
  cases aZ:eM f st [] e with
  |none=>rw[aZ]at h;cases h
  |some ay=>rw[aZ]at h;exact g (Mt (sH _ _ _ _ _ aZ)) h
 |rep i n e=>
  simp only[iI]at h;split at h
  ·split at h
   ·exact g (.err xab) h
   exact Jl _ _ r h
  exact g (.err xab) h
 |defS n ps e=>
  simp only[iI,pi]at h;split at h
  ·exact g (.err xab) h
  refine g ?_ h;unfold H4;split
  ·exact .err xab
  exact .ok
 |letS n e=>
  simp only[iI,pi]at h;split at h
  ·exact g (.err xab) h
  cases aZ:eM f st [] e with
  |none=>rw[aZ]at h;cases h
  |some ay=>rw[aZ]at h;exact g (CV (sH _ _ _ _ _ aZ)) h
 |inS n l=>
  simp only[iI,pi]at h;split at h
  ·exact g (.err xab) h
  refine g ?_ h;unfold inR;split
  ·exact .err xab
  split
  ·exact .err xab
  exact CV (kq _ _ _)
