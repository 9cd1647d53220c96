import Derived.Test.YtbhmhdllnfkjhaaGreatP32
import Derived.Test.YtbhmhdllnfkjhaaGreatP23
namespace Go.Proofs.Z
variable{Zp:Prop}
open Tryz
set_option maxRecDepth 1000000
set_option maxHeartbeats 0
open Go.RowKit Flt
attribute[local go_sem] eG eE eD
theorem dG.qgi(h:Zp:=by
 clear J a0;go_wp2_with fail;go_region_held3 (λW:World=>W.cell? ⟨w.heap.size,0,none⟩=some (.slice O n1 d1)/\W.cell? ⟨w.heap.size,1,none⟩=some (hC bp us.length cap)/\W.cell? ⟨w.heap.size,2,none⟩=some (.slice Z n3 d3)/\W.cell? ⟨aI,s,none⟩=some (hD mm)) (first|go_keep|(exact⟨(c6.o _ _ _ _).trans aT,(c6.o _ _ _ _).trans ao,(c6.o _ _ _ _).trans aG,cQ.o _ _ _⟩)) (fail)
 all_goals
  go_wp2_with fail
  refine yaz (v:=.tuple #[eV O n1 d1 (some ⟨bp,0,none⟩) us.length cap Z n3 d3,hD mm]) (by simp[results,results161,go_sem,bb,aM,aQ]) rfl ⟨?_,R1.o.2⟩
  rw[C.o]
  exact⟨_,_,_,_,_,_,rfl,R1.o.1.1,R1.o.1.2.1,R1.o.1.2.2,ei.o⟩):Zp:=h
open dG in
theorem NS(w bh P ap n1 c1 T c2 n3 c3)(s x t:Nat)(ins vs outs)(f:GS w bh n1 (some ⟨ap,0,none⟩) T P n3 ins vs outs)(c8:VA w ap T vs)(b1:n1<=1000000)(ce:T<=2000)(a9:n3<=1000000)(bN:(List.range T).all (okV ins vs)=true)(cN:fd vs<=50000)(ar:s<T)(ak:x<T):
  Calls prog 161 #[eV bh n1 c1 (some ⟨ap,0,none⟩) T c2 P n3 c3,hD s,hD x,hD t] w λe I=>vO w I n1 n3 ins outs (jW vs s x t) e/\Kept 0 0 w I:=by
 have cP:Kept 0 0 w ((w.alloc (eW bh n1 c1 (some ⟨ap,0,none⟩) T c2 P n3 c3)).alloc fj):=(ez 0 0 w _).trans (ez 0 0 _ _);have aA:V _:=(ft w (.slice bh n1 c1) (hC ap T c2) (.slice P n3 c3)).keep (ez 0 0 _ fj);have cF:V (∀o,((w.alloc (eW bh n1 c1 (some ⟨ap,0,none⟩) T c2 P n3 c3)).alloc fj).frozen? ⟨w.heap.size,o,none⟩=false):=λo=>by simp
 have bw:=fF (w.alloc (eW bh n1 c1 (some ⟨ap,0,none⟩) T c2 P n3 c3));rw[show(w.alloc _).heap.size=w.heap.size+1 by simp]at bw;have HR:V _:=bw;have bn:V _:=qV _ _ _ _ _ c1 _ c2 _ c3 _ _ _ (f.keep cP) b1 xaa a9;have b6:V _:=f.v.len;have cd:V _:=bN;have bZ:V _:=cN;clear bw cP f bN cN;go_enter func161,ntmps161;go_wp2_with fail;refine yaj bn.o ?_;rintro e aO ⟨O,d1,Y,d2,Z,d3,rfl,ch,bO,a5,⟨aL,aJ,bS⟩,aF⟩;have co:V _:=LJ.start b6.o aA.o cF.o HR.o aF ch bO a5 aL aJ bS;obtain⟨_,a8,aV,p2⟩:=aA.o.keep aF;have bG:=(aF.frozen aA.o.sz xaa).trans (cF.o 0);have f1:=(aF.frozen aA.o.sz xaa).trans (cF.o 1);have f2:=(aF.frozen aA.o.sz xaa).trans (cF.o 2);obtain⟨bb,aM,aQ⟩:=eZ _ _ _ _ _ a8 aV p2 (.slice O n1 d1) (.slice Y T d2) (.slice Z n3 d3);obtain⟨bl,go,aZ,cD,b0,_,aU⟩:=mh bO xaa b6.o;injection aZ with er et eA;subst er;have p:(fw _ w.heap.size (.slice O n1 d1) (hC bl T d2) (.slice Z n3 d3)).cell? _=some _:=(mi _ _ _ _ _ _ _ (by simp at cD;omega)).trans (aU.at_ s ar).c1;clear ch bO a5 aL aJ bS bn aA cF HR aU et eA b0 aF;go_upto_region 2 with fail;clear a8 aV p2 bG f1 f2;unfold fw at co p;generalize ((aO.setCell _ _).setCell ⟨_,1,_⟩ _).setCell _ _=di at co p bb aM aQ⊢;have aq:=rx T di xaa;have cV:V _:=co.o _ (IR.made _ _) (ez 0 0 _ _);generalize ct:(vs.getD s _).len=G at p;have ed:V _:=ct;generalize b7:((w.alloc (eW bh _ _ _ _ _ _ _ _)).alloc _).heap.size=base at cV;clear ct b7 co cD;generalize di.alloc _=ag at aq cV;have b9:(0:Int)<=s:=xaa;have bK:(s:Int)<T:=xaa;go_wp2_with fail;clear aq p bb aM aQ;generalize di.heap.size=aI at cV⊢;go_loopw [12] (λv W=>∃k:Nat,k<=T/\v=hD k/\V (LJ w W aI O n1 d1 Z n3 d3 ins outs vs (lK k T) base (hC bl T d2).ownBlock (some ⟨bl,0,none⟩) d2)) (λv _=>T-(intOf v).toNat)
 case atStart=>exact⟨0,yae,rfl,by unfold lK;exact cV⟩
 case round=>
  obtain⟨k,N,rfl,ax⟩:=hrel;clear cV;by_cases aC:k<T
  ·have c1:=ax.o.m.cell k (by rw[vn k _ N];exact aC);have c2:=ax.o.m.free k
   have R1:V (LJ w (wr.setCell ⟨aI,k,none⟩ (hD (-1))) aI O n1 d1 Z n3 d3 ins outs vs (lK (k+1) T) base (hC bl T d2).ownBlock (some ⟨bl,0,none⟩) d2):=by
    have:=ax.o.set k (-1);rw[vq aC]at this;exact this
   clear ax;generalize (lK k _).getD k 0=z at c1;exact xhn
  obtain rfl:k=T:=xaa;have dg:=ax.o;rw[vp]at dg;have eu:=dg.m.cell x yag;have eB:=dg.m.free x
  have ep:V (∃U Y cap,LJ w _ _ _ _ _ _ _ _ _ _ (jst _ x t 0).1 (jst _ x t 0).2 _ U Y cap):=⟨_,_,_,by
   have:=dg.set x (t:Int)
   unfold jst
   rw[b6.o]
   exact this⟩
  clear ax dg;generalize (List.replicate k (-1:Int)).getD x 0=z at eu;have cr:(0:Int)<=x:=xaa;have c7:(x:Int)<k:=xaa;go_wp2_with fail;clear eu eB;go_loopw [13] (λv W=>∃j:Nat,j<=s-x/\v=hD (x+1+j:Nat)/\V (∃U Y cap,LJ w W aI O n1 d1 Z n3 d3 ins outs (jst vs x t j).1 (jst vs x t j).2 base U Y cap)) (λv _=>s+1-(intOf v).toNat)
  case atStart=>exact⟨0,yae,by simp,ep⟩
  case round=>
   obtain⟨j,hj,rfl,ax⟩:=hrel;clear ep;obtain⟨U,Y,cap,ax⟩:=ax.o
   have fv:vs.length<=(jst vs x t j).1.length:=by
    obtain⟨r,h⟩:=wZ vs x t j;rw[h,yal];omega
   obtain⟨bp,rfl,rfl,bQ,aU⟩:=ax.read (hM b6.o);by_cases aC:j<s-x
   ·have bi:x+1+j<k:=xaa;have be:=aU (x+1+j) (hM b6.o);rw[BX _ x t j (hM b6.o)]at be;have cb:=List.all_eq_true.1 cd.o _ (List.mem_range.2 bi);have cI:=Bi cb;have cC:V _:=mI cb;have bg:V _:=λh=>GM _ x t j (hM b6.o) (Bh h (xJ vs x t j));have c9:V _:=xJ vs x t j;have bU:V (jst _ x t (j+1)=((jst _ x t j).1++(jmv vs _ _).1,(jst _ x t j).2.set (x+1+j) _)):=rfl;have aa:V (jmv vs (x+1+j) (jst vs x t j)=mvM _ _ _ _ _ _):=rfl;have ab:∀q,q<vs.length->_:=λq am=>ir (List.all_eq_true.1 cd.o q (List.mem_range.2 (hM b6.o)));obtain⟨aN,_,_⟩:=tO _ x t ab (mX _ (λq am=>hM (ab q am))) bZ.o j (hM b6.o);have cW:V ((jst vs x t j).1.length<=800000/\k<=(jst vs x t j).1.length/\(jst _ x t j).2.length=k):=⟨hM b6.o,hM b6.o,by rw[wY];exact b6.o⟩
    have aD:V _:=ax.keep (ez 0 0 _ (.cells #[hD (-1),hD (-1),hD (-1)] 3));have b2:V _:=ax.oth yad;have bD:V (IR _ _ [ovs (vs.getD (x+1+j) hI) (jst vs x t j).2 0 0,ovs (vs.getD (x+1+j) hI) (jst vs x t j).2 0 1,ovs (vs.getD (x+1+j) hI) (jst vs x t j).2 0 2]):=ir3 wr (-1) (-1) (-1);have cH:(x+1+j:Nat)<=(s:Int):=xaa;have gy:x+1+j<=s:=xaa;clear aU ax fv ab aN cb be bQ;generalize el:vs.getD _ _=v at cI cC bg aa bD;have bq:V _:=el;clear el;generalize ea:(jst _ x t j).2=aw at bg c9 bU aa cW aD bD;generalize ec:(jst _ x t j).1=us at bU aa cW aD;have bX:V ((jst _ x t j).1=us/\(jst _ x t j).2=aw):=⟨ec,ea⟩
    clear ea ec;generalize hi:x+1+j=i at cC bq bg bU aa cH bi gy;have bW:V _:=hi;clear hi;go_wp2_with fail;generalize wr.alloc _=e9 at aD bD⊢;generalize wr.heap.size=F at bD b2⊢
    have eC:us.getD i hI=v:=by
     rw[<-bX.o.1,<-bW.o,BX _ x t j (hN bW.o b6.o),bW.o];exact bq.o
    have ee:V _:=eC;have cK:i<us.length:=hM cW.o
    have cT:=f9 v.op;clear eC;go_loopw [15,16] (λsv b4 W=>∃q:Nat,q<=cnt v.op/\sv=.bool (sG v aw q)/\b4=hD q/\V (IR W F [ovs v aw q 0,ovs v aw q 1,ovs v aw q 2])/\V (LJ w W aI O n1 d1 Z n3 d3 ins outs us aw base (some bp) (some ⟨bp,0,none⟩) cap)) (λ_ b4 _=>3-(intOf b4).toNat)
    case atStart=>exact⟨0,yae,rfl,rfl,bD,aD⟩
    case round=>
     obtain⟨q,am,rfl,rfl,a6,bJ⟩:=hrel;clear aD bD;obtain⟨cy,bc,_,bQ,aU⟩:=bJ.o.read xaa;cases bc;have be:=aU i cK;rw[ee.o]at be;obtain⟨bb,aM,aQ,bY,cg,cn⟩:=be;have ao:=bJ.o.g.c1;have b3:(0:Int)<=i:=xaa;have cB:(i:Int)<us.length:=xaa;have HO:V _:=kX _ wr cI.1 cI.2;rw[MH cI.1 cI.2]at HO;clear aU bQ;by_cases cA:q<cnt v.op
     ·obtain⟨Q,bk⟩:=cC.o q cA;obtain⟨B,af⟩:=Int.eq_ofNat_of_zero_le Q;have bL:V _:=lW wr v q xaa;rw[af]at bL;have e6:B<k:=xaa
      have au:V (sG v aw (q+1)=(sG v aw q||decide (0<=aw.getD B 0))):=by
       have:=DW v aw q;rw[af,Int.toNat_natCast]at this;exact this
      have dp:V (([ovs v aw q 0,ovs v aw q 1,ovs v aw q 2]:List _).set q (aw.getD B 0)=[ovs v aw (q+1) 0,ovs v aw (q+1) 1,ovs v aw (q+1) 2]):=by
       have:=GN v aw q xaa;rw[af,Int.toNat_natCast]at this;exact this
      have tq:q<(cnt v.op:Int):=xaa;clear Q bk af;go_wp2_with fail;refine yaj HO.o ?_;rintro e I ⟨rfl,rfl⟩;clear HO;go_wp2_with fail;refine yaj bL.o ?_;rintro e bj ⟨rfl,ca⟩;have al:=bJ.o.keep ca;have ba:=IR.keep a6.o ca yaa;have cm:=al.m.cell B (hM cW.o);have cx:=ba.cell q yag;have d0:=ba.free q
      have R1:V (IR (bj.setCell ⟨F,q,none⟩ (hD (aw.getD B 0))) F [ovs v aw (q+1) 0,ovs v aw (q+1) 1,ovs v aw (q+1) 2]):=by
       have:=ba.set q (aw.getD B 0);rw[dp.o]at this;exact this
      have R2:V _:=al.other b2.o q (hD (aw.getD B 0));clear al ba bJ a6 bL ca bb aM aQ bY cg cn ao dp;generalize aw.getD _ 0=y at cm R1 R2 au;generalize ([ovs v _ q 0,ovs v _ q 1,ovs v _ q 2]:List _).getD q 0=z at cx;have bG:(0:Int)<=B:=xaa;have f1:B<(k:Int):=xaa;have bd:(0:Int)<=q:=xaa;have bS:(q:Int)<3:=xaa;cases aX:sG v aw q
      ·exact xgk
      exact xgk
     obtain rfl:q=cnt v.op:=xaa;have tq:¬((cnt v.op:Int)<(cnt v.op:Int)):=xaa;cases aX:sG v aw (cnt v.op)
     ·have R1:V (∃U Y cap,LJ w _ _ _ _ _ _ _ _ _ _ (jst _ x t _).1 (jst _ x t _).2 _ U Y cap):=⟨_,_,_,by
       rw[bg.o aX,bX.o.1,bX.o.2]
       exact bJ.o⟩
      go_wp2_with fail;refine yaj HO.o ?_;rintro e I ⟨rfl,rfl⟩;clear HO;exact xhc
     have aT:=bJ.o.g.c0;have aG:=bJ.o.g.c2;have c0:=a6.o.cell 0 xac;have c1:=a6.o.cell 1 xac;have c2:=a6.o.cell 2 xac;rw[show([ovs v _ _ 0,ovs v _ _ 1,ovs v _ _ 2]:List _).getD 0 0=ovs v _ _ 0 from rfl]at c0;rw[show([ovs v _ _ 0,ovs v _ _ 1,ovs v _ _ 2]:List _).getD 1 0=ovs v _ _ 1 from rfl]at c1;rw[show([ovs v _ _ 0,ovs v _ _ 1,ovs v _ _ 2]:List _).getD 2 0=ovs v _ _ 2 from rfl]at c2;have eb:=DX aX;have cy:∀n,-1<=ovs v _ (cnt v.op) n:=λn=>GK c9.o;have be:At _ _ _ v:=⟨bb,aM,aQ,bY,cg,cn⟩
     have ds:V (∀az,Kept 0 0 wr az->Calls prog 165 #[eV O n1 d1 (some ⟨bp,0,none⟩) us.length cap Z n3 d3,hD i,hD (ovs v aw (cnt v.op) 0),hD (ovs v aw (cnt v.op) 1),hD (ovs v aw (cnt v.op) 2)] az λe br=>∃(H:List Vl) (r:Int) (bR:Option Addr) (bT:Nat) (cj:Option Nat),e=.returned (.tuple #[eV O n1 d1 bR H.length bT Z n3 d3,hD r])/\(∀R o,R<az.heap.size->R≠bp->br.cell? ⟨R,o,none⟩=az.cell? ⟨R,o,none⟩)/\(∀R o,R<az.heap.size->R≠bp->br.frozen? ⟨R,o,none⟩=az.frozen? ⟨R,o,none⟩)/\az.heap.size<=br.heap.size/\V (H=us++(jmv vs i (jst vs x t j)).1/\r=(jmv vs i (jst vs x t j)).2)/\
       V (∀(l h':Nat) (cq:World),Kept l h' br cq->wr.heap.size<=l->(h'<=az.heap.size\/br.heap.size<=l)->(bp<l\/h'<=bp)->LJ w (fw cq w.heap.size (.slice O n1 d1) (.slice bR H.length bT) (.slice Z n3 d3)) aI O n1 d1 Z n3 d3 ins outs H aw base cj bR bT)):=λaz ai=>by
      refine(NR az O Z n1 d1 cap n3 d3 base bp i us v _ _ _ (bJ.o.keep ai).g.own (bJ.o.keep ai).g.sz cW.o.1 cK (be.keep (eH bJ.o.g.own (k:=bp) rfl).2 ai yaa) (cy 0) (cy 1) (cy 2) eb (λad=>by unfold ovs;rw[hF xaa]) (λad=>by unfold ovs;rw[hF xaa])).mono ?_
      rintro e br ⟨bR,bT,cj,rfl,e3,e5,d5⟩
      rw[<-aa.o]at e3 e5⊢
      have hn:∀R,R≠bp->¬((λ_=>False) R\/some bp=some R):=λR aS=>by rintro (c|c);exact c;cases c;exact aS rfl
      refine⟨_,_,_,_,cj,rfl,λR o aS aR=>d5.chg.cell aS (hn R aR),λR o aS aR=>d5.chg.frozen aS (hn R aR),d5.chg.size,⟨rfl,rfl⟩,λl h' cq cc ab cG bQ=>?_⟩
      refine bJ.o.step ai e3 e5 d5 cc ab (λg aR=>?_)
      rcases d5.row with c|⟨r,c,av⟩
      ·rw[c]at aR;cases aR;exact bQ
      ·rw[c]at aR;cases aR
       have:=(eH e3 (e5.trans c)).2
       omega
     have m:V (w.heap.size<wr.heap.size/\F<wr.heap.size/\w.heap.size≠bp/\F≠bp/\bp<wr.heap.size):=⟨bJ.o.g.lt,a6.o.lt,λc=>bJ.o.g.ne (by rw[c]),λc=>b2.o.r (by rw[c]),(eH bJ.o.g.own rfl).2⟩
     have ey:=bJ.o.g.free;clear eb cy be aM aQ bY cg cn aa;generalize ovs v _ _ 0=ah at c0 ds a6;generalize ovs v _ _ 1=S at c1 ds a6;generalize ovs v _ _ 2=an at c2 ds a6;generalize eS:jmv _ i _=M at ds bU;clear eS;obtain⟨eo,ef⟩:=M;go_wp2_with fail;refine yaj HO.o ?_;rintro e I ⟨rfl,rfl⟩;clear HO bb;go_upto_region 20 with fail;go_cut [17,18] (λen gR cl=>∃(X:Nat) (H:List Vl) (r:Int) (bR:Option Addr) (bT:Nat) (cj:Option Nat),en=hB X/\gR=hD r/\V (H=us++eo/\r=ef)/\V (RB cl X (.slice O n1 d1) (.slice bR H.length bT) (.slice Z n3 d3)/\((∃u,cl.cell? ⟨w.heap.size,0,none⟩=some u)/\(∃u,cl.cell? ⟨w.heap.size,1,none⟩=some u)/\(∃u,cl.cell? ⟨w.heap.size,2,none⟩=some u))/\(∀o,cl.frozen? ⟨w.heap.size,o,none⟩=false))/\V (LJ w (fw cl w.heap.size (.slice O n1 d1) (.slice bR H.length bT) (.slice Z n3 d3)) aI O n1 d1 Z n3 d3 ins outs H aw base cj bR bT))
     case first=>
      have ek:w.heap.size≠I.heap.size:=hM m.o
      have gq:F≠I.heap.size:=hM m.o
      have bH:V (∀R o,R<I.heap.size->(I.alloc _).drew.cell? ⟨R,o,none⟩=I.cell? _):=λR o aS=>(ez 0 0 _ fj).cell aS xaa
      go_region_held3 (λW:World=>W.cell? ⟨w.heap.size,0,none⟩=some (.slice O n1 d1)/\W.cell? ⟨w.heap.size,1,none⟩=some (hC bp us.length cap)/\W.cell? ⟨w.heap.size,2,none⟩=some (.slice Z n3 d3)/\W.cell? ⟨F,0,none⟩=some (hD ah)/\W.cell? ⟨F,1,none⟩=some (hD S)/\W.cell? ⟨F,2,none⟩=some (hD an)) (first|go_keep|(simp only[mi _ _ _ _ _ _ _ ek,mi _ _ _ _ _ _ _ gq];exact⟨bV,a1,Y,a3,a4,cJ⟩)) (first
       |(go_at_call 165;refine yaj (ds.o _ ((ez 0 0 _ _).trans (eF _))) ?_;rintro e br ⟨H,r,bR,bT,cj,rfl,bo,cM,cR,cO,bu⟩;have bV:=(bo _ 0 (by have:=m.o;simp;omega) m.o.2.2.1).trans ((bH.o _ 0 m.o.1).trans aT);have a1:=(bo _ 1 (by have:=m.o;simp;omega) m.o.2.2.1).trans ((bH.o _ 1 m.o.1).trans ao);have Y:=(bo _ 2 (by have:=m.o;simp;omega) m.o.2.2.1).trans ((bH.o _ 2 m.o.1).trans aG);have a3:=(bo F 0 (by have:=m.o;simp;omega) m.o.2.2.2.1).trans ((bH.o F 0 m.o.2.1).trans c0);have a4:=(bo F 1 (by have:=m.o;simp;omega) m.o.2.2.2.1).trans ((bH.o F 1 m.o.2.1).trans c1);have cJ:=(bo F 2 (by have:=m.o;simp;omega) m.o.2.2.2.1).trans ((bH.o F 2 m.o.2.1).trans c2);have cU:V _:=cM;have bC:=bo I.heap.size 0 xac (hM m.o);have aN:=bo I.heap.size 1 xac (hM m.o);have a2:=bo I.heap.size 2 xac (hM m.o);have ev:=cM I.heap.size 0 xac (hM m.o);have ew:=cM I.heap.size 1 xac (hM m.o);have ex:=cM I.heap.size 2 xac (hM m.o);have ej:V _:=cR;clear bo cM cR)
       |(go_at_call 165;refine yaj (ds.o _ (eF _)) ?_;rintro e br ⟨H,r,bR,bT,cj,rfl,bo,cM,cR,cO,bu⟩;have bV:=(bo _ 0 m.o.1 m.o.2.2.1).trans aT;have a1:=(bo _ 1 m.o.1 m.o.2.2.1).trans ao;have Y:=(bo _ 2 m.o.1 m.o.2.2.1).trans aG;have a3:=(bo F 0 m.o.2.1 m.o.2.2.2.1).trans c0;have a4:=(bo F 1 m.o.2.1 m.o.2.2.2.1).trans c1;have cJ:=(bo F 2 m.o.2.1 m.o.2.2.2.1).trans c2;have cU:V _:=cM;have cn:w.heap.size≠br.heap.size:=(by have:=m.o;have:I.heap.size<=br.heap.size:=cR;omega);have cX:F≠br.heap.size:=(by have:=m.o;have:I.heap.size<=br.heap.size:=cR;omega);have ej:V _:=cR;clear bo cM cR))
      ·have d4:I.heap.size<=br.heap.size:=ej.o;have bx:=ez 0 0 br (.cells #[.slice O n1 d1,.slice bR H.length bT,.slice Z n3 d3] 26);have cS:w.heap.size<br.heap.size:=by have:=m.o;omega
       have R2:V (RB (br.alloc (.cells #[.slice O n1 d1,.slice bR H.length bT,.slice Z n3 d3] 26)) br.heap.size (.slice O n1 d1) (.slice bR H.length bT) (.slice Z n3 d3)/\((∃u,(br.alloc _).cell? _=some u)/\(∃u,(br.alloc _).cell? _=some u)/\(∃u,(br.alloc _).cell? _=some u))/\(∀o,(br.alloc _).frozen? _=false)):=
        ⟨⟨by simp,by simp,by simp,by simp,by simp,by simp,by simp⟩,⟨⟨_,(bx.cell cS xaa).trans bV⟩,⟨_,(bx.cell cS xaa).trans a1⟩,⟨_,(bx.cell cS xaa).trans Y⟩⟩,λo=>(bx.frozen cS xaa).trans ((cU.o _ o m.o.1 m.o.2.2.1).trans (ey o))⟩
       have R3:V _:=bu.o _ br.heap.size _ (ez _ _ _ (.cells #[.slice O n1 d1,.slice bR H.length bT,.slice Z n3 d3] 26)) d4 yab (.inl (hM m.o));exact xjp
      have d4:=yao (ez 0 0 _ _).size ej.o;have K:=fg br I.heap.size (.slice O n1 d1) (.slice bR H.length bT) (.slice Z n3 d3);have cS:w.heap.size<br.heap.size:=hM m.o
      have fq:I.heap.size<br.heap.size:=yak xac ej.o;have fz:br.cell? _=some (.slice none 0 0):=bC.trans xac;have fG:br.cell? _=some (.slice none 0 0):=aN.trans xac;have fL:br.cell? _=some (.slice none 0 0):=a2.trans xac;obtain⟨bb,aM,aQ⟩:=eZ _ _ _ _ _ fz fG fL (.slice O n1 d1) (.slice bR H.length bT) (.slice Z n3 d3);have eg:∀o,br.frozen? _=false:=λo=>(cU.o I.heap.size o xac (hM m.o)).trans xac;have b5:∀o,_:=λo=>(cU.o _ o (by have:=m.o;simp;omega) m.o.2.2.1).trans (((ez 0 0 _ _).frozen m.o.1 xaa).trans (ey o))
      have R2:V (RB _ _ _ _ _/\((∃u,(((br.setCell _ (.slice O n1 d1)).setCell _ (.slice bR H.length bT)).setCell _ (.slice Z n3 d3)).cell? _=some u)/\(∃u,(((br.setCell _ (.slice O n1 d1)).setCell _ (.slice bR H.length bT)).setCell _ (.slice Z n3 d3)).cell? _=some u)/\(∃u,(((br.setCell _ (.slice O n1 d1)).setCell _ (.slice bR H.length bT)).setCell _ (.slice Z n3 d3)).cell? _=some u))/\(∀o,(((br.setCell ⟨I.heap.size,0,none⟩ (.slice O n1 d1)).setCell ⟨I.heap.size,1,none⟩ (.slice bR H.length bT)).setCell ⟨I.heap.size,2,none⟩ (.slice Z n3 d3)).frozen? ⟨w.heap.size,o,none⟩=false)):=
       ⟨⟨yak fq K.size,bb,aM,aQ,by simp[eg 0],by simp[eg 1],by simp[eg 2]⟩,⟨⟨_,(mi _ _ _ _ _ _ _ ek).trans bV⟩,⟨_,(mi _ _ _ _ _ _ _ ek).trans a1⟩,⟨_,(mi _ _ _ _ _ _ _ ek).trans Y⟩⟩,λo=>by simp[b5 o]⟩
      have R3:V _:=bu.o _ _ _ K yad (.inl xac) (.inl m.o.2.2.2.2);clear K fz fG fL eg b5 bb aM aQ bC aN a2 ev ew ex;exact xjp
     case rest=>
      clear aT ao aG c0 c1 c2 ds bJ a6 ey;obtain⟨X,H,r,bR,bT,cj,rfl,rfl,cO,bz,bu⟩:=hcut;obtain⟨⟨_,bf,aP,aY,bI,bB,bE⟩,⟨⟨_,a8⟩,⟨_,aV⟩,⟨_,p2⟩⟩,b5⟩:=bz.o;have gB:=b5 0;have gE:=b5 1;have gP:=b5 2;clear b5 bz;go_upto_region 22 with fail;clear bf aP aY bI bB bE a8 aV p2 gB gE gP;unfold fw at bu;generalize ((wc.setCell _ _).setCell ⟨_,1,_⟩ _).setCell _ _=dd at bu⊢;have cm:=bu.o.m.cell i (hM cW.o);have e0:=bu.o.m.free i
      have R1:V (∃U Y cap,LJ w (dd.setCell _ (.int _ r)) _ _ _ _ _ _ _ _ _ (jst _ x t _).1 (jst _ x t _).2 _ U Y cap):=⟨_,_,_,by
       have:=bu.o.set i r
       rw[bU.o]
       rw[cO.o.2]at this⊢
       rw[cO.o.1]at this
       exact this⟩
      clear bu cO;generalize aw.getD i 0=z at cm;exact xhc
   obtain rfl:j=s-x:=xaa;have cf:¬((x+1+(s-x):Nat)<=(s:Int)):=xaa;have dv:s<(jst vs x t (s-x)).2.length:=by rw[wY,b6.o];exact ar
   have cs:=ax.m.cell s dv;have b8:=xJ vs x t (s-x) s;have J:V (jW _ s x t=if (jst _ x t _).2.getD s 0=-1 then ((jst _ x t _).1++[eL 1 _ 0 0 0],(((jst _ x t _).1.length:Nat):Int))else ((jst _ x t _).1,(jst vs x t _).2.getD s 0)):=rfl;rw[ed.o]at J
   have a0:s<x->(jst _ x t (s-x)).2.getD s 0=-1:=λad=>by
    rw[show s-x=0 by omega]
    exact GO _ x t s xaa (hO b6.o ar)
   have ab:∀q,q<vs.length->_:=λq am=>ir (List.all_eq_true.1 cd.o q (List.mem_range.2 (hM b6.o)));obtain⟨aN,_,_⟩:=tO _ x t ab (mX _ (λq am=>hM (ab q am))) bZ.o (s-x) (hM b6.o);have ci:(jst vs x t (s-x)).1.length<=800000:=hM b6.o
   have HL:V _:=ax;clear aU ax fv ab aN dv aC bQ;generalize (jst _ x t _).1=us at HL J ci;generalize (jst _ x t _).2=aw at HL J cs b8 a0;generalize aw.getD s 0=mm at cs b8 J a0;have aT:=HL.o.g.c0;have ao:=HL.o.g.c1;have aG:=HL.o.g.c2;obtain⟨_,bf,aP,aY,bI,bB,bE⟩:=HL.o.b;have e7:(0:Int)<=s:=xaa;have e8:(s:Int)<k:=xaa;by_cases aU:x<=s/\0<=mm
   ·have C:V (jW vs s x t=(us,mm)):=by
     show _=_;rw[J.o,hF xaa]
    have ah:((x:Int)<=s):=xaa;have S:=aU.2;obtain⟨bb,aM,aQ⟩:=eZ _ _ _ _ _ bf aP aY (.slice O n1 d1) (hC bp us.length cap) (.slice Z n3 d3);have gr:w.heap.size≠w.heap.size+1:=xaa;have fo:aI≠w.heap.size+1:=hN HL.o.hb HL.o.dM
    have hl:=Ne.symm fo;have cQ:V (∀X cz cw:Value,(((wr.setCell _ X).setCell _ cz).setCell _ cw).drew.cell? _=some _):=λX cz cw=>(mi _ _ _ _ X cz cw fo).trans cs;exact qgh
   have C:V (jW vs s x t=(us++[eL 1 G 0 0 0],(us.length:Int))):=by
    show _=_
    rw[J.o,hG (by
     by_cases ad:s<x
     ·exact a0 ad
     ·omega)]
   have eT:(¬(x<=(s:Int)))\/((x:Int)<=s/\¬(0<=mm)):=xaa;clear J a0 bf aP aY bI bB bE aU b8;rcases eT with bF|⟨bF,cu⟩
   all_goals
    go_upto_region 25 with fail
    clear cs
    go_cut [] (λcl=>∃aB cap',V (LJ w cl aI O n1 d1 Z n3 d3 ins outs (us++[eL 1 G 0 0 0]) aw base (some aB) (some ⟨aB,0,none⟩) cap'))
    case first=>
     go_region_with (first
      |(go_at_call 38;refine yaj (LJ.call HL.o ((eF _).trans aj) _ xaa) ?_;rintro e ag ⟨aB,cap',rfl,⟨_,bm⟩,⟨_,ay⟩,⟨_,aW⟩,ae,bP⟩;have bv:=ae 0;have bA:=ae 1;have bM:=ae 2;clear ae)
      |(go_at_call 65;refine yaj (pw _ _) ?_;rintro e aO ⟨rfl,aj⟩;have a8:=(LJ.keep HL.o ((eF _).trans aj)).g.c0;have aV:=(LJ.keep HL.o ((eF _).trans aj)).g.c1;have p2:=(LJ.keep HL.o ((eF _).trans aj)).g.c2))
     all_goals (go_wp2_with fail;go_meet;exact⟨_,_,bP⟩)
    case rest=>
     obtain⟨aB,cap',bP⟩:=hcut
     have ck:(us++[eL 1 G 0 0 0]).length=us.length+1:=by simp
     generalize aH:us++[eL 1 _ 0 0 0]=H at bP C ck
     clear aT ao aG aH HL
     have aT:=bP.o.g.c0
     have ao:=bP.o.g.c1
     have aG:=bP.o.g.c2
     obtain⟨_,bf,aP,aY,bI,bB,bE⟩:=bP.o.b
     have aK:V _:=λW=>jf W O (some ⟨aB,0,none⟩) Z n1 d1 H.length cap' n3 d3 xaa
     rw[show(H.length:Int)-1=(us.length:Nat) by omega]at aK
     clear ck
     go_wp2_with fail
     go_region_with (first
      |(go_at_call 41;refine yaj (aK.o _) ?_;rintro e a7 ⟨rfl,aF⟩;clear bf aP aY bI bB bE;have bd:=(bP.o.keep ((eF _).trans aF)).g.c0;have aL:=(bP.o.keep ((eF _).trans aF)).g.c1;have aJ:=(bP.o.keep ((eF _).trans aF)).g.c2;obtain⟨_,bf,aP,aY,bI,bB,bE⟩:=(bP.o.keep ((eF _).trans aF)).b))
     all_goals
      have ei:V _:=bP.o.a4
      have R1:V _:=bP.o.fin ((eF _).trans aF)
      obtain⟨bb,aM,aQ⟩:=eZ _ _ _ _ _ bf aP aY (.slice O n1 d1) (hC aB H.length cap') (.slice Z n3 d3)
      go_wp2_with fail
      refine yaz (v:=.tuple #[eV O n1 d1 (some ⟨aB,0,none⟩) H.length cap' Z n3 d3,hD us.length]) (by simp[results,results161,go_sem,bb,aM,aQ]) rfl ⟨?_,R1.o.2⟩
      rw[C.o]
      exact⟨_,_,_,_,_,_,rfl,R1.o.1.1,R1.o.1.2.1,R1.o.1.2.2,ei.o⟩
