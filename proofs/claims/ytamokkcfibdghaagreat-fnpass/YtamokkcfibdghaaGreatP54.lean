import Derived.Test.YtamokkcfibdghaaGreatP53
namespace Go.Proofs.Z
open Tryz
set_option maxRecDepth 1000000
set_option maxHeartbeats 0
open Go.RowKit Flt
attribute [local go_sem] eG eE eD
variable {w:World}{us vs:List Vl}{a b:Option Addr}{ins bd:List Int}
theorem nvb{bs}(h:∀x∈bs,0<=x/\x<256)(i):nv bs i<256:=by
 unfold nv;by_cases c:i<bs.length
 ·have:=h _ (List.getElem_mem c);simp only[yah,yal c,Option.getD_some];first|omega|(split<;>omega)
 simp only[yah,List.getElem?_eq_none (Nat.le_of_not_lt c),Option.getD_none];first|omega|(split<;>omega)
theorem L8{W am al ar}(k:Kept 0 0 (w.alloc (.cells #[am,al,ar] 26)) W):G0 W w.heap.size am al ar:=(fE w am al ar).keep k
theorem PU(h:us.map sv=vs.map sv):Lk us vs:=by
 have e:sv=cv:=funext λv=>by unfold sv cv;rw[Bn]
 unfold Lk;rw[<-e];exact h
def InO (w:World)(ys ins:List Int)(e:Ending)(w':World):Prop:=
 ∃ia ic xss,e=.returned (.slice ia ins.length ic)/\(SS w' ia ins.length xss/\gZ xss/\inB ins xss=true/\∀j,fU (xss.getD j []) ((inN ys ins).getD j []))/\Kept 0 0 w w'
theorem Lv{lo hi' ca aQ cm}(f:IS w lo hi' a ins.length ins)(bV:YS w b aQ bd)(az:aQ<=1048576)(hn:ins.length<=20)(ah:ins.all lenB=true):
  Calls prog 7 #[.slice a ins.length ca,.slice b aQ cm,.bool true] w (InO w bd ins):=by
 have aL:∀j,j<ins.length->1<=ins.getD j 0/\ins.getD j 0<=1000:=λj hj=>of_decide_eq_true (List.all_eq_true.1 ah (ins.getD j 0) (by rw[yah,yal hj];exact List.getElem_mem _));refine(K7 (ca:=ca) (cm:=cm) f bV az xaa aL).mono ?_;rintro e J ⟨aF,aP,xss,B,R,h3,a8⟩;refine⟨aF,aP,xss,B,⟨R,R.words,?_,λj=>?_⟩,a8⟩
 ·unfold inB;rw[R.len,decide_eq_true rfl,Bool.true_and,List.all_eq_true];intro j hj;have hj:=List.mem_range.1 hj;rw[jc (h3 j hj),Cv bd hj,uK,List.length_map,List.length_range];have:=aL j hj;simp only[beq_iff_eq];omega
 by_cases c:j<ins.length
 ·exact h3 j c
 rw[yah,List.getElem?_eq_none (hW R.len),yah,List.getElem?_eq_none (by simp[inN];omega)];rfl
def WnO (ys ins:List Int)(vs:List Vl)(outs:List Int)(wss:List (List Nat)):Prop:=
 ∃xss,(gZ xss/\inB ins xss=true/\∀j,fU (xss.getD j []) ((inN ys ins).getD j []))/\∀j,j<outs.length->fU (wss.getD j []) ((eU xss vs vs.length).getD (outs.getD j 0).toNat [])
theorem IM{F outs p f g}(h:okG ins vs outs=true)(S:Lk F vs)(aJ:Lk us (gG p F outs).1)(n:Kb us)(cn:Kb vs)(ak:Kb F)(ah:(gG p F outs).2.length=outs.length)(bq:WnO bd ins us (gG p F outs).2 f)(U:WnO bd ins vs outs g){k}(O:k<outs.length):
  fU (f.getD k []) (g.getD k [])/\(f.getD k []).length<=1000000:=by
 obtain⟨x,⟨bo,R,o⟩,c7⟩:=bq;obtain⟨y,⟨m,l,a0⟩,i⟩:=U;have e:=gY (c7 k xaa) (gY (Gn p h S aJ (λj=>gY (o j) (ro (a0 j))) bo m R n cn ak O) (ro (i k O)));refine⟨e,?_⟩;obtain⟨_,_,h3,a8,_⟩:=gz h;have bS:=a8 (outs.getD k 0) (by rw[yah,yal O];exact List.getElem_mem _);have bP:=mV (vs:=vs) l vs.length (rz h3) (outs.getD k 0).toNat xaa;have b8:=iu (h3 (outs.getD k 0).toNat xaa);rw[jc e,jc (i k O)];omega
theorem IN{n cap m cm xs}(h:YS w a n xs)(ai:n<=cap)(bV:YS w b m bd):
  Calls prog 3 #[.slice a n cap,.slice b m cm] w λe J=>e=.returned (.bool true)/\Kept 0 0 w J:=by
 by_cases hn:1048576<n
 ·have bg:(1048576:Int)<(n:Int):=xaa;clear hn;exact xke
 have bg:¬(1048576:Int)<(n:Int):=xaa;by_cases az:1048576<m
 ·have Z:(1048576:Int)<(m:Int):=xaa;clear az;exact xke
 have Z:¬(1048576:Int)<(m:Int):=xaa;obtain⟨T,bi⟩:=dgD (nvb λx au=>h.lt x (List.mem_of_mem_take au)) (ni (xs.take 500) 0);have bP:V (∀W,Kept 0 0 w W->Calls prog 4 #[.slice a n cap] W (DrP W T (prP (nv (xs.take 500) 0)))):=λW k=>OD bi (h.keep k) ai;have bQ:V _:=bV;have ad:V (m<=1048576):=by show _<=_;omega
 clear bi h hn az bV;generalize prP (nv (xs.take 500) 0)=p at bP;obtain⟨ins,S,outs,bK⟩:=T;go_enter func3,ntmps3;go_wp2_with fail;refine yai (bP.o w hQ) ?_;rintro e aD ⟨a1,c1,a2,c2,a3,c3,vs,rfl,aj,d,an⟩;have a7:V (vs.map sv=S):=aj;simp only at d;have bl:=ez 0 0 aD (eY a1 ins.length c1 a2 vs.length c2 a3 outs.length c3);have s:V _:=GS.keep ⟨(Ct d.r1 rfl).is,(L5 d.r2 rfl).vs d.k,(Ct d.r3 rfl).is⟩ bl;have cg:V (Kb vs):=d.k;have bT:V _:=ri (aD.alloc (eY a1 ins.length c1 a2 vs.length c2 a3 outs.length c3)) a1 a2 a3 ins.length c1 vs.length c2 outs.length c3 ins vs outs s.o;have bW:V (Kept 0 0 w (aD.alloc (eY a1 ins.length c1 a2 vs.length c2 a3 outs.length c3))):=an.trans bl;have a5:V (∀W,Kept 0 0 (aD.alloc (eY a1 ins.length c1 a2 vs.length c2 a3 outs.length c3)) W->G0 W aD.heap.size (.slice a1 ins.length c1) (.slice a2 vs.length c2) (.slice a3 outs.length c3)):=λW k=>L8 k;obtain⟨_,s0,ax,aN⟩:=a5.o _ hQ;clear aj d an bl;go_wp2_with fail;clear s0 ax aN;generalize aD.heap.size=Q at a5⊢;generalize aD.alloc (eY a1 ins.length c1 a2 vs.length c2 a3 outs.length c3)=W2 at bT bW a5 s⊢;refine yai bT.o ?_;clear bT;rintro e aT ⟨rfl,aM⟩;have aV:V _:=bW.o.trans aM;cases P:okG ins vs outs
 ·clear P aM a5 a7 bP s cg bQ ad;go_wp2;go_ret;exact⟨rfl,aV.o⟩
 by_cases aK:0<=p/\p<5
 case neg=>
  clear P aM a5 a7 bP s cg bQ ad;rcases (by omega:p<0\/(¬p<0/\4<p)) with q|⟨q,ak⟩
  all_goals
   clear aK
   go_wp2
   go_ret
   exact⟨rfl,aV.o⟩
 have cM:V (∀W,Kept 0 0 aT W->G0 W Q (.slice a1 ins.length c1) (.slice a2 vs.length c2) (.slice a3 outs.length c3)):=λW k=>a5.o W (aM.trans k);have aL:V (∀W,Kept 0 0 aT W->GS W a1 ins.length a2 vs.length a3 outs.length ins vs outs):=λW k=>s.o.keep (aM.trans k);have cK:V (okG ins vs outs=true):=P;obtain⟨⟨cf,l,co⟩,bx,_⟩:=gz P;have al:V (ins.length<=20/\vs.length<=2000/\outs.length<=50):=⟨cf,l,co⟩
 have o:V (∀W,Kept 0 0 aT W->Calls prog 7 #[.slice a1 ins.length c1,.slice b m cm,.bool true] W (InO W bd ins)):=λW k=>Lv (aL.o W k).i (bQ.o.keep (aV.o.trans k)) ad.o cf bx;have Y:¬p<0:=xaa;have bI:¬4<p:=xaa;have bp:V _:=aK;obtain⟨_,bj,aQ,a6⟩:=cM.o aT hQ;clear P aM a5 s bW cf l co bx bQ ad aK;go_wp2_with fail;go_cut [7,8] (λx y bo=>∃K wc g,x=.slice K outs.length wc/\y=hI 0/\V (SS bo K outs.length g/\WnO bd ins vs outs g)/\V (Kept 0 0 aT bo))
 case first=>
  go_region_with (first
   |(go_at_call 7;refine yai (o.o _ (eF aT)) ?_;rintro e b4 ⟨aF,aP,xss,rfl,bq,bZ⟩;have i:=(eF aT).trans bZ;have bv:V _:=bq.2;obtain⟨_,bn,aC,a0⟩:=cM.o b4 i;have HE:V _:=Aj b4 a1 a2 a3 aF ins.length c1 vs.length c2 outs.length c3 ins.length aP ins vs outs xss (aL.o b4 i) bq.1 bq.2.1 cK.o bq.2.2.1;have bX:V _:=i;clear bq bZ i)
   |(go_at_call 6;refine yai HE.o ?_;rintro e b1 ⟨K,wc,g,rfl,z,bA,bc⟩;have am:V (SS b1 K outs.length g/\WnO bd ins vs outs g):=⟨z,xss,bv.o,bA⟩;have cp:V _:=bX.o.trans bc;clear z bA bc))
  all_goals
   go_wp2_with fail
   go_meet
   exact⟨K,wc,g,rfl,rfl,am,cp⟩
 case rest=>
  obtain⟨K,bE,g,rfl,rfl,am,C⟩:=hcut;obtain⟨b1,bC⟩:∃b1,b1=wc:=⟨_,rfl⟩
  subst bC;clear bj aQ a6;have cp:V (Kept 0 0 w b1):=aV.o.trans C.o;go_wp2_with fail;refine yai (bP.o b1 cp.o) ?_;rintro e ar ⟨N,f1,aA,f2,ab,f3,F,rfl,aj,d,b6⟩;simp only at aj d;have z:Lk F vs:=PU (aj.trans a7.o.symm);have bH:=ez 0 0 ar (eY N ins.length f1 aA F.length f2 ab outs.length f3);have B:okG ins F outs=true:=hU z.okG cK.o
  have bb:V _:=rpP (ar.alloc (eY N ins.length f1 aA F.length f2 ab outs.length f3)) p bp.o N aA ab ins.length f1 F.length f2 outs.length f3 ins F outs ((Ct d.r1 rfl).keep bH) ((L5 d.r2 rfl).keep bH) ((Ct d.r3 rfl).keep bH) d.k B;have R:V (Lk F vs/\Kb F/\okG ins F outs=true):=⟨z,d.k,B⟩
  have av:V (Kept 0 0 b1 (ar.alloc (eY N ins.length f1 aA F.length f2 ab outs.length f3))):=b6.trans bH;obtain⟨_,bY,br,ag⟩:=fE ar (.slice N ins.length f1) (.slice aA F.length f2) (.slice ab outs.length f3);clear aj d b6 bH z B a7 bP;go_wp2_with fail;clear bY br ag;generalize ar.alloc (eY N ins.length f1 aA F.length f2 ab outs.length f3)=H at bb av⊢;refine yai bb.o ?_;clear bb;rintro e aH ⟨j,d1,t,aJ,d2,r,d3,us,rfl,aZ,be,bz,_,ae,bm,cC⟩;have bH:=ez 0 0 aH (eY j ins.length d1 t aJ d2 r outs.length d3);have aa:V (Kept 0 0 aT (aH.alloc (eY j ins.length d1 t aJ d2 r outs.length d3))):=C.o.trans (av.o.trans (cC.trans bH));have aW:V (Kept 0 0 b1 (aH.alloc (eY j ins.length d1 t aJ d2 r outs.length d3))):=av.o.trans (cC.trans bH);have u:V (∀W,Kept 0 0 (aH.alloc (eY j ins.length d1 t aJ d2 r outs.length d3)) W->G0 W aH.heap.size (.slice j ins.length d1) (.slice t aJ d2) (.slice r outs.length d3)):=λW k=>L8 k;have l:us.length=aJ:=be.1;have cI:=zD p R.o.2.2;have bh:okG ins us (gG p F outs).2=true:=by rw[ae.okG];exact zy p R.o.2.2
  have aY:aJ<=vs.length:=by rw[<-l,ae.len,<-R.o.1.len];exact cI.1
  have aq:V (∀W,Kept 0 0 (aH.alloc (eY j ins.length d1 t aJ d2 r outs.length d3)) W->GS W j ins.length t aJ r outs.length ins us (gG p F outs).2):=λW k=>GS.keep ⟨aZ.is,be.vs bm,bz.is⟩ (bH.trans k);have bu:V (okG ins us (gG p F outs).2=true):=bh
  have HSV:V (∀W,Kept 0 0 (aH.alloc (eY j ins.length d1 t aJ d2 r outs.length d3)) W->Calls prog 5 #[eZ j ins.length d1 t aJ d2 r outs.length d3] W λe J=>e=.returned (.bool true)/\Kept 0 0 W J):=λW k=>by
   have:=ri W j t r ins.length d1 aJ d2 outs.length d3 ins us (gG p F outs).2 (aq.o W k)
   rw[bh]at this
   exact this
  have bf:V (∀W,Kept 0 0 (aH.alloc (eY j ins.length d1 t aJ d2 r outs.length d3)) W->Calls prog 9 #[.slice j ins.length d1,.slice a1 ins.length c1] W λe J=>e=.returned (.bool true)/\Kept 0 0 W J):=λW k=>ED W j a1 ins.length d1 c1 ins (aq.o W k).i (aL.o W (aa.o.trans k)).i (hR al.o);have X:V (Lk us (gG p F outs).1/\Kb us/\us.length=aJ/\(gG p F outs).2.length=outs.length):=⟨ae,bm,l,cI.2⟩
  have bG:¬(vs.length:Int)<aJ:=xaa;obtain⟨_,bk,a8,p2⟩:=u.o _ hQ;obtain⟨_,ba,aO,aR⟩:=cM.o _ aa.o;clear aZ be bz ae bm cC bH l cI bh aY av;go_wp2_with fail;clear bk a8 p2 ba aO aR;generalize aH.heap.size=Vaa at u⊢;generalize aH.alloc (eY j ins.length d1 t aJ d2 r outs.length d3)=af at aa aW u aq HSV bf⊢;refine yai (HSV.o af hQ) ?_;clear HSV;rintro e ay ⟨rfl,(I:V _)⟩;obtain⟨_,bk,a8,p2⟩:=u.o ay I.o;obtain⟨_,ba,aO,aR⟩:=cM.o ay (aa.o.trans I.o);go_wp2_with fail;clear bk a8 p2 ba aO aR;refine yai (bf.o ay I.o) ?_;clear bf;rintro e aU ⟨rfl,aI⟩;have ap:V (Kept 0 0 af aU):=I.o.trans aI;clear aI I;obtain⟨_,bk,a8,p2⟩:=u.o aU ap.o;obtain⟨_,ba,aO,aR⟩:=cM.o aU (aa.o.trans ap.o);go_wp2_with fail;go_cut [13,14] (λx y bo=>∃aG ah f,x=.slice aG outs.length ah/\y=hI 0/\V (SS bo aG outs.length f/\WnO bd ins us (gG p F outs).2 f)/\V (Kept 0 0 af bo))
  case first=>
   go_region_with (first
    |(go_at_call 7;refine yai (o.o _ (aa.o.trans (ap.o.trans (eF aU)))) ?_;rintro e b4 ⟨aF,aP,xss,rfl,bq,bZ⟩;have i:=ap.o.trans ((eF aU).trans bZ);have bv:V _:=bq.2;obtain⟨_,bn,aC,a0⟩:=u.o b4 i;have HE:V _:=Ah b4 j t r aF ins.length d1 aJ d2 outs.length d3 ins.length aP ins us (gG p F outs).2 xss (aq.o b4 i) bq.1 bq.2.1 bu.o bq.2.2.1;have bX:V _:=i;clear bq bZ i)
    |(go_at_call 10;refine yai HE.o ?_;rintro e bB ⟨G,aS,ch,f,rfl,_,U,ao,bw,bc⟩;have aB:V (SS bB (some ⟨G,0,none⟩) outs.length f/\WnO bd ins us (gG p F outs).2 f):=⟨U.ss ao,xss,bv.o,by rw[X.o.2.2.2,X.o.2.2.1];exact bw⟩;have aw:V _:=bX.o.trans bc;clear U ao bw bc))
   all_goals
    go_wp2_with fail
    go_meet
    exact⟨_,_,f,rfl,rfl,aB,aw⟩
  case rest=>
   obtain⟨aG,ah,f,rfl,rfl,aB,aw⟩:=hcut;obtain⟨aX,bD⟩:∃aX,aX=wc:=⟨_,rfl⟩
   subst bD;have v:V _:=Bu aX aG K outs.length ah bE f g aB.o.1 (am.o.1.keep (aW.o.trans aw.o)) (λk O=>IM cK.o R.o.1 X.o.1 X.o.2.1 cg.o R.o.2.1 X.o.2.2.2 aB.o.2 am.o.2 O) (hR al.o);have a9:V (Kept 0 0 w aX):=cp.o.trans (aW.o.trans aw.o);clear bk a8 p2 ba aO aR aB am aw aW u cM aq aL o cK R X cg bu al bp aa ap cp C aV;go_wp2_with (go_at_call 11;refine yai v.o ?_;rintro e bF ⟨rfl,b0⟩;replace a9:V _:=a9.o.trans b0;clear b0);go_ret;exact⟨rfl,a9.o⟩
