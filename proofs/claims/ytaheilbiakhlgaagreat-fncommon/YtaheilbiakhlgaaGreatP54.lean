import Derived.Test.YtaheilbiakhlgaaGreatP53
namespace Go.Proofs.Z
open Tryz
set_option maxRecDepth 1000000
set_option maxHeartbeats 0
open Go.RowKit Flt
attribute[local go_sem] eF eE eD
variable{ins outs bc:List Int}{us vs Y:List Vl}
theorem PI(w:World)(p q):IS (w.alloc (.cells #[hF p,hF q] 3)) 0 (w.heap.size+1) (some ⟨w.heap.size,0,none⟩) 2 [p,q]:=
 ⟨rfl,.inr ⟨w.heap.size,0,rfl,Nat.zero_le _,yae,by simp,λk O=>by
  rcases (by omega:k=0\/k=1) with rfl|rfl<;>simp⟩⟩
def Bi(vs:List Vl)(outs:List Int):List Vl×List Int:=gl 0 (gl 1 vs outs).1 (gl 1 vs outs).2
theorem Ox(B:Lk us (gl 1 Y outs).1)(X:Lk Y vs):Lk (gl 0 us (gl 1 Y outs).2).1 (Bi vs outs).1/\(gl 0 us (gl 1 Y outs).2).2=(Bi vs outs).2:=by
 have q:=xK (outs:=outs) 1 X;have r:=xK (outs:=(gl 1 Y outs).2) 0 (B.trans q.1);unfold Bi;rw[<-q.2];exact r
theorem Iu(h:okG ins vs outs=true)(ah:Lk us (Bi vs outs).1){p q}(s:p<q)(ao:q<us.length):fK (us.getD q hK) (us.getD p hK)=false:=by
 rw[<-sK,ah.at_ q,ah.at_ p,sK];exact G9 h s (by rw[ah.len]at ao;exact ao)
theorem Iv{g B R}(h:okG ins vs outs=true)(X:Lk Y vs)(aw:Lk g (gl 1 Y outs).1)(aI:Lk us (gl 0 g (gl 1 Y outs).2).1)(n:Kb us)(i:Kb g)(bX:Kb vs)(f:Kb Y)
  (bl:WnO bc ins us (gl 0 g (gl 1 Y outs).2).2 B) (F:WnO bc ins vs outs R) {k} (O:k<outs.length):gH (B.getD k []) (R.getD k [])/\(B.getD k []).length<=1000000:=by
 have ax:okG ins Y outs=true:=hR X.okG h
 have bJ:=(mA 1 ax).2;have aa:okG ins g (gl 1 Y outs).2=true:=by rw[aw.okG];exact nG 1 ax
 have b5:=(mA 0 aa).2;obtain⟨y,⟨m,o,aO⟩,l⟩:=F;obtain⟨x,⟨bp,_,p⟩,dg⟩:=bl;have a5:=vz (.inl rfl) aa (Lk.refl _) aI (λ_=>rfl) bp bp n i i (k:=k) xaa;have p2:=vz (.inr rfl) h X aw (λj=>iZ (p j) (vf (aO j))) bp m i bX f O;have e:=iZ (dg k xaa) (iZ a5 (iZ p2 (vf (l k O))));refine⟨e,?_⟩;obtain⟨_,_,h3,a6,_⟩:=gM h;have bO:=a6 (outs.getD k 0) (by rw[yah,yal O];exact List.getElem_mem _);have cu:=qJ (vs:=vs) o vs.length (DW h3) (outs.getD k 0).toNat xaa;have cD:=iq (h3 (outs.getD k 0).toNat xaa);rw[jY e,jY (l k O)];omega
theorem Bj{w a b n cap m cm xs}(h:YS w a n xs)(ak:n<=cap)(bS:YS w b m bc):
  Calls prog 3 #[.slice a n cap,.slice b m cm] w λe J=>e=.returned (.bool true)/\Kept 0 0 w J:=by
 by_cases hn:1048576<n
 ·have br:(1048576:Int)<(n:Int):=xaa;clear hn;exact xka
 have br:¬(1048576:Int)<(n:Int):=xaa;by_cases aw:1048576<m
 ·have aI:(1048576:Int)<(m:Int):=xaa;clear aw;exact xka
 have aI:¬(1048576:Int)<(m:Int):=xaa;obtain⟨T,bh⟩:=Le (xs:=xs) (nvb λx ap=>h.lt x (List.mem_of_mem_take ap));have ba:V (∀W,Kept 0 0 w W->_):=λW k=>bh (h.keep k) ak;have bV:V _:=bS;have ae:V (m<=1048576):=by show _<=_;omega
 clear bh h hn aw bS;obtain⟨ins,S,outs,bC⟩:=T;go_enter func3,ntmps3;go_wp2_with fail;refine yai (ba.o w hN) ?_;rintro e ay ⟨a1,c1,Z,c2,a3,c3,vs,v,rfl,ai,d,am⟩;have a2:V (vs.map sv=S):=ai;simp only at d;have cB:=ez 0 0 ay (eZ a1 ins.length c1 Z vs.length c2 a3 outs.length c3);have aM:V _:=GS.keep ⟨(Ce d.r1 rfl).is,(LP d.r2 rfl).vs d.k,(Ce d.r3 rfl).is⟩ cB;have cq:V (Kb vs):=d.k;have b1:V _:=re (ay.alloc (eZ a1 ins.length c1 Z vs.length c2 a3 outs.length c3)) a1 Z a3 ins.length c1 vs.length c2 outs.length c3 ins vs outs aM.o;have b4:V _:=am.trans cB;have bk:V (∀W,Kept 0 0 (ay.alloc (eZ a1 ins.length c1 Z vs.length c2 a3 outs.length c3)) W->_):=λW k=>It k;obtain⟨_,aW,aq,aN⟩:=bk.o _ hN;clear ai d am cB;go_wp2_with fail;clear aW aq aN;generalize ay.heap.size=Q at bk⊢;generalize ay.alloc (eZ a1 ins.length c1 Z vs.length c2 a3 outs.length c3)=W2 at b1 b4 bk aM⊢;refine yai b1.o ?_;clear b1;rintro e aF ⟨rfl,aJ⟩;have bX:V _:=b4.o.trans aJ;obtain⟨_,bf,aO,aX⟩:=bk.o aF aJ;cases b6:okG ins vs outs
 ·clear b6 aJ bk a2 ba aM cq bV ae;go_wp2;go_ret;exact⟨rfl,bX.o⟩
 by_cases cK:300<vs.length
 ·have cX:(300:Int)<(vs.length:Int):=xaa;clear b6 aJ bk a2 ba aM cq bV ae cK;go_wp2;go_ret;exact⟨rfl,bX.o⟩
 have cX:¬(300:Int)<(vs.length:Int):=xaa;have cP:V _:=λW k=>bk.o W (aJ.trans k);have bQ:V (∀W,Kept 0 0 aF W->_):=λW k=>aM.o.keep (aJ.trans k);have cH:V _:=b6;obtain⟨⟨ci,cz,ct⟩,cR,_⟩:=gM b6;have b0:V (ins.length<=20/\vs.length<=2000/\outs.length<=50):=⟨ci,cz,ct⟩
 have o:V (∀W,Kept 0 0 aF W->Calls prog 8 #[.slice a1 ins.length c1,.slice b m cm,.bool true] W (InO W bc ins)):=λW k=>Lf (bQ.o W k).i (bV.o.keep (bX.o.trans k)) ae.o ci cR;have bx:V (∀W,Kept 0 0 aF W->Calls prog 6 #[eX a1 ins.length c1 Z vs.length c2 a3 outs.length c3,hE W.heap.size 2 2] (W.alloc (.cells #[hF 1,hF 0] 3)) (SRo (W.alloc (.cells #[hF 1,hF 0] 3)) ins.length outs.length ins (Bi vs outs))):=λW k=>Hd _ a1 Z a3 ins.length c1 vs.length c2 outs.length c3 _ 2 2 ins vs outs (bQ.o _ (k.trans (ez 0 0 _ _))) b6 _ _ [1,0] (PI W 1 0) xab xab (λk O=>by rcases (by omega:k=0\/k=1) with rfl|rfl<;>decide);clear b6 aJ bk aM b4 ci cz ct cR bV ae cK;go_wp2_with fail;refine yai (bx.o aF hN) ?_;clear bx bf aO aX;rintro e b8 ⟨aK,af,aP,bO,a0,b3,aj,dv,rfl,gr,cV,f⟩;have cw:V (bO=(Bi vs outs).1.length):=by show _=_;rw[<-gr.v.len];exact cV.len
 have cT:=ez 0 0 b8 (eZ aK ins.length af aP bO a0 b3 outs.length aj);have bU:V _:=(ez 0 0 aF _).trans (f.trans cT);have bP:V (∀W,Kept 0 0 (b8.alloc (eZ aK ins.length af aP bO a0 b3 outs.length aj)) W->_):=λW k=>It k;obtain⟨_,bf,aO,aX⟩:=cP.o _ bU.o;clear gr cV f cT;go_wp2_with fail;generalize b8.heap.size=di at bP⊢;generalize b8.alloc (eZ aK ins.length af aP bO a0 b3 outs.length aj)=cf at bU bP bf aO aX⊢;go_cut [9,10] (λx y bp=>∃aY wc R,x=.slice aY outs.length wc/\y=hF 0/\V (SS bp aY outs.length R/\WnO bc ins vs outs R)/\V (Kept 0 0 cf bp))
 case first=>
  go_region_with (first
   |(go_at_call 8;refine yai (o.o _ (bU.o.trans (eG cf))) ?_;rintro e bv ⟨bR,b2,xss,rfl,co,b7⟩;have ab:=(eG cf).trans b7;have bu:V _:=co.2;obtain⟨_,bo,az,aZ⟩:=cP.o bv (bU.o.trans ab);have HE:V _:=zR bv a1 Z a3 bR ins.length c1 vs.length c2 outs.length c3 ins.length b2 ins vs outs xss (bQ.o bv (bU.o.trans ab)) co.1 co.2.1 cH.o co.2.2.1;have bH:V _:=ab;clear co b7 ab)
   |(go_at_call 7;refine yai HE.o ?_;rintro e bN ⟨aY,wc,R,rfl,z,cS,bW⟩;have aU:V (SS bN aY outs.length R/\WnO bc ins vs outs R):=⟨z,xss,bu.o,cS⟩;have cF:V _:=bH.o.trans bW;clear z cS bW))
  all_goals
   go_wp2_with fail
   go_meet
   exact⟨aY,wc,R,rfl,rfl,aU,cF⟩
 case rest=>
  obtain⟨aY,dg,R,rfl,rfl,aU,C⟩:=hcut;obtain⟨bv,c6⟩:∃bv,bv=wc:=⟨_,rfl⟩
  subst c6;clear bf aO aX;have bH:V _:=bX.o.trans (bU.o.trans C.o);go_wp2_with fail;refine yai (ba.o bv bH.o) ?_;rintro e bN ⟨N,f1,aD,f2,ad,f3,Y,v',rfl,ai,d,cb⟩;simp only at ai d;have z:=PH (ai.trans a2.o.symm);have bE:=ez 0 0 bN (eZ N ins.length f1 aD Y.length f2 ad outs.length f3);have aL:okG ins Y outs=true:=hR z.okG cH.o
  have aH:V _:=rpC (bN.alloc (eZ N ins.length f1 aD Y.length f2 ad outs.length f3)) 1 (.inr rfl) N aD ad ins.length f1 Y.length f2 outs.length f3 ins Y outs ((Ce d.r1 rfl).keep bE) ((LP d.r2 rfl).keep bE) ((Ce d.r3 rfl).keep bE) d.k aL;have U:V (Lk Y vs/\Kb Y/\okG ins Y outs=true):=⟨z,d.k,aL⟩
  have cF:V _:=cb.trans bE;obtain⟨_,bZ,bG,aC⟩:=fO bN (.slice N ins.length f1) (.slice aD Y.length f2) (.slice ad outs.length f3);clear ai d cb bE z aL a2 ba;go_wp2_with fail;clear bZ bG aC;generalize bN.alloc (eZ N ins.length f1 aD Y.length f2 ad outs.length f3)=bn at aH cF⊢;refine yai aH.o ?_;clear aH;rintro e aG ⟨C1,aq,ax,s,aN,bg,bA,g,rfl,aS,bb,bq,_,al,a6,cG⟩;have bE:=ez 0 0 aG (eZ C1 ins.length aq ax s aN bg outs.length bA);have aa:okG ins g (gl 1 Y outs).2=true:=by rw[al.okG];exact nG 1 U.o.2.2
  have aH:V _:=rpC (aG.alloc (eZ C1 ins.length aq ax s aN bg outs.length bA)) 0 (.inl rfl) C1 ax bg ins.length aq s aN outs.length bA ins g (gl 1 Y outs).2 (aS.keep bE) (bb.keep bE) (bq.keep bE) a6 aa;have a8:V (Lk g (gl 1 Y outs).1/\Kb g):=⟨al,a6⟩
  have a9:V _:=cF.o.trans (cG.trans bE);obtain⟨_,bZ,bG,aC⟩:=fO aG (.slice C1 ins.length aq) (.slice ax s aN) (.slice bg outs.length bA);clear aS bb bq al a6 cG bE cF;go_wp2_with fail;clear bZ bG aC;generalize aG.alloc (eZ C1 ins.length aq ax s aN bg outs.length bA)=ds at aH a9⊢;refine yai aH.o ?_;clear aH;rintro e bD ⟨q,d1,t,H,d2,r,d3,us,rfl,aS,bb,bq,_,al,a6,I⟩;have bE:=ez 0 0 bD (eZ q ins.length d1 t H d2 r outs.length d3);have cO:=Ox a8.o.1 U.o.1;have ch:V (Lk us (Bi vs outs).1):=al.trans cO.1;have be:=bb.1;obtain rfl:H=bO:=by rw[cw.o,<-be];exact ch.o.len
  have K:V _:=a9.o.trans (I.trans bE);have bl:V (∀W,Kept 0 0 (bD.alloc (eZ q ins.length d1 t H d2 r outs.length d3)) W->_):=λW k=>It k;have bj:V (∀W,Kept 0 0 (bD.alloc (eZ q ins.length d1 t H d2 r outs.length d3)) W->_):=λW k=>GS.keep ⟨aS.is,bb.vs a6,bq.is⟩ (bE.trans k);have aa:okG ins g (gl 1 Y outs).2=true:=by rw[a8.o.1.okG];exact nG 1 U.o.2.2
  have cJ:V (okG ins us (gl 0 g (gl 1 Y outs).2).2=true):=by show _=_;rw[al.okG];exact nG 0 aa
  have F:V (Lk us (gl 0 g (gl 1 Y outs).2).1/\Kb us/\us.length=H/\(gl 0 g (gl 1 Y outs).2).2.length=outs.length):=⟨al,a6,be,by rw[(mA 0 aa).2,(mA 1 U.o.2.2).2]⟩
  have cC:V (H<=2000):=by
   show H<=2000;have bJ:=(mA 0 aa).1;have b5:=(mA 1 U.o.2.2).1;have cu:=b0.o;rw[<-be,al.len];have cD:=a8.o.1.len;have cU:=U.o.1.len;omega
  obtain⟨_,bi,a5,p2⟩:=bl.o _ hN;obtain⟨_,dd,av,b9⟩:=bP.o _ (C.o.trans K.o);clear aS bb bq al a6 I bE be cO aa a9 cw;go_wp2_with fail;clear bi a5 p2 dd av b9 bP;generalize bD.heap.size=Vaa at bl⊢;generalize bD.alloc (eZ q ins.length d1 t H d2 r outs.length d3)=cy at K bl bj⊢;go_loopw [17] (λi W=>∃k:Nat,k<=H/\i=hF k/\V (Kept 0 0 cy W)) (λi _=>H-(intOf i).toNat)
  case atStart=>exact⟨0,Nat.zero_le _,rfl,Kept.refl _ _ _⟩
  case round=>
   obtain⟨k,O,rfl,ar⟩:=hrel;have c9:=cC.o;obtain⟨_,bi,a5,p2⟩:=bl.o wr ar.o;by_cases aB:k<H
   ·go_wp2_with fail;clear bi a5 p2;go_loopw [18] (λj W=>∃l:Nat,l<=k/\j=hF l/\V (Kept 0 0 cy W)) (λj _=>k-(intOf j).toNat)
    case atStart=>exact⟨0,Nat.zero_le _,rfl,ar⟩
    case round=>
     clear ar;obtain⟨l,ah,rfl,ar⟩:=hrel;by_cases cI:l<k
     ·obtain⟨_,bi,a5,p2⟩:=bl.o wr ar.o;obtain⟨aA,bK,cc,P,_,_,bm⟩:=(bj.o wr ar.o).v.at_idx aB;obtain⟨ca,bB,cp,X,_,_,cN⟩:=(bj.o wr ar.o).v.at_idx (i:=l) xaa;rw[cc]at cp a5;cases cp;have au:V _:=H7 wr.drew (us.getD k hK) (us.getD l hK) (F.o.2.1.at_ k) (F.o.2.1.at_ l);rw[Iu cH.o ch.o cI (hR F.o.2.2.1 aB)]at au;generalize us.getD k hK=u at bm au;generalize us.getD l hK=d0 at cN au;obtain⟨bI,bL,bM,cj,cx,cM⟩:=bm;obtain⟨bd,aR,aV,bY,ce,cl⟩:=cN;clear cc;go_wp2_with fail;go_region_with (go_at_call 10;refine yai au.o ?_;rintro e bF ⟨rfl,bW⟩)
      all_goals
       go_wp2
       go_roundw;exact⟨l+1,by omega,by go_num,(Kept.drew ar.o).trans bW⟩;simp[intOf];omega
     obtain rfl:l=k:=xaa;go_wp2;go_roundw;exact⟨l+1,by omega,by go_num,ar⟩;simp[intOf];omega
   obtain rfl:k=H:=xaa;have aQ:V _:=ar.o;clear ar;obtain⟨_,a7,aK,aP⟩:=cP.o wr (bU.o.trans (C.o.trans (K.o.trans aQ.o)));go_wp2_with fail;obtain⟨ao,c7⟩:∃ao,ao=wr:=⟨_,rfl⟩
   subst c7;go_cut [19,20] (λx y bp=>∃aA cr B,x=.slice aA outs.length cr/\y=hF 0/\V (SS bp aA outs.length B/\WnO bc ins us (gl 0 g (gl 1 Y outs).2).2 B)/\V (Kept 0 0 cy bp))
   case first=>
    go_region_with (first
     |(go_at_call 8;refine yai (o.o _ ((bU.o.trans (C.o.trans (K.o.trans aQ.o))).trans (eG ao))) ?_;rintro e cA ⟨bR,b2,xss,rfl,co,b7⟩;have ab:=aQ.o.trans ((eG ao).trans b7);have bu:V _:=co.2;obtain⟨_,bo,az,aZ⟩:=bl.o cA ab;have HE:V _:=zP cA q t r bR ins.length d1 k d2 outs.length d3 ins.length b2 ins us (gl 0 g (gl 1 Y outs).2).2 xss (bj.o cA ab) co.1 co.2.1 cJ.o co.2.2.1;have cd:V _:=ab;clear co b7 ab)
     |(go_at_call 11;refine yai HE.o ?_;rintro e cW ⟨G,aT,ck,B,rfl,_,ag,an,cQ,bW⟩;have bz:V (SS cW (some ⟨G,0,none⟩) outs.length B/\WnO bc ins us (gl 0 g (gl 1 Y outs).2).2 B):=⟨ag.ss an,xss,bu.o,by rw[F.o.2.2.2,F.o.2.2.1];exact cQ⟩;have bw:V _:=cd.o.trans bW;clear ag an cQ bW))
    all_goals
     go_wp2_with fail
     go_meet
     exact⟨_,_,B,rfl,rfl,bz,bw⟩
   case rest=>
    obtain⟨aA,cr,B,rfl,rfl,bz,bw⟩:=hcut;obtain⟨cn,c8⟩:∃cn,cn=wc:=⟨_,rfl⟩
    subst c8;have p:V _:=A7 cn aA aY outs.length cr dg B R bz.o.1 (aU.o.1.keep (K.o.trans bw.o)) (λk O=>Iv cH.o U.o.1 a8.o.1 F.o.1 F.o.2.1 a8.o.2 cq.o U.o.2.1 bz.o.2 aU.o.2 O) (hO b0.o);have cg:V _:=bH.o.trans (K.o.trans bw.o);clear bi a5 p2 a7 aK aP bz aU bw K bl cP bj bQ o cH U F cq cJ b0 aQ C bX bU a8 ch cC c9 bH;go_wp2_with (go_at_call 12;refine yai p.o ?_;rintro e dp ⟨rfl,bT⟩;replace cg:V _:=cg.o.trans bT;clear bT);go_ret;exact⟨rfl,cg.o⟩
