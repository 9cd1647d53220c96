import Derived.Test.YtiacbhjphaldlaaGreatDoorP10
namespace Go.Proofs.Z
variable{v a b g}
variable{Zp:Prop}
open Tryz Go.RowKit Flt
set_option maxRecDepth 1000000
set_option maxHeartbeats 0
section
attribute[local go_sem] dI dG dF
variable{q k p P m1 B l o K m3 ag base aY cap cap':Nat}{i1:Nat->Prop}{w aa A aq D aA:World}{r c n:Int}{y u:Vl}{u1 u3 Y:Value}{R R':Option Nat}{L U a2:Option Addr}{vs:List Vl}
def mvM(i:Int)(v:Vl)(ta tb tc:Int)(N:Nat):List Vl×Int:=
 if ta=-1/\tb=-1/\tc=-1 then ([],-1)
 else if v.op=2 then mK v.len ta tb N
 else if v.op=3 then mL v.len ta tb N
 else if v.op=4 then rQ v ta tb N
 else if v.op=5 then tK i v ta tb N
 else if v.op=7 then ([dL 3 v.len v.a v.b 0]++(chM v.len N ta tb (N+1)).1,(chM v.len N ta tb (N+1)).2)
 else if v.op=8 then (if tb=-1/\tc=-1 then ([],-1)else chM v.len v.a tb tc N)
 else if v.op=13 then ([dL 4 v.len ta i 0],(N:Int))
 else ([dL v.op v.len ta 0 v.c],(N:Int))
def ovs(v:Vl)(mv:List Int)(q j:Nat):Int:=if j<q then mv.getD (fld v j).toNat 0 else -1
structure A3(W:World)(A:Nat)(x:Nat->Int):Prop where
 lt:A<W.heap.size
 free:∀o,W.frozen? ⟨A,o,none⟩=false
 at_:∀j,j<3->W.cell? ⟨A,j,none⟩=some (.int .i64 (x j))
theorem A3.keep{W aH x}(f:A3 W aH x)(q:Kept 0 0 W A):A3 A aH x:=
 ⟨yaj f.lt q.size,λo=>by rw[q.frozen f.lt xaa];exact f.free o,λj aK=>dZ q f.lt (f.at_ j aK)⟩
theorem A3.put{W aH bc q}(f:A3 W aH (ovs v bc q))(an:q<3):A3 (W.setCell ⟨aH,q,none⟩ (h0 (bc.getD (fld v q).toNat 0))) aH (ovs v bc (q+1)) where
 lt:=by simpa using f.lt
 free:=λo=>by simp[f.free o]
 at_:=λj aK=>by
  by_cases e:j=q
  ·subst e
   rw[eR (f.at_ j aK)]
   unfold ovs
   grind
  ·rw[dR (.inr (Ne.symm e)),f.at_ j aK]
   grind[ovs]
theorem Dz(w:World)(v bc t):A3 (w.alloc (.cells #[h0 (-1),h0 (-1),h0 (-1)] t)) w.heap.size (ovs v bc 0) where
 lt:=by simp
 free:=λo=>by simp
 at_:=λj aK=>by
  have:j=0\/j=1\/j=2:=xaa
  obtain rfl|rfl|rfl:=this<;>simp[ovs]
theorem tZ(v)(an:q<cnt v.op):(fy v).getD q 0=[v.a,v.b,v.c].getD q 0:=by
 simp_all[fy]
theorem Am(v)(an:q<3):fld v q=[v.a,v.b,v.c].getD q 0:=by
 obtain rfl|rfl|rfl:=(by omega:q=0\/q=1\/q=2)<;>rfl
theorem three(h:¬(a=-1/\b=-1/\c=-1)):((a==-1)=false)\/((a==-1)=true/\(b==-1)=false)\/((a==-1)=true/\(b==-1)=true/\(c==-1)=false):=by
 grind
theorem two(h:¬(b=-1/\c=-1)):((b==-1)=false)\/((b==-1)=true/\(c==-1)=false):=by
 grind
theorem G6{bm}(h:BS aa P u1 u3 (vs++a) (c+dK a) base bm Y)(s:Stp P R w bm aa)(b:Bnd (vs++a) (c+dK a) n)(d p q):
  Calls prog 200 #[ge P,h0 n,h0 d,h0 p,h0 q] aa λe D=>Bd w P u1 u3 vs c base R (a++(chM n d p q (vs.length+a.length)).1,(chM n d p q (vs.length+a.length)).2) e D:=
 (tY aa P u1 u3 (vs++a) (c+dK a) base bm Y n d p q h b).mono λe D I=>by
  grind[Bd.after]
theorem Lo(w P){u1 u3 vs c base}(R){Y i aM n aN bc v}(h:BS w P u1 u3 vs c base R Y)(hi:i<vs.length)(ah:vs.getD i h7=v)(b:Bnd0 vs c v.len)(bH:IR w aM bc)(aE:bc.length=n)(cn:∀q,q<cnt v.op->0<=fld v q/\fld v q<n):
  Calls prog 187 #[ge P,h0 i,hZ aM n aN] w λe D=>Bd w P u1 u3 vs c base R (mvM (i:Int) v (ovs v bc (cnt v.op) 0) (ovs v bc (cnt v.op) 1) (ovs v bc (cnt v.op) 2) vs.length) e D:=by
 have bx:=dE 0 0 w (ir v.op v.len v.a v.b v.c v.k);have af:=dE 0 0 (w.alloc (ir v.op v.len v.a v.b v.c v.k)) (.cells #[h0 (-1),h0 (-1),h0 (-1)] 275);have cd:M _:=(iB w v).keep xac af yaa;have b0:M _:=Dz (w.alloc (ir v.op v.len v.a v.b v.c v.k)) v bc 275;obtain⟨g,cap,rfl,aG,bo⟩:=h.read xaa;have a9:=h.c1;have ce:=bo i hi;rw[ah]at ce;have aP:=kN v.op;have ay:M _:=bx.trans af;have aw:=Q h;have O:=Q bH;have aJ:=Q aE;have bl:=Q cn;have a:=Q b;have aL:=Q ah;have cz:M (w.heap.size+1<((w.alloc (ir v.op v.len v.a v.b v.c v.k)).alloc (.cells #[h0 (-1),h0 (-1),h0 (-1)] 275)).heap.size):=by show _<_;simp
 have bM:=Q bH.lt;clear h ah bo aG bx af bH cn b aE;obtain⟨cc,aW,bA,bs,aj,X⟩:=ce;go_enter func187,ntmps187;go_wp2_with fail;clear cc aW bA bs aj X a9;generalize ((w.alloc _).alloc _)=aa at cd b0 ay cz⊢;refine(ms _ v).mono ?_;rintro e Z ⟨bv,rfl,bh,bL,a5⟩;have cb:=Q bh
 have cO:M (A3 Z (w.heap.size+1) (ovs v bc 0)):=by
  have:=b0.o.keep a5;rw[show(w.alloc _).heap.size=w.heap.size+1 by simp]at this;exact this
 have f:M _:=cd.o.keep (ih cz.o) a5 yaa;have bJ:M _:=ay.o.trans a5;clear bh bL a5 b0 cd ay;go_wp2_with fail;go_loopw [30] (λx W=>∃q:Nat,q<=cnt v.op/\x=h0 q/\M (A3 W (w.heap.size+1) (ovs v bc q))/\M (At W w.heap.size 0 v)/\M (IS W aa.heap.size Z.heap.size (some ⟨bv,0,none⟩) (cnt v.op) (fy v))/\M (Kept 0 0 w W)) (λx _=>cnt v.op-(intOf x).toNat)
 case atStart=>grind
 case round=>
  obtain⟨q,an,rfl,bo,F,bh,bd⟩:=hrel;clear cO f cb bJ;by_cases aV:q<cnt v.op
  ·obtain bK|⟨s,aK,bD,a9,bj,bI,bR⟩:=bh.o.at_
   ·omega
   have c1:=bR q aV;cases bD;rw[Nat.zero_add,tZ v aV,<-Am v xaa]at c1;have bi:=bl.o q aV;obtain bK|⟨aZ,bf,G,aQ,aU,bN,cp⟩:=(Og (IR.keep O.o bd.o yaa) aJ.o).at_
   ·omega
   cases G;obtain⟨o,av⟩:∃o:Nat,fld v q=o:=⟨(fld v q).toNat,by omega⟩
   have c2:=cp o xaa;rw[Nat.zero_add]at c2;have c5:=bo.o.at_ q xaa;have bC:=bo.o.free q;have ap:=bo.o.put xaa;rw[av,Int.toNat_natCast]at ap;rw[av]at c1 bi;have bm:=Q ap;have a0:Kept (w.heap.size+1) (w.heap.size+2) _ (wr.setCell ⟨_,q,none⟩ (h0 (bc.getD o 0))):=d9 _ _ _ yab;have bP:M _:=F.o.keep (ih bo.o.lt) a0 (.inl xaa);have S:M _:=bh.o.keep a0 (.inr (.inl (ih cz.o)));have cX:M _:=bd.o.new a0 xaa;have a8:q<3:=xaa;have a6:o<n:=xaa;clear a9 bj bI bR aQ aU bN cp a0 bo F bh bd bi av ap;generalize bc.getD o 0=ba at c2 bm bP S cX;generalize ovs v _ q q=bb at c5;go_wp2;go_roundw
   case rel=>exact⟨q+1,by omega,by go_num,bm,bP,S,cX⟩
   case measure=>simp[intOf];omega
  obtain rfl:q=cnt v.op:=xaa;have bG:=bo.o.at_ 0 xaa;have bB:=bo.o.at_ 1 xaa;have bQ:=bo.o.at_ 2 xaa
  have dp:(ovs v bc (cnt v.op) 0=-1/\ovs v bc (cnt v.op) 1=-1/\ovs v bc (cnt v.op) 2=-1)\/(v.op=2\/v.op=3\/v.op=4\/v.op=5\/v.op=6\/v.op=7\/v.op=8\/v.op=9\/v.op=10\/v.op=11\/v.op=12\/v.op=13):=by
   by_cases aC:cnt v.op=0
   ·left;rw[aC];exact⟨rfl,rfl,rfl⟩
   grind[cnt]
  have ax:M (Bnd vs c _):=⟨ih a.o.l,ih a.o.c0,ih a.o.c1,a.o.n0,a.o.n1⟩
  have aS:=Q bd.o;have aD:=Q F.o;have aF:M (w.heap.size<wr.heap.size):=by have:=bo.o.lt;show _<_;omega
  clear bo F bh bd;obtain⟨ad,T⟩:∃ad,ad=ovs v bc (cnt v.op) 0:=⟨_,rfl⟩
  obtain⟨C,V⟩:∃C,C=ovs v bc (cnt v.op) 1:=⟨_,rfl⟩
  obtain⟨al,ab⟩:∃al,al=ovs v bc (cnt v.op) 2:=⟨_,rfl⟩
  rw[<-T]at bG;rw[<-V]at bB;rw[<-ab]at bQ;rw[<-T,<-V,<-ab]at dp;have z:M (ad=ovs v _ _ 0/\C=ovs v _ _ 1/\al=ovs v _ _ 2):=⟨T,V,ab⟩
  clear T V ab;go_wp2_with fail;go_quiet (fail)
  have ai:M _:=Kept.trans aS.o (ed 0 0 nq);have aH:=aD.o.keep aF.o (ed 0 0 nq) yaa;clear bG bB bQ aD aS aF;generalize wr.drewN _=ao at ai aH⊢;obtain⟨bq,ak,az,bF,cg,bE⟩:=aH;have t:M _:=aw.o.keep ai.o
  have m:M (∀{D:World}{e:Ending}{Maa:List Vl×Int},Bd ao P u1 u3 vs c base R Maa e D->Maa=mvM (i:Int) v ad C al vs.length->∃r:Int,e=.returned (h0 r)/\M (Bd w P u1 u3 vs c base R (mvM (i:Int) v (ovs v bc (cnt v.op) 0) (ovs v bc (cnt v.op) 1) (ovs v bc (cnt v.op) 2) vs.length) (.returned (h0 r)) D)):=λ{D e Maa} I aR=>by
   have h:=Bd.kept ai.o (Bd.cast (show Maa=mvM (i:Int) v (ovs v bc (cnt v.op) 0) (ovs v bc (cnt v.op) 1) (ovs v bc (cnt v.op) 2) vs.length by rw[aR,z.o.1,z.o.2.1,z.o.2.2]) I)
   exact⟨_,h.1,⟨rfl,h.2⟩⟩
  have gb:M (([],-1)=mvM (i:Int) v ad C al vs.length->_):=λaR=>Bd.kept ai.o (Bd.cast (by rw[aR,z.o.1,z.o.2.1,z.o.2.2]) (Bd.none t.o (-1)));clear ai;by_cases H:ad=-1/\C=-1/\al=-1
  ·obtain⟨rfl,rfl,rfl⟩:=H;go_wp2;go_ret;exact gb.o (by unfold mvM;rw[h3 ⟨rfl,rfl,rfl⟩])
  have j:=Q H;obtain aI|⟨aI,ar⟩|⟨aI,ar,aT⟩:=three H
  all_goals
   obtain dp|dp:=dp
   ·exact absurd dp j.o
   clear H
   obtain be|be|be|be|be|be|be|be|be|be|be|be:=dp
   ·rw[be]at bq
    have am:=Q be
    clear be
    go_wp2_with fail
    refine yai (Dt _ P _ _ _ c _ R _ _ _ _ t.o ax.o) ?_
    rintro e bn I
    obtain⟨r,rfl,au⟩:=m.o I (by unfold mvM;rw[h2 j.o,h3 am.o])
    clear I
    go_wp2
    go_ret
    exact au.o
   ·rw[be]at bq
    have am:=Q be
    clear be
    go_wp2_with fail
    refine yai (Du _ P _ _ _ c _ R _ _ _ _ t.o ax.o) ?_
    rintro e bn I
    obtain⟨r,rfl,au⟩:=m.o I (by unfold mvM;rw[h2 j.o,h2 (ih am.o),h3 am.o])
    clear I
    go_wp2
    go_ret
    exact au.o
   ·rw[be]at bq
    have am:=Q be
    clear be
    go_wp2_with fail
    refine yai (G5 P c R ⟨4,v.len,v.a,v.b,v.c,v.k⟩ t.o a.o) ?_
    rintro e bn I
    obtain⟨r,rfl,au⟩:=m.o I (by unfold mvM;rw[h2 j.o,h2 (ih am.o),h2 (ih am.o),h3 am.o];unfold rQ;rfl)
    clear I
    go_wp2
    go_ret
    exact au.o
   ·rw[be]at bq
    have am:=Q be
    clear be
    go_wp2_with fail
    refine yai (BD P c R i v t.o hi aL.o a.o) ?_
    rintro e bn I
    obtain⟨r,rfl,au⟩:=m.o I (by unfold mvM;rw[h2 j.o,h2 (ih am.o),h2 (ih am.o),h2 (ih am.o),h3 am.o])
    clear I
    go_wp2
    go_ret
    exact au.o
   ·rw[be]at bq
    have am:=Q be
    clear be
    go_wp2_with fail
    refine yai (iW _ P c R 6 _ _ 0 _ t.o (ih a.o.l) (ih a.o.c0) (ih a.o.c1) (ih a.o.n0) (ih a.o.n1)) ?_
    rintro e bn I
    obtain⟨r,rfl,au⟩:=m.o I (by unfold mvM;rw[h2 j.o,h2 (ih am.o),h2 (ih am.o),h2 (ih am.o),h2 (ih am.o),h2 (ih am.o),h2 (ih am.o),h2 (ih am.o),am.o])
    clear I
    go_wp2
    go_ret
    exact au.o
   ·rw[be]at bq
    have am:=Q be
    clear be
    go_wp2_with fail
    refine yai (iW _ P c R 3 _ _ _ 0 t.o (ih a.o.l) (ih a.o.c0) (ih a.o.c1) (ih a.o.n0) (ih a.o.n1)) ?_
    rintro e a7 ⟨rfl,S,bg,bw,cg⟩
    have aO:M _:=G6 (n:=v.len) bw cg ⟨by have:=a.o.l;simp;omega,by have:=a.o.c0;have:=a.o.n0;simp[dK];omega,by have:=a.o.c1;have:=a.o.n1;simp[dK];omega,a.o.n0,a.o.n1⟩ (vs.length:Nat) ad C
    clear bw cg
    go_wp2_with fail
    refine yai aO.o ?_
    rintro e bn I
    obtain⟨r,rfl,au⟩:=m.o I (by unfold mvM;rw[h2 j.o,h2 (ih am.o),h2 (ih am.o),h2 (ih am.o),h2 (ih am.o),h3 am.o];rfl)
    clear I
    go_wp2
    go_ret
    exact au.o
   ·rw[be]at bq
    have am:=Q be
    clear be
    by_cases J:C=-1/\al=-1
    ·first
      |(exact absurd (show(C==-1)=true by rw[J.1];rfl) (by rw[ar];decide))
      |(exact absurd (show(al==-1)=true by rw[J.2];rfl) (by rw[aT];decide))
      |(have ae:=Q J
        have aB:(C==-1)=true:=i0 J.1
        have aX:(al==-1)=true:=i0 J.2
        clear J
        go_wp2
        go_ret
        exact gb.o (by unfold mvM;rw[h2 j.o,h2 (ih am.o),h2 (ih am.o),h2 (ih am.o),h2 (ih am.o),h2 (ih am.o),h3 am.o,h3 ae.o]))
    ·have ae:=Q J
     obtain aB|⟨aB,aX⟩:=two J
     all_goals first
      |(exact absurd aB (by rw[ar];decide))
      |(clear J
        go_wp2_with fail
        refine yai (tY _ P _ _ _ c _ R _ _ _ _ _ t.o ax.o) ?_
        rintro e bn I
        obtain⟨r,rfl,au⟩:=m.o I (by unfold mvM;rw[h2 j.o,h2 (ih am.o),h2 (ih am.o),h2 (ih am.o),h2 (ih am.o),h2 (ih am.o),h3 am.o,h2 ae.o])
        clear I
        go_wp2
        go_ret
        exact au.o)
   ·rw[be]at bq
    have am:=Q be
    clear be
    go_wp2_with fail
    refine yai (iW _ P c R 9 _ _ 0 _ t.o (ih a.o.l) (ih a.o.c0) (ih a.o.c1) (ih a.o.n0) (ih a.o.n1)) ?_
    rintro e bn I
    obtain⟨r,rfl,au⟩:=m.o I (by unfold mvM;rw[h2 j.o,h2 (ih am.o),h2 (ih am.o),h2 (ih am.o),h2 (ih am.o),h2 (ih am.o),h2 (ih am.o),h2 (ih am.o),am.o])
    clear I
    go_wp2
    go_ret
    exact au.o
   ·rw[be]at bq
    have am:=Q be
    clear be
    go_wp2_with fail
    refine yai (iW _ P c R _ _ _ 0 _ t.o (ih a.o.l) (ih a.o.c0) (ih a.o.c1) (ih a.o.n0) (ih a.o.n1)) ?_
    rintro e bn I
    obtain⟨r,rfl,au⟩:=m.o I (by unfold mvM;rw[h2 j.o,h2 (ih am.o),h2 (ih am.o),h2 (ih am.o),h2 (ih am.o),h2 (ih am.o),h2 (ih am.o),h2 (ih am.o),am.o])
    clear I
    go_wp2
    go_ret
    exact au.o
   ·rw[be]at bq
    have am:=Q be
    clear be
    go_wp2_with fail
    refine yai (iW _ P c R _ _ _ 0 _ t.o (ih a.o.l) (ih a.o.c0) (ih a.o.c1) (ih a.o.n0) (ih a.o.n1)) ?_
    rintro e bn I
    obtain⟨r,rfl,au⟩:=m.o I (by unfold mvM;rw[h2 j.o,h2 (ih am.o),h2 (ih am.o),h2 (ih am.o),h2 (ih am.o),h2 (ih am.o),h2 (ih am.o),h2 (ih am.o),am.o])
    clear I
    go_wp2
    go_ret
    exact au.o
   ·rw[be]at bq
    have am:=Q be
    clear be
    go_wp2_with fail
    refine yai (iW _ P c R _ _ _ 0 _ t.o (ih a.o.l) (ih a.o.c0) (ih a.o.c1) (ih a.o.n0) (ih a.o.n1)) ?_
    rintro e bn I
    obtain⟨r,rfl,au⟩:=m.o I (by unfold mvM;rw[h2 j.o,h2 (ih am.o),h2 (ih am.o),h2 (ih am.o),h2 (ih am.o),h2 (ih am.o),h2 (ih am.o),h2 (ih am.o),am.o])
    clear I
    go_wp2
    go_ret
    exact au.o
   ·rw[be]at bq
    have am:=Q be
    clear be
    go_wp2_with fail
    refine yai (iW _ P c R 4 _ _ i 0 t.o (ih a.o.l) (ih a.o.c0) (ih a.o.c1) (ih a.o.n0) (ih a.o.n1)) ?_
    rintro e bn I
    obtain⟨r,rfl,au⟩:=m.o I (by unfold mvM;rw[h2 j.o,h2 (ih am.o),h2 (ih am.o),h2 (ih am.o),h2 (ih am.o),h2 (ih am.o),h2 (ih am.o),h3 am.o])
    clear I
    go_wp2
    go_ret
    exact au.o
def jV(k n:Nat):List Int:=List.replicate k (-1)++List.replicate (n-k) 0
theorem pO(k n)(h:k<=n):(jV k n).length=n:=by simp[jV];omega
theorem pP(n):jV n n=List.replicate n (-1):=by simp[jV]
theorem pQ{n}(h:k<n):(jV k n).set k (-1)=jV (k+1) n:=by
 apply List.ext_getElem?;intro j;unfold jV;grind
theorem KD(w)(n:Nat)(V:n<=1000000):
  Calls prog 186 #[h0 n] w λe D=>e=.returned (hZ w.heap.size n n)/\IR D w.heap.size (List.replicate n (-1))/\Kept 0 0 w D:=by
 have aR:=yP n w xaa;have F:=IR.made w n;have bd:=dE 0 0 w (.cells (madeCells #[h0 0] n) 3);have bu:=Q F;have ay:=Q bd;clear F bd;generalize bN:w.alloc _=aa at aR bu ay;clear bN;go_enter func186,ntmps186;go_wp2_with fail;clear aR;go_loopw [9] (λx W=>∃k:Nat,k<=n/\x=h0 k/\M (IR W w.heap.size (jV k n))/\M (Kept 0 0 w W)) (λx _=>n-(intOf x).toNat)
 case atStart=>exact⟨0,yad,rfl,bu,ay⟩
 case round=>
  obtain⟨k,H,rfl,bh,bd⟩:=hrel;clear bu ay;by_cases aV:k<n
  ·have c1:=IR.cell bh.o k (by rw[pO k n H];exact aV);have c2:=IR.free bh.o k
   have bm:M (IR (wr.setCell ⟨w.heap.size,k,none⟩ (h0 (-1))) w.heap.size (jV (k+1) n)):=by
    have:=IR.set bh.o k (-1);rw[pQ aV]at this;exact this
   have bP:M _:=iz w _ bd.o _ k (h0 (-1)) yac;clear bh bd;generalize (jV k n).getD k 0=aX at c1;go_wp2;go_roundw
   case rel=>exact⟨k+1,by omega,by go_num,bm,bP⟩
   case measure=>simp[intOf];omega
  obtain rfl:k=n:=xaa;have bm:M (IR wr w.heap.size (List.replicate k (-1))):=by grind[pP]
  have bP:=Q bd.o;clear bh bd;go_wp2;go_ret;exact⟨rfl,bm.o,bP.o⟩
theorem yX(w P){u1 u3 vs c base}(R g){cap}(h:BS w P u1 u3 vs c base R (hZ g vs.length cap))(ab:2000<vs.length):
  Calls prog 151 #[ge P] w λe D=>e=.returned (.bool false)/\D=w:=by
 have c1:=h.c1;clear h;generalize vs.length=n at c1 ab;have ba:¬((n:Int)<=2000):=xaa;exact xff
theorem wX(w P){u1 u3 vs c base}(R g){cap}(h:BS w P u1 u3 vs c base R (hZ g vs.length cap))(ab:vs.length<=2000)(aj:50000<c):
  Calls prog 151 #[ge P] w λe D=>e=.returned (.bool false)/\D=w:=by
 have c1:=h.c1;have c3:=h.c3;clear h;generalize vs.length=n at c1 ab;have ba:(n:Int)<=2000:=xaa;have bu:decide (c<=50000)=false:=yaw xaa;exact xff
theorem DA(w P){u1 u3 vs c base}(R g){cap}(h:BS w P u1 u3 vs c base R (hZ g vs.length cap))(ab:vs.length<=2000)(aj:c<=50000):
  Calls prog 151 #[ge P] w λe D=>e=.returned (.bool true)/\D=w:=by
 have c1:=h.c1;have c3:=h.c3;clear h;generalize vs.length=n at c1 ab;have ba:(n:Int)<=2000:=xaa;have bu:=decide_eq_true aj;exact xff
def jmv(vs0:List Vl)(i:Nat)(st:List Vl×List Int):List Vl×Int:=
 mvM (i:Int) (vs0.getD i h7) (ovs (vs0.getD i h7) st.2 (cnt (vs0.getD i h7).op) 0) (ovs (vs0.getD i h7) st.2 (cnt (vs0.getD i h7).op) 1) (ovs (vs0.getD i h7) st.2 (cnt (vs0.getD i h7).op) 2) st.1.length
def jst(vs0:List Vl)(x t:Nat):Nat->List Vl×List Int
 |0=>(vs0,(List.replicate vs0.length (-1)).set x (t:Int))
 |k+1=>((jst vs0 x t k).1++(jmv vs0 (x+1+k) (jst vs0 x t k)).1,(jst vs0 x t k).2.set (x+1+k) (jmv vs0 (x+1+k) (jst vs0 x t k)).2)
theorem oV(vs0 x t):∀k,(jst vs0 x t k).2.length=vs0.length
 |0=>by simp[jst]
 |k+1=>by simp[jst,oV vs0 x t k]
theorem oW(vs0 x t):∀k,∃r,(jst vs0 x t k).1=vs0++r
 |0=>⟨[],by simp[jst]⟩
 |k+1=>by
  obtain⟨r,h⟩:=oW vs0 x t k
  grind[jst]
theorem qT{vs0}(x t k){i}(hi:i<vs0.length):(jst vs0 x t k).1.getD i h7=vs0.getD i h7:=by
 obtain⟨r,h⟩:=oW vs0 x t k;grind
def Sz(k:Nat)(Maa:List Vl×Int):Prop:=Maa.1.length<=k/\0<=dK Maa.1/\dK Maa.1<=1000*(k:Int)
theorem iw{p}[Decidable p]{a b}(F:Sz k a)(I:Sz k b):Sz k (if p then a else b):=by
 grind
theorem yY:Sz k ([],r):=by grind[Sz,dK]
theorem ve(H:1<=k)(aC:0<=v.len)(z:v.len<=1000):Sz k ([v],r):=by grind[Sz,dK]
theorem Om(H:2<=k)(aC:0<=v.len)(z:v.len<=1000)(J:0<=u.len)(al:u.len<=1000):Sz k ([v,u],r):=by grind[Sz,dK]
theorem Lp(H:3<=k)(aC:0<=v.len)(z:v.len<=1000)(J:0<=u.len)(al:u.len<=1000)(bw:0<=y.len)(bL:y.len<=1000):Sz k ([v,u,y],r):=by grind[Sz,dK]
theorem PR{aX}(H:4<=k)(aC:0<=v.len)(z:v.len<=1000)(J:0<=u.len)(al:u.len<=1000)(bw:0<=y.len)(bL:y.len<=1000)(bf:0<=aX.len)(S:aX.len<=1000):Sz k ([v,u,y,aX],r):=by grind[Sz,dK]
theorem G7{Maa}(h:Sz k Maa)(aC:0<=v.len)(z:v.len<=1000):Sz (k+1) ([v]++Maa.1,r):=by
 unfold Sz at*;grind[dK]
theorem KE{d p q N}(aC:0<=n)(z:n<=1000):Sz 3 (chM n d p q N):=by
 unfold chM;exact iw (iw (Lp xaa aC z aC z aC z) (Om xaa aC z aC z)) (iw (Om xaa aC z aC z) (ve xaa aC z))
theorem G8{Maa}(h:Sz k Maa)(H:k<=l):Sz l Maa:=by
 unfold Sz at*;omega
theorem DB(i v ad C al N)(aC:0<=v.len)(z:v.len<=1000):Sz 4 (mvM i v ad C al N):=by
 unfold mvM mK mL rQ tK
 exact iw yY (iw (iw yY (iw yY (ve xaa aC z))) (iw (iw yY (iw (ve xaa aC z) (ve xaa aC z)))
  (iw (iw (iw yY (ve xaa aC z)) (iw (ve xaa aC z) (Lp xaa aC z aC z aC z)))
  (iw (iw (iw yY (Lp xaa aC z aC z aC z)) (iw (ve xaa aC z) (PR xaa aC z aC z aC z aC z)))
  (iw (G7 (KE aC z) aC z) (iw (iw yY (G8 (KE aC z) xaa)) (iw (ve xaa aC z) (ve xaa aC z))))))))
theorem mQ(vs0 x t)(ab:∀k,k<vs0.length->1<=(vs0.getD k h7).len/\(vs0.getD k h7).len<=1000)(bd:0<=dK vs0)(bG:dK vs0<=50000):∀k,x+k<vs0.length->(jst vs0 x t k).1.length<=vs0.length+4*k/\0<=dK (jst vs0 x t k).1/\dK (jst vs0 x t k).1<=50000+4000*k
 |0,_=>by simp[jst];omega
 |k+1,H=>by
  have O:=mQ _ x t ab bd bG k xaa
  have aD:=ab (x+1+k) xaa
  have aR:=DB (x+1+k:Nat) (vs0.getD (x+1+k) h7) (ovs (vs0.getD (x+1+k) h7) (jst vs0 x t k).2 (cnt (vs0.getD (x+1+k) h7).op) 0) (ovs (vs0.getD (x+1+k) h7) (jst vs0 x t k).2 (cnt (vs0.getD (x+1+k) h7).op) 1) (ovs (vs0.getD (x+1+k) h7) (jst vs0 x t k).2 (cnt (vs0.getD (x+1+k) h7).op) 2) (jst vs0 x t k).1.length xaa xaa
  rw[jst]
  simp only[yak,iq]
  unfold jmv
  unfold Sz at aR
  omega
def i9(vs0:List Vl)(s x t:Nat):List Vl×Int:=
 if (jst vs0 x t (s-x)).2.getD s 0=-1 then ((jst vs0 x t (s-x)).1++[dL 1 (vs0.getD s h7).len 0 0 0],((jst vs0 x t (s-x)).1.length:Nat))else ((jst vs0 x t (s-x)).1,(jst vs0 x t (s-x)).2.getD s 0)
theorem BS.other{u}(h:BS w P u1 u3 vs c base R Y)(F:B≠P)(au:R≠some B):BS (w.setCell ⟨B,o,none⟩ u) P u1 u3 vs c base R Y:=
 ⟨by simpa using h.lt,λo=>by simp[h.free o],by rw[dR (.inl F)];exact h.c0,by rw[dR (.inl F)];exact h.c1,by rw[dR (.inl F)];exact h.c2,by rw[dR (.inl F)];exact h.c3,dP h.own (it h.row au),h.row,h.ne,by simpa using h.sz⟩
theorem IR.stp{G}(h:IR w B G)(s:Stp P R w R' D)(F:B≠P)(au:R≠some B):IR D B G:=by
 unfold IR;rw[s.chg.block B h.lt (by grind)];exact h
theorem jH:∀(vs:List Vl),(∀j,j<vs.length->0<=(vs.getD j h7).len)->0<=dK vs
 |[],_=>by simp[dK]
 |v::r,h=>by
  have aC:=h 0 xac
  have z:=jH r (λj aK=>h (j+1) yaf)
  have e:(v::r).getD 0 h7=v:=rfl
  rw[e]at aC
  simp only[dK]
  omega
theorem kC{ins}(ok:okV ins vs k=true):∀q,q<cnt (vs.getD k h7).op->0<=fld (vs.getD k h7) q/\fld (vs.getD k h7) q<k:=λq an=>by
 by_cases aC:(vs.getD k h7).op=0
 ·grind[cnt]
 ·unfold okV at ok
  rw[h2 aC]at ok
  simp only[Bool.and_eq_true]at ok
  have h:=List.all_eq_true.1 ok.2.1 _ (BB (by rw[BA];exact an))
  have J:=of_decide_eq_true h
  grind[tZ,Am,kN]
def jf(vs:List Vl):Bool:=decide (2000<vs.length\/50000<dK vs)
theorem An(w P){u1 u3 vs c base}(R){Y}(i)(h:BS w P u1 u3 vs c base R Y)(hi:i<vs.length):
  Calls prog 168 #[ge P,h0 i] w λe D=>e=.returned (h0 (vs.getD i h7).len)/\Drawn w D:=by
 obtain⟨g,cap,rfl,aG,bo⟩:=h.read xaa;have a9:=h.c1;have c1:=(bo i hi).c1;generalize (vs.getD i _).len=T at c1⊢;generalize vs.length=n at a9 hi;clear h bo;have J:(0:Int)<=i:=xaa;have aD:(i:Int)<n:=xaa;go_enter func168,ntmps168;go_wp2;go_ret;exact⟨rfl,Drawn.refl _⟩
theorem iy{w ax n c}:Calls prog 37 #[h0 ax,h0 n,h0 a,h0 b,h0 c] w λe D=>e=.returned (dL ax n a b c).agg/\Kept 0 0 w D:=by
 go_enter func37,ntmps37;go_wp2_with fail;refine yax (v:=(dL ax n a b c).agg) (by simp[results,results37,go_sem]) rfl ⟨rfl,dE 0 0 w _⟩
theorem oX{w n}:Calls prog 110 #[h0 n] w λe D=>e=.returned (dL 1 n 0 0 0).agg/\Kept 0 0 w D:=by
 go_enter func110,ntmps110;go_wp2_with fail;refine yax (v:=(dL 1 n 0 0 0).agg) (by simp[results,results110,go_sem]) rfl ⟨rfl,dE 0 0 w _⟩
theorem jg(w a1 a2 a3 n1 c1 aI c2 aE c3)(V:aI<=1000000):Calls prog 67 #[fj a1 n1 c1 a2 aI c2 a3 aE c3] w λe D=>e=.returned (h0 ((aI:Int)-1))/\Kept 0 0 w D:=by
 go_enter func67,ntmps67;go_wp2;go_ret;exact⟨rfl,dE 0 0 w _⟩
theorem G9{bn o}(_h:w.ownsRow base 74 6 Y vs.length (f9 vs))(k:Kept 0 0 w aa)(aB:bn.ownsRow base 74 6 (hZ aY (vs.length+1) cap') (vs.length+1) (f9 vs++v.cells))(a0:(aa.alloc o).grownBy bn Y.ownBlock)(ce:Y.ownBlock=some aY\/aY=(aa.alloc o).heap.size):
  bn.ownsRow base 74 6 (hZ aY (vs.length+1) cap') (vs.length+1) (f9 (vs++[v]))/\StQ (λ_=>False) Y.ownBlock w (some aY) bn:=by
 refine⟨by rw[lL,oS];exact aB,⟨a0.os.trans k.os,a0.tape.trans k.tape,a0.output.trans k.output,?_,λi hi V=>?_⟩,?_⟩
 ·have z:=a0.size;have J:=k.size;simp at z;omega
 ·have J:=k.size;rw[a0.block i yaf (λc=>V (.inr c.symm)),Below.heap_alloc _ o i xaa];exact k.block i hi xaa
 obtain e|e:=ce
 ·grind
 have J:=k.size;exact .inr ⟨_,rfl,by rw[e];simp;omega⟩
theorem StQ.new{h}(s:StQ i1 R w R' D)(k:Kept l h D aA)(ab:w.heap.size<=l):StQ i1 R w R' aA:=
 ⟨⟨k.os.trans s.chg.os,k.tape.trans s.chg.tape,k.output.trans s.chg.output,yan s.chg.size k.size,λi hi V=>by
   rw[k.block i (yaj hi s.chg.size) xaa]
   exact s.chg.block i hi V⟩,s.row⟩
theorem Ao{w L a2 U m1 K cap m3 ag base vs}(v)(h:w.ownsRow base 74 6 (.slice a2 vs.length cap) vs.length (f9 vs))(I:base<=w.heap.size)(V:vs.length<=1000000):
  Calls prog 109 #[fj L m1 K a2 vs.length cap U m3 ag,v.agg] w λe D=>∃aY cap',e=.returned (fj L m1 K (some ⟨aY,0,none⟩) (vs.length+1) cap' U m3 ag)/\D.ownsRow base 74 6 (hZ aY (vs.length+1) cap') (vs.length+1) (f9 (vs++[v]))/\StQ (λ_=>False) (Value.slice a2 vs.length cap).ownBlock w (some aY) D:=by
 obtain⟨bS,hi,ch,b6,ci⟩:=info_parts wQ;have af:=dE 0 0 w (eZ L m1 K a2 vs.length cap U m3 ag);have ad:=dE 0 0 (w.alloc (eZ L m1 K a2 vs.length cap U m3 ag)) (ir v.op v.len v.a v.b v.c v.k);have a5:=dE 0 0 ((w.alloc (eZ L m1 K a2 vs.length cap U m3 ag)).alloc (ir v.op v.len v.a v.b v.c v.k)) io;have bL:=((gQ w (.slice L m1 K) (.slice a2 vs.length cap) (.slice U m3 ag)).keep ad).keep a5
 have a:∀o,(((w.alloc (eZ L m1 K a2 vs.length cap U m3 ag)).alloc (ir v.op v.len v.a v.b v.c v.k)).alloc io).frozen? ⟨w.heap.size,o,none⟩=false:=λo=>by
  rw[(ad.trans a5).frozen (p:=⟨w.heap.size,o,none⟩) xac xaa]
  simp
 have F:=(iB (w.alloc (eZ L m1 K a2 vs.length cap U m3 ag)) v).keep xac a5 yaa;have bb:=jY ((w.alloc (eZ L m1 K a2 vs.length cap U m3 ag)).alloc (ir v.op v.len v.a v.b v.c v.k));rw[show((w.alloc (eZ L m1 K a2 vs.length cap U m3 ag)).alloc (ir v.op v.len v.a v.b v.c v.k)).heap.size=w.heap.size+1+1 by simp]at bb;rw[show(w.alloc (eZ L m1 K a2 vs.length cap U m3 ag)).heap.size=w.heap.size+1 by simp]at F;have H:=(af.trans ad).trans a5;have aW:=dW h H;have bC:=Q h;have ay:=Q H;have bc:=Q bb;have br:=Q bL;have bA:=Q a;obtain⟨_,b1,bw,p2⟩:=bL;obtain⟨bh,aH,aN,aM,aS,aC⟩:=F;have i:=yan I H.size;clear af ad a5 a bb H h;go_enter func109,ntmps109;go_wp2_with (first|(at_builtin;refine wpList_append_lies _ rfl _ _ 24 rfl base 74 bS (Dg 0 0 0 0 0 0) 6 48 underlying24 hi ch b6 ci rfl xab _ _ (f9 vs) rfl (aW.alloc _) ⟨w.heap.size+1+1+1,0,none⟩ 1 1 v.cells rfl rfl ?c1 ?c2 xab ?c3 ?c4 ?c5 _ rfl ?_))
 case c1=>
  have bf:=Al (((w.alloc (eZ L m1 K a2 vs.length cap U m3 ag)).alloc (ir v.op v.len v.a v.b v.c v.k)).alloc io) v 0;rw[show(((w.alloc (eZ L m1 K a2 vs.length cap U m3 ag)).alloc (ir v.op v.len v.a v.b v.c v.k)).alloc io).heap.size=w.heap.size+1+1+1 by simp]at bf;exact bf
 case c2=>exact Dm v
 case c3=>unfold maxLen;omega
 case c4=>omega
 case c5=>simp;omega
 intro g9 cap9 bn aB a0 bs cr;have t:(((w.alloc (eZ L m1 K a2 vs.length cap U m3 ag)).alloc (ir v.op v.len v.a v.b v.c v.k)).alloc io).heap.size=w.heap.size+1+1+1:=by simp
 have be:(Value.slice a2 vs.length cap).ownBlock=some g9\/g9=((((w.alloc (eZ L m1 K a2 vs.length cap U m3 ag)).alloc (ir v.op v.len v.a v.b v.c v.k)).alloc io).alloc (.cells #[h0 v.op,h0 v.len,h0 v.a,h0 v.b,h0 v.c,.float .f64 v.k] 74)).heap.size:=bs.imp id (λe=>by rw[e];simp);obtain⟨r1,bp⟩:=G9 (v:=v) bC.o ay.o aB a0 be;have aw:∀B,w.heap.size<=B->(Value.slice a2 vs.length cap).ownBlock≠some B:=λB ax e=>ih ((dO bC.o e).2)
 have s:g9<w.heap.size\/w.heap.size+1+1+1<g9:=by
  obtain e|e:=be
  ·exact .inl (dO bC.o e).2
  right;rw[e];simp
 have bG:=jk (m:=0) a0 (ix t) (aw w.heap.size yac) b1;have bB:=jk (m:=0) a0 (ix t) (aw w.heap.size yac) bw;have bQ:=jk (m:=0) a0 (ix t) (aw w.heap.size yac) p2;have x:=far2 (m:=0) a0 (ix t) (aw w.heap.size yac) (bA.o 1);obtain⟨_,bH,n1,aI,aK,j,bv⟩:=bc.o;have aP:=jk (m:=0) a0 (ix t) (aw (w.heap.size+1+1) xaa) bH;have aQ:=jk (m:=0) a0 (ix t) (aw (w.heap.size+1+1) xaa) n1;have aU:=jk (m:=0) a0 (ix t) (aw (w.heap.size+1+1) xaa) aI;have bK:=far2 (m:=0) a0 (ix t) (aw (w.heap.size+1+1) xaa) aK;have a9:=far2 (m:=0) a0 (ix t) (aw (w.heap.size+1+1) xaa) j;have bj:=far2 (m:=0) a0 (ix t) (aw (w.heap.size+1+1) xaa) bv;have bm:=Q r1;have bP:=Q bp;clear r1 bp aB a0 bs be aw aW bC ay bc br bA b1 bw p2 bh aH aN aM aS aC i t bH n1 aI aK j bv cr;go_wp2_with fail
 have f:∀B,(B=w.heap.size\/B=w.heap.size+1+1)->(hZ g9 (vs.length+1) cap9).ownBlock≠some B:=λB ax e=>by
  have m:g9=B:=by simpa[Value.ownBlock] using e
  omega
 have ca:=dP (o:=2) (u:=.slice U m3 ag) (dP (o:=1) (u:=hZ g9 (vs.length+1) cap9) (dP (o:=0) (u:=.slice L m1 K) (dP (o:=1) (u:=hZ g9 (vs.length+1) cap9) bm.o (f w.heap.size (.inl rfl))) (f (w.heap.size+1+1) (.inr rfl))) (f (w.heap.size+1+1) (.inr rfl))) (f (w.heap.size+1+1) (.inr rfl));have b:(bn.setCell ⟨w.heap.size,1,none⟩ (hZ g9 (vs.length+1) cap9)).cell? ⟨w.heap.size+1+1,0,none⟩=_:=(dR (.inl xaa)).trans aP;have ah:(bn.setCell ⟨w.heap.size,1,none⟩ (hZ g9 (vs.length+1) cap9)).cell? ⟨w.heap.size+1+1,1,none⟩=_:=(dR (.inl xaa)).trans aQ;have g:(bn.setCell ⟨w.heap.size,1,none⟩ (hZ g9 (vs.length+1) cap9)).cell? ⟨w.heap.size+1+1,2,none⟩=_:=(dR (.inl xaa)).trans aU;obtain⟨bq,ak,az⟩:=fQ (bn.setCell ⟨w.heap.size,1,none⟩ (hZ g9 (vs.length+1) cap9)) (w.heap.size+1+1) b ah g (.slice L m1 K) (hZ g9 (vs.length+1) cap9) (.slice U m3 ag);have bg:=StQ.new bP.o (d9 (lo:=w.heap.size) (hi:=w.heap.size+1) bn ⟨w.heap.size,1,none⟩ (hZ g9 (vs.length+1) cap9) yab) yac;have a8:=StQ.new bg (fN (bn.setCell ⟨w.heap.size,1,none⟩ (hZ g9 (vs.length+1) cap9)) (w.heap.size+1+1) (.slice L m1 K) (hZ g9 (vs.length+1) cap9) (.slice U m3 ag)) xaa;refine yax (v:=fj L m1 K (some ⟨g9,0,none⟩) (vs.length+1) cap9 U m3 ag) (by simp[results,results109,go_sem,bq,ak,az]) rfl ⟨g9,cap9,rfl,ca,a8⟩
theorem BE{w a1 a2 a3 n1 c1 aI c2 aE c3}(a n)(h:0<=a):
  Calls prog 120 #[fj a1 n1 c1 a2 aI c2 a3 aE c3,h0 a,h0 n] w λe D=>e=.returned (.tuple #[fj a1 n1 c1 a2 aI c2 a3 aE c3,h0 a])/\Kept 0 0 w D:=by
 go_enter func120,ntmps120;go_wp2_with fail;refine yax (v:=.tuple #[fj a1 n1 c1 a2 aI c2 a3 aE c3,h0 a]) (by simp[results,results120,go_sem]) rfl ⟨rfl,(dE 0 0 w _).trans (dE 0 0 _ _)⟩
structure SG(w:World)(P:Nat)(b1:Option Addr)(m1 e1:Nat)(b3:Option Addr)(m3 e3:Nat)(vs:List Vl)(base:Nat)(R:Option Nat)(a2:Option Addr)(cap:Nat):Prop where
 lt:P<w.heap.size
 free:∀o,w.frozen? ⟨P,o,none⟩=false
 c0:w.cell? ⟨P,0,none⟩=some (.slice b1 m1 e1)
 c1:w.cell? ⟨P,1,none⟩=some (.slice a2 vs.length cap)
 c2:w.cell? ⟨P,2,none⟩=some (.slice b3 m3 e3)
 own:w.ownsRow base 74 6 (.slice a2 vs.length cap) vs.length (f9 vs)
 row:(Value.slice a2 vs.length cap).ownBlock=R
 ne:R≠some P
 sz:base<=w.heap.size
theorem SG.keep(h:SG w P L m1 K U m3 ag vs base R a2 cap)(k:Kept 0 0 w D):SG D P L m1 K U m3 ag vs base R a2 cap:=
 have e:∀o,D.cell? ⟨P,o,none⟩=w.cell? ⟨P,o,none⟩:=λo=>k.cell (p:=⟨P,o,none⟩) h.lt xaa
 ⟨yaj h.lt k.size,λo=>by rw[k.frozen h.lt xaa];exact h.free o,it e h.c0,it e h.c1,it e h.c2,dW h.own k,h.row,h.ne,yan h.sz k.size⟩
def eY(w:World)(P:Nat)(x y z:Value):World:=((w.setCell ⟨P,0,none⟩ x).setCell ⟨P,1,none⟩ y).setCell ⟨P,2,none⟩ z
theorem SG.put{w aa Z P m1 K m3 ag base cap aY cap' L U a2 vs R}(h:SG w P L m1 K U m3 ag vs base R a2 cap)(k:Kept 0 0 w aa)(own:Z.ownsRow base 74 6 (hZ aY (vs.length+1) cap') (vs.length+1) (f9 (vs++[v])))(s:StQ (λ_=>False) R aa (some aY) Z):
  SG (eY Z P (.slice L m1 K) (hZ aY (vs.length+1) cap') (.slice U m3 ag)) P L m1 K U m3 ag (vs++[v]) base (some aY) (some ⟨aY,0,none⟩) cap'/\StQ (λi=>i=P) R w (some aY) (eY Z P (.slice L m1 K) (hZ aY (vs.length+1) cap') (.slice U m3 ag)):=by
 have aV:=h.lt;have bY:=k.size
 have cd:aY≠P:=by
  obtain e|⟨r,e,ah⟩:=s.row
  ·exact λc=>h.ne (by rw[<-e,c])
  grind
 have I:=s.chg.block P xaa (by rintro (c|c);exact c;exact h.ne c);have e:∀o,_:=λo=>(World.cell?_of_block I).trans (k.cell (p:=⟨P,o,none⟩) h.lt xaa);have aj:∀o,_:=λo=>(World.frozen?_of_block I).trans (k.frozen (p:=⟨P,o,none⟩) h.lt xaa);obtain⟨aP,aQ,aU⟩:=fQ _ P ((e 0).trans h.c0) ((e 1).trans h.c1) ((e 2).trans h.c2) (.slice L m1 K) (hZ aY (vs.length+1) cap') (.slice U m3 ag);have a0:=fN Z P (.slice L m1 K) (hZ aY (vs.length+1) cap') (.slice U m3 ag);have ab:(vs++[v]).length=vs.length+1:=by simp
 have f:(hZ _ (vs.length+1) cap').ownBlock≠some P:=λc=>cd (by simpa[Value.ownBlock] using c);refine⟨⟨?_,λo=>?_,aP,it ab aQ,aU,?_,rfl,λc=>cd (by simpa using c),?_⟩,⟨?_,?_,?_,?_,λi hi V=>?_⟩,?_⟩
 ·have:=a0.size;have:=s.chg.size;unfold eY;omega
 ·unfold eY;simp[aj o,h.free o]
 ·rw[ab];exact dP (dP (dP own f) f) f
 ·have:=a0.size;have:=s.chg.size;have:=h.sz;unfold eY;omega
 ·exact a0.os.trans (s.chg.os.trans k.os)
 ·exact a0.tape.trans (s.chg.tape.trans k.tape)
 ·exact a0.output.trans (s.chg.output.trans k.output)
 ·have:=a0.size;have:=s.chg.size;unfold eY;omega
 ·unfold eY;rw[a0.block i (ih s.chg.size) (λc=>V (.inl xaa)),s.chg.block i xaa (by grind)];exact k.block i hi xaa
 obtain c|⟨r,c,ah⟩:=s.row<;>grind
theorem SG.call{w aa P m1 K m3 ag base cap L U a2 vs R}(h:SG w P L m1 K U m3 ag vs base R a2 cap)(k:Kept 0 0 w aa)(v)(V:vs.length<=1000000):
  Calls prog 109 #[fj L m1 K a2 vs.length cap U m3 ag,v.agg] aa λe Z=>∃aY cap',e=.returned (fj L m1 K (some ⟨aY,0,none⟩) (vs.length+1) cap' U m3 ag)/\
   (∃u,Z.cell? ⟨P,0,none⟩=some u)/\(∃u,Z.cell? ⟨P,1,none⟩=some u)/\(∃u,Z.cell? ⟨P,2,none⟩=some u)/\(∀o,Z.frozen? ⟨P,o,none⟩=false)/\
   M (SG (eY Z P (.slice L m1 K) (hZ aY (vs.length+1) cap') (.slice U m3 ag)) P L m1 K U m3 ag (vs++[v]) base (some aY) (some ⟨aY,0,none⟩) cap'/\StQ (λi=>i=P) R w (some aY) (eY Z P (.slice L m1 K) (hZ aY (vs.length+1) cap') (.slice U m3 ag))):=by
 have z:=h.keep k;refine(Ao v z.own z.sz V).mono ?_;rintro e Z ⟨aY,cap',rfl,own,s⟩;rw[h.row]at s;have I:=s.chg.block P z.lt (by rintro (c|c);exact c;exact h.ne c);have e:∀o,_:=λo=>World.cell?_of_block (a:=⟨P,o,none⟩) I;have aj:∀o,_:=λo=>World.frozen?_of_block (a:=⟨P,o,none⟩) I;exact⟨_,_,rfl,⟨_,(e 0).trans z.c0⟩,⟨_,(e 1).trans z.c1⟩,⟨_,(e 2).trans z.c2⟩,λo=>by rw[aj];exact z.free o,h.put k own s⟩
theorem RB.stq{W bK L bi}(t:RB W p bK L bi)(s:StQ (λi=>i=P) R W R' A)(aB:p≠P)(au:R≠some p):RB A p bK L bi:=by
 have V:¬((λi=>i=P) p\/R=some p):=by grind
 have e:∀o,_:=λo=>s.chg.cell (p:=⟨p,o,none⟩) t.sz V;have f:∀o,_:=λo=>s.chg.frozen (p:=⟨p,o,none⟩) t.sz V;exact⟨yaj t.sz s.chg.size,it e t.q0,it e t.q1,it e t.q2,it f t.f0,it f t.f1,it f t.f2⟩
theorem StQ.keepQ(s:StQ i1 R w R' D)(k:Kept 0 0 D aA):StQ i1 R w R' aA:=s.new (l:=w.heap.size) (h:=w.heap.size) (k.mono λ_ _ c=>by omega) yac
theorem StQ.drop(s:StQ (λi=>i=P) R g R' A)(k:Kept 0 0 w g)(F:w.heap.size<=P):StQ (λ_=>False) R w R' A:=
 ⟨⟨s.chg.os.trans k.os,s.chg.tape.trans k.tape,s.chg.output.trans k.output,yan k.size s.chg.size,λi hi V=>by
   rw[s.chg.block i (yaj hi k.size) (by grind)]
   exact k.block i hi xaa⟩,by
   obtain c|⟨r,c,ah⟩:=s.row
   ·exact .inl c
   ·exact .inr ⟨r,c,yan k.size ah⟩⟩
theorem StQ.far(s:StQ i1 R w (some aY) A)(ax:B<w.heap.size)(au:R≠some B):aY≠B:=by
 obtain c|⟨r,c,ah⟩:=s.row<;>grind
theorem BF{w L a2 U m1 K cap m3 ag base vs}(a n)(h:w.ownsRow base 74 6 (.slice a2 vs.length cap) vs.length (f9 vs))(I:base<=w.heap.size)(V:vs.length<=900000)(F:a<0):
  Calls prog 120 #[fj L m1 K a2 vs.length cap U m3 ag,h0 a,h0 n] w λe D=>∃aY cap',e=.returned (.tuple #[fj L m1 K (some ⟨aY,0,none⟩) (vs.length+1) cap' U m3 ag,h0 (vs.length:Nat)])/\D.ownsRow base 74 6 (hZ aY (vs.length+1) cap') (vs.length+1) (f9 (vs++[dL 1 n 0 0 0]))/\StQ (λ_=>False) (Value.slice a2 vs.length cap).ownBlock w (some aY) D:=by
 have af:=dE 0 0 w (eZ L m1 K a2 vs.length cap U m3 ag);have ad:=dE 0 0 (w.alloc (eZ L m1 K a2 vs.length cap U m3 ag)) io;have bL:=(gQ w _ _ _).keep ad
 have aZ:SG _ _ _ _ _ _ _ _ _ _ _ _ _:=
  ⟨bL.sz,λo=>by simp,bL.q0,bL.q1,bL.q2,dW h (af.trans ad),rfl,λe=>ih ((dO h e).2),by simp;omega⟩
 have bb:=jY (w.alloc (eZ L m1 K a2 vs.length cap U m3 ag));rw[show(w.alloc _).heap.size=w.heap.size+1 by simp]at bb;have bc:=Q bb;have bY:=Q aZ;have ay:M _:=af.trans ad;have aF:M (∀B,w.heap.size<=B->(Value.slice a2 _ _).ownBlock≠some B):=λB ax e=>ih ((dO h e).2)
 have b1:=aZ.c0;have bw:=aZ.c1;have p2:=aZ.c2;have bZ:=aZ.free;clear h af ad bL aZ bb;go_enter func120,ntmps120;go_upto_region 3 with fail;generalize (w.alloc _).alloc _=g at bc bY ay b1 bw p2 bZ⊢;go_cut [] (λb4=>∃aY cap',M (SG b4 w.heap.size L m1 K U m3 ag (vs++[dL 1 n 0 0 0]) base (some aY) (some ⟨aY,0,none⟩) cap'/\StQ (λi=>i=w.heap.size) (Value.slice a2 vs.length cap).ownBlock g (some aY) b4))
 case first=>
  go_region_with (first
   |(go_at_call 109;refine yai (SG.call bY.o ((dH g).trans af) (dL 1 n 0 0 0) xaa) ?_;rintro e Z ⟨aY,cap',rfl,⟨aw,b2⟩,⟨u1,r1⟩,⟨ap,bp⟩,au,aC⟩)
   |(go_at_call 110;refine yai oX ?_;rintro e aa ⟨rfl,af⟩;obtain⟨_,_,bq,ak,az,_,_,_,_⟩:=SG.keep bY.o ((dH g).trans af)))
  all_goals (go_wp2_with fail;go_meet;exact⟨aY,cap',aC⟩)
 case rest=>
  obtain⟨aY,cap',aC⟩:=hcut;have ab:(vs++[dL 1 n 0 0 0]).length=vs.length+1:=by simp
  obtain⟨a9,bj,bI,bR,bH,X,O,m,s⟩:=aC.o.1;have j:(Value.slice a2 _ _).ownBlock≠some (w.heap.size+1):=λe=>aF.o _ xaa e;have S:M _:=RB.stq bc.o aC.o.2 xaa j;rw[ab]at bR X;have bl:=Q X;clear a9 bj X O m s b1 bw p2 bZ;have b:M _:=λW=>jg W L (some ⟨aY,0,none⟩) U m1 K (vs.length+1) cap' m3 ag xaa;rw[show((vs.length+1:Nat):Int)-1=vs.length by omega]at b;have aE:M (∀W,Kept 0 0 _ W->SG W _ _ _ _ _ _ _ _ _ _ _ _/\RB W _ _ _ _):=λW k=>⟨aC.o.1.keep k,RB.keep S.o k⟩
  have aI:M (∀W,Kept 0 0 _ W->(eY W _ (.slice L m1 K) (hZ aY (vs.length+1) cap') (.slice U m3 ag)).ownsRow _ _ 6 _ _ _/\StQ _ _ w _ (eY W _ (.slice L m1 K) (hZ aY (vs.length+1) cap') (.slice U m3 ag))):=λW k=>by
   have cd:=aC.o.2.far bc.o.sz j
   have f:(hZ _ (vs.length+1) cap').ownBlock≠some _:=λc=>cd (by simpa[Value.ownBlock] using c)
   refine⟨dP (dP (dP (dW bl.o k) f) f) f,?_⟩
   exact((aC.o.2.drop ay.o yac).keepQ k).new (fN W (w.heap.size+1) _ _ _) xaa
  clear bc bY S bl aF j;go_upto_region 4 with fail
  go_region_with (first
   |(go_at_call 67;refine yai (b.o _) ?_;rintro e ao ⟨rfl,a5⟩;obtain⟨⟨_,_,bq,ak,az,_,_,_,_⟩,⟨_,bJ,ba,bu,bG,bB,bQ⟩⟩:=aE.o ao ((dH wc).trans a5);rw[ab]at ak;have c9:M _:=aI.o ao ((dH wc).trans a5)))
  all_goals
   go_wp2_with fail
   obtain⟨aP,aQ,aU⟩:=fQ ao (w.heap.size+1) bJ ba bu (.slice L m1 K) (hZ aY (vs.length+1) cap') (.slice U m3 ag)
   refine yax (v:=.tuple #[fj L m1 K (some ⟨aY,0,none⟩) (vs.length+1) cap' U m3 ag,h0 (vs.length:Nat)]) (by simp[results,results120,go_sem,aP,aQ,aU]) rfl ⟨aY,cap',rfl,c9.o.1,c9.o.2⟩
def MvP(w:World)(b1:Option Addr)(m1 e1:Nat)(b3:Option Addr)(m3 e3:Nat)(vs:List Vl)(base:Nat)(R:Option Nat)(Maa:List Vl×Int)(e:Ending)(w':World):Prop:=
 ∃a2' cap' R',e=.returned (.tuple #[fj b1 m1 e1 a2' (vs++Maa.1).length cap' b3 m3 e3,.int .i64 Maa.2])/\w'.ownsRow base 74 6 (.slice a2' (vs++Maa.1).length cap') (vs++Maa.1).length (f9 (vs++Maa.1))/\(Value.slice a2' (vs++Maa.1).length cap').ownBlock=R'/\StQ (λ_=>False) R w R' w'
theorem At.stq{W}(t:At W p o v)(ab:p<W.heap.size)(s:StQ (λi=>i=P) R W R' A)(aB:p≠P)(au:R≠some p):At A p o v:=by
 have V:¬((λi=>i=P) p\/R=some p):=by grind
 have e:∀o,_:=λo=>s.chg.cell (p:=⟨p,o,none⟩) ab V;obtain⟨bT,bg,a8,bE,cx,bL⟩:=t;exact⟨by grind,by grind,by grind,by grind,by grind,by grind⟩
theorem StQ.seq{W f}(a:StQ i1 R w R' W)(b:StQ g R' W f A)(h:∀i,i<w.heap.size->¬g i):StQ i1 R w f A where
 chg:=⟨b.chg.os.trans a.chg.os,b.chg.tape.trans a.chg.tape,b.chg.output.trans a.chg.output,yan a.chg.size b.chg.size,λk H V=>by
  rw[b.chg.block k (yaj H a.chg.size) ?_]
  ·exact a.chg.block k H V
  ·rintro (c|c)
   ·grind
   ·obtain e|⟨r,e,ah⟩:=a.row<;>grind⟩
 row:=by
  exact xgk
structure MS(w W:World)(b1:Option Addr)(m1 e1:Nat)(b3:Option Addr)(m3 e3:Nat)(vs:List Vl)(v:Vl)(base:Nat)(R R':Option Nat)(a2:Option Addr)(cap:Nat):Prop where
 g:SG W w.heap.size b1 m1 e1 b3 m3 e3 vs base R' a2 cap
 b:RB W (w.heap.size+1) (.slice none 0 0) (.slice none 0 0) (.slice none 0 0)
 v:At W (w.heap.size+1+1) 0 v
 lt:w.heap.size+1+1<W.heap.size
 n1:R'≠some (w.heap.size+1)
 n2:R'≠some (w.heap.size+1+1)
 s:StQ (λ_=>False) R w R' W
theorem MS.keep{W}(h:MS w W L m1 K U m3 ag vs v base R R' a2 cap)(k:Kept 0 0 W A):MS w A L m1 K U m3 ag vs v base R R' a2 cap:=
 ⟨h.g.keep k,h.b.keep k,h.v.keep h.lt k yaa,yaj h.lt k.size,h.n1,h.n2,h.s.keepQ k⟩
theorem MS.start(v)(h:w.ownsRow base 74 6 (.slice a2 vs.length cap) vs.length (f9 vs))(I:base<=w.heap.size):
  MS w (((w.alloc (eZ L m1 K a2 vs.length cap U m3 ag)).alloc io).alloc (ir v.op v.len v.a v.b v.c v.k)) L m1 K U m3 ag vs v base (Value.slice a2 vs.length cap).ownBlock (Value.slice a2 vs.length cap).ownBlock a2 cap:=by
 have af:=dE 0 0 w (eZ L m1 K a2 vs.length cap U m3 ag);have ad:=dE 0 0 (w.alloc (eZ L m1 K a2 vs.length cap U m3 ag)) io;have a5:=dE 0 0 ((w.alloc (eZ L m1 K a2 vs.length cap U m3 ag)).alloc io) (ir v.op v.len v.a v.b v.c v.k);have bL:=((gQ w _ _ _).keep ad).keep a5;have au:∀B,w.heap.size<=B->(Value.slice a2 _ _).ownBlock≠some B:=λB ax e=>ih ((dO h e).2)
 have bb:=jY (w.alloc (eZ L m1 K a2 vs.length cap U m3 ag));rw[show(w.alloc _).heap.size=w.heap.size+1 by simp]at bb;have F:=iB ((w.alloc (eZ L m1 K a2 vs.length cap U m3 ag)).alloc io) v;rw[show((w.alloc _).alloc _).heap.size=w.heap.size+1+1 by simp]at F;exact⟨⟨bL.sz,λo=>by rw[(ad.trans a5).frozen xac xaa];simp,bL.q0,bL.q1,bL.q2,dW h ((af.trans ad).trans a5),rfl,au _ yac,by simp;omega⟩,bb.keep a5,F,by simp,au _ xaa,au _ xaa,(StQ.refl _ _ w).keepQ ((af.trans ad).trans a5)⟩
theorem MS.next{W Z}(h:MS w W L m1 K U m3 ag vs v base R R' a2 cap)(k:Kept 0 0 W aq)(own:Z.ownsRow base 74 6 (hZ aY (vs.length+1) cap') (vs.length+1) (f9 (vs++[u])))(s:StQ (λ_=>False) R' aq (some aY) Z):
  (∃u,Z.cell? ⟨w.heap.size,0,none⟩=some u)/\(∃u,Z.cell? ⟨w.heap.size,1,none⟩=some u)/\(∃u,Z.cell? ⟨w.heap.size,2,none⟩=some u)/\(∀o,Z.frozen? ⟨w.heap.size,o,none⟩=false)/\At Z (w.heap.size+1+1) 0 v/\
   M (MS w (eY Z w.heap.size (.slice L m1 K) (hZ aY (vs.length+1) cap') (.slice U m3 ag)) L m1 K U m3 ag (vs++[u]) v base R (some aY) (some ⟨aY,0,none⟩) cap'):=by
 have z:=h.g.keep k;obtain⟨bg,a8⟩:=h.g.put k own s;have I:=s.chg.block _ z.lt (by rintro (c|c);exact c;exact h.g.ne c);have e:∀o,_:=λo=>World.cell?_of_block (a:=⟨w.heap.size,o,none⟩) I;have aj:∀o,_:=λo=>World.frozen?_of_block (a:=⟨w.heap.size,o,none⟩) I
 have aD:At Z (w.heap.size+1+1) 0 v:=by
  have ab:=yaj h.lt k.size;have C:∀o,_:=λo=>s.chg.cell (p:=⟨_,o,none⟩) ab (by rintro (c|c);exact c;exact h.n2 c);obtain⟨bT,bg,a8,bE,cx,bL⟩:=h.v.keep h.lt k yaa;exact⟨by grind,by grind,by grind,by grind,by grind,by grind⟩
 exact⟨⟨_,(e 0).trans z.c0⟩,⟨_,(e 1).trans z.c1⟩,⟨_,(e 2).trans z.c2⟩,λo=>by rw[aj];exact z.free o,aD,bg,h.b.stq a8 xaa h.n1,h.v.stq h.lt a8 xaa h.n2,yaj h.lt a8.chg.size,
  λc=>a8.far (Nat.lt_trans yae h.lt) h.n1 (by simpa using c),λc=>a8.far h.lt h.n2 (by simpa using c),h.s.seq a8 (λi hi c=>by omega)⟩
theorem MS.call{w W aq m1 K m3 ag base cap L U a2 vs R R'}(h:MS w W L m1 K U m3 ag vs v base R R' a2 cap)(k:Kept 0 0 W aq)(u)(V:vs.length<=1000000):
  Calls prog 109 #[fj L m1 K a2 vs.length cap U m3 ag,u.agg] aq λe Z=>∃aY cap',e=.returned (fj L m1 K (some ⟨aY,0,none⟩) (vs.length+1) cap' U m3 ag)/\
   (∃u,Z.cell? ⟨w.heap.size,0,none⟩=some u)/\(∃u,Z.cell? ⟨w.heap.size,1,none⟩=some u)/\(∃u,Z.cell? ⟨w.heap.size,2,none⟩=some u)/\(∀o,Z.frozen? ⟨w.heap.size,o,none⟩=false)/\At Z (w.heap.size+1+1) 0 v/\
   M (MS w (eY Z w.heap.size (.slice L m1 K) (hZ aY (vs.length+1) cap') (.slice U m3 ag)) L m1 K U m3 ag (vs++[u]) v base R (some aY) (some ⟨aY,0,none⟩) cap'):=by
 have z:=h.g.keep k;refine(Ao u z.own z.sz V).mono ?_;exact xgy
theorem MS.orNone{W}(h:MS w W L m1 K U m3 ag vs v base R R' a2 cap)(k:Kept 0 0 W aq)(a n)(F:a<0)(V:vs.length<=900000):
  Calls prog 120 #[fj L m1 K a2 vs.length cap U m3 ag,h0 a,h0 n] aq λe Z=>∃aY cap',e=.returned (.tuple #[fj L m1 K (some ⟨aY,0,none⟩) (vs.length+1) cap' U m3 ag,h0 (vs.length:Nat)])/\
   (∃u,Z.cell? ⟨w.heap.size,0,none⟩=some u)/\(∃u,Z.cell? ⟨w.heap.size,1,none⟩=some u)/\(∃u,Z.cell? ⟨w.heap.size,2,none⟩=some u)/\(∀o,Z.frozen? ⟨w.heap.size,o,none⟩=false)/\At Z (w.heap.size+1+1) 0 v/\
   M (MS w (eY Z w.heap.size (.slice L m1 K) (hZ aY (vs.length+1) cap') (.slice U m3 ag)) L m1 K U m3 ag (vs++[dL 1 n 0 0 0]) v base R (some aY) (some ⟨aY,0,none⟩) cap'):=by
 have z:=h.g.keep k;refine(BF a n z.own z.sz V F).mono ?_;exact xgy
theorem MS.orSome{W}(h:MS w W L m1 K U m3 ag vs v base R R' a2 cap)(k:Kept 0 0 W aq)(a n)(F:0<=a):
  Calls prog 120 #[fj L m1 K a2 vs.length cap U m3 ag,h0 a,h0 n] aq λe Z=>e=.returned (.tuple #[fj L m1 K a2 vs.length cap U m3 ag,h0 a])/\
   (∃u,Z.cell? ⟨w.heap.size,0,none⟩=some u)/\(∃u,Z.cell? ⟨w.heap.size,1,none⟩=some u)/\(∃u,Z.cell? ⟨w.heap.size,2,none⟩=some u)/\(∀o,Z.frozen? ⟨w.heap.size,o,none⟩=false)/\At Z (w.heap.size+1+1) 0 v/\
   M (MS w (eY Z w.heap.size (.slice L m1 K) (.slice a2 vs.length cap) (.slice U m3 ag)) L m1 K U m3 ag vs v base R R' a2 cap):=by
 refine(BE a n F).mono ?_;rintro e Z ⟨rfl,ad⟩;have J:=h.keep (k.trans ad);have a0:=fN Z w.heap.size (.slice L m1 K) (.slice a2 vs.length cap) (.slice U m3 ag);obtain⟨aP,aQ,aU⟩:=fQ _ _ J.g.c0 J.g.c1 J.g.c2 (.slice L m1 K) (.slice a2 vs.length cap) (.slice U m3 ag);have f:(Value.slice a2 vs.length cap).ownBlock≠some w.heap.size:=it J.g.row J.g.ne
 have T:∀B o,B≠w.heap.size->B<Z.heap.size->(eY Z _ _ _ _).cell? _=Z.cell? ⟨B,o,none⟩:=λB o ax ab=>a0.cell ab (by grind);have aj:∀B o,B≠w.heap.size->B<Z.heap.size->(eY Z _ _ _ _).frozen? _=Z.frozen? ⟨B,o,none⟩:=λB o ax ab=>a0.frozen ab (by grind);obtain⟨ar,bJ,ba,bu,bG,bB,bQ⟩:=J.b;obtain⟨bh,aH,aN,aM,aS,aC⟩:=J.v
 refine⟨rfl,⟨_,J.g.c0⟩,⟨_,J.g.c1⟩,⟨_,J.g.c2⟩,J.g.free,J.v,⟨yaj J.g.lt a0.size,λo=>?_,aP,aQ,aU,dP (dP (dP J.g.own f) f) f,J.g.row,J.g.ne,yan J.g.sz a0.size⟩,
  ⟨yaj ar a0.size,by grind,by grind,by grind,by grind,by grind,by grind⟩,
  ⟨by rw[T _ _ xaa J.lt];exact bh,by rw[T _ _ xaa J.lt];exact aH,by rw[T _ _ xaa J.lt];exact aN,by rw[T _ _ xaa J.lt];exact aM,by rw[T _ _ xaa J.lt];exact aS,by rw[T _ _ xaa J.lt];exact aC⟩,yaj J.lt a0.size,J.n1,J.n2,J.s.new a0 yac⟩
 unfold eY;simp[J.g.free o]
theorem MS.fin{W vs0 Maa}(h:MS w W L m1 K U m3 ag vs v base R R' a2 cap)(k:Kept 0 0 W A)(aD:vs=vs0++Maa.1):
  MvP w L m1 K U m3 ag vs0 base R Maa (.returned (.tuple #[fj L m1 K a2 vs.length cap U m3 ag,h0 Maa.2])) (eY A (w.heap.size+1) (.slice L m1 K) (.slice a2 vs.length cap) (.slice U m3 ag)):=by
 exact xea
theorem lq{w:World}{P B o x y aX}(h:B≠P):(((w.setCell ⟨P,0,none⟩ x).setCell ⟨P,1,none⟩ y).setCell ⟨P,2,none⟩ aX).cell? ⟨B,o,none⟩=w.cell? ⟨B,o,none⟩:=by
 exact xgg
end
section
variable{v:Vl}{w aa Z ao A:World}{q P aM n1 K aE base ag cap cap' l h':Nat}{G bc ins outs:List Int}{L U a2 a2':Option Addr}{R' R:Option Nat}{vs vs2:List Vl}
def oq(n:Nat):Code->Option Code
 |.region i ops d=>if i=n then some (.region i ops d)else none
 |.seq a b=>match oq n a with
  |some c=>some c
  |none=>oq n b
 |.cond _ a b=>match oq n a with
  |some c=>some c
  |none=>oq n b
 |.block _ c=>oq n c
 |.scope c=>oq n c
 |.loop c=>oq n c
 |_=>none
noncomputable def PS (n:Nat):Code:=(Tryz.f114.body.bind (oq n)).getD .skip
theorem eG{P}{c:Code}{ax i1}(h:c.wp P (Exit.then ax λ_ _ _=>False) a w):c.wp P (Exit.then ax i1) a w:=by
 refine wp_mono h ?_;intro e ap D an;cases e<;>first|exact an|exact an.elim
theorem jh{p}[Decidable p]{a b:List Vl×Int}(F:-1<=a.2)(I:-1<=b.2):-1<=(if p then a else b).2:=by
 grind
theorem KF{n d p q N}:-1<=(chM n d p q N).2:=by
 unfold chM;grind
theorem Lq(i v ad C al N)(g:-1<=ad)(ae:-1<=C):-1<=(mvM i v ad C al N).2:=by
 have aX:∀{l:List Vl},-1<=(l,(-1:Int)).2:=by simp
 have n:∀{l:List Vl}{m:Nat},-1<=(l,(m:Int)).2:=xaa;unfold mvM mK mL rQ tK;exact jh aX (jh (jh ae (jh g n)) (jh (jh g (jh n n)) (jh (jh (jh aX n) (jh n n)) (jh (jh (jh aX n) (jh n n)) (jh KF (jh (jh aX KF) (jh n n)))))))
theorem DC{j}(h:∀i,-1<=bc.getD i 0):-1<=ovs v bc q j:=by
 unfold ovs;grind
theorem vf(vs x t):∀k i,-1<=(jst vs x t k).2.getD i 0
 |0,i=>by
  unfold jst
  grind
 |k+1,i=>by
  have D:=vf vs x t k
  unfold jst
  simp only
  rw[yah,List.getElem?_set]
  split
  ·split<;>simp_all[jmv,Lq,DC]<;>grind
  simp_all
theorem Ap(vs x t):∀k i,x+k<i->i<vs.length->(jst vs x t k).2.getD i 0=-1
 |0,i,h,hi=>by
  unfold jst
  grind
 |k+1,i,h,hi=>by
  unfold jst
  simp only
  rw[yah,List.getElem?_set,h2 xaa,<-yah]
  exact Ap _ x t k i xaa hi
theorem DD{i y}(h:G.getD i 0=y)(hi:i<G.length):G.set i y=G:=by
 exact xgt
theorem DE{vs}(x t k)(hi:x+1+k<vs.length)(h:∀j,j<cnt (vs.getD (x+1+k) h7).op->(jst vs x t k).2.getD (fld (vs.getD (x+1+k) h7) j).toNat 0=-1):jst vs x t (k+1)=jst vs x t k:=by
 have e:∀j,ovs _ _ _ j=-1:=λj=>by
  unfold ovs;split
  ·exact h j (by assumption)
  ·rfl
 have a6:jmv vs (x+1+k) (jst vs x t k)=([],-1):=by grind[jmv,mvM]
 conv=>lhs;unfold jst
 rw[a6];simp only[List.append_nil];grind[DD,Ap]
def qN(v:Vl)(mv:List Int)(q:Nat):Bool:=(List.range q).any λj=>decide (0<=mv.getD (fld v j).toNat 0)
theorem BG(v bc q):qN v bc (q+1)=(qN v bc q||decide (0<=bc.getD (fld v q).toNat 0)):=by
 simp_all[qN,List.range_succ]
theorem yZ(h:qN v bc q=false)(aG:∀i,-1<=bc.getD i 0):∀j,j<q->bc.getD (fld v j).toNat 0=-1:=λj aK=>by
 unfold qN at h
 grind
theorem BH(h:qN v bc (cnt v.op)=true):¬(ovs v bc (cnt v.op) 0=-1/\ovs v bc (cnt v.op) 1=-1/\ovs v bc (cnt v.op) 2=-1):=by
 rintro⟨aC,z,J⟩;unfold qN at h;rw[List.any_eq_true]at h;obtain⟨j,aK,aT⟩:=h;have b:=List.mem_range.1 aK;grind[ovs,fld]
theorem SG.put2{m1 m3}(h:SG w P L m1 K U m3 ag vs base R a2 cap)(k:Kept 0 0 w aa)
  (own:Z.ownsRow base 74 6 (.slice a2' vs2.length cap') vs2.length (f9 vs2)) (X:(Value.slice a2' vs2.length cap').ownBlock=R') (s:StQ (λ_=>False) R aa R' Z) (ad:Kept l h' Z ao) (ab:w.heap.size<=l) (au:∀g,R'=some g->g<l\/h'<=g):
  SG (eY ao P (.slice L m1 K) (.slice a2' vs2.length cap') (.slice U m3 ag)) P L m1 K U m3 ag vs2 base R' a2' cap'/\StQ (λi=>i=P) R w R' (eY ao P (.slice L m1 K) (.slice a2' vs2.length cap') (.slice U m3 ag)):=by
 have aV:=h.lt;have bY:=k.size
 have cd:R'≠some P:=by
  obtain e|⟨r,e,ah⟩:=s.row
  ·rw[e];exact h.ne
  grind
 have I:=s.chg.block P xaa (by rintro (c|c);exact c;exact h.ne c);have cz:P<Z.heap.size:=by grind
 have Y:=(ad.block P cz xaa).trans I;have e:∀o,_:=λo=>(World.cell?_of_block Y).trans (k.cell (p:=⟨P,o,none⟩) h.lt xaa);have aj:∀o,_:=λo=>(World.frozen?_of_block Y).trans (k.frozen (p:=⟨P,o,none⟩) h.lt xaa);obtain⟨aP,aQ,aU⟩:=fQ _ P ((e 0).trans h.c0) ((e 1).trans h.c1) ((e 2).trans h.c2) (.slice L m1 K) (.slice a2' vs2.length cap') (.slice U m3 ag);have a0:=fN ao P (.slice L m1 K) (.slice a2' vs2.length cap') (.slice U m3 ag);have f:(Value.slice a2' vs2.length cap').ownBlock≠some P:=by grind
 refine⟨⟨?_,λo=>?_,aP,aQ,aU,dP (dP (dP (jG own ad (λg aG=>au g (X ▸ aG))) f) f) f,X,cd,?_⟩,⟨?_,?_,?_,?_,λi hi V=>?_⟩,?_⟩
 ·have:=a0.size;grind[eY]
 ·unfold eY;simp[aj o,h.free o]
 ·have:=a0.size;have:=s.chg.size;have:=h.sz;have:=ad.size;unfold eY;omega
 ·exact a0.os.trans (ad.os.trans (s.chg.os.trans k.os))
 ·exact a0.tape.trans (ad.tape.trans (s.chg.tape.trans k.tape))
 ·exact a0.output.trans (ad.output.trans (s.chg.output.trans k.output))
 ·have:=a0.size;have:=s.chg.size;have:=ad.size;unfold eY;omega
 ·unfold eY;have a9:=s.chg.size;have bj:=ad.size;rw[a0.block i xaa (λc=>V (.inl xaa)),ad.block i xaa xaa,s.chg.block i xaa (by grind)];exact k.block i hi xaa
 obtain c|⟨r,c,ah⟩:=s.row<;>grind
theorem aN.qbo(h:Zp:=by
 have I:v.ownBlock=some g:=i0 K
 rw[s.chg.block g aG (by simp_all)];exact bi):Zp:=h
open aN in
theorem qU{e size n:Nat}{v G W}(o:W.ownsRow base e size v n G)(s:StQ (λi=>i=P) R W R' A)(F:v.ownBlock≠some P)(au:∀g,v.ownBlock=some g->R≠some g):A.ownsRow base e size v n G:=by
 refine⟨o.1,o.2.imp id ?_⟩;exact qbn
theorem IR.stq{W B}(h:IR W B G)(s:StQ (λi=>i=P) R W R' A)(F:B≠P)(au:R≠some B):IR A B G:=by
 unfold IR;rw[s.chg.block B h.lt (by grind)];exact h
structure LJ(w W:World)(Mb:Nat)(b1:Option Addr)(n1 e1:Nat)(b3:Option Addr)(n3 e3:Nat)(ins outs:List Int)(vs:List Vl)(mv:List Int)(base:Nat)(R:Option Nat)(a2:Option Addr)(cap:Nat):Prop where
 g:SG W w.heap.size b1 n1 e1 b3 n3 e3 vs base R a2 cap
 b:RB W (w.heap.size+1) (.slice none 0 0) (.slice none 0 0) (.slice none 0 0)
 m:IR W Mb mv
 i:W.ownsRow base 3 1 (.slice b1 n1 e1) n1 (ins.map (Value.int .i64))
 o:W.ownsRow base 3 1 (.slice b3 n3 e3) n3 (outs.map (Value.int .i64))
 k:Kept 0 0 w W
 hb:w.heap.size+1+1<=base
 dM:base<=Mb
 rM:R≠some Mb
 a1:Apart (.slice b1 n1 e1) (.slice a2 vs.length cap)
 a3:Apart (.slice b3 n3 e3) (.slice a2 vs.length cap)
 a4:Apart (.slice b1 n1 e1) (.slice b3 n3 e3)
 m1:(Value.slice b1 n1 e1).ownBlock≠some Mb
 m3:(Value.slice b3 n3 e3).ownBlock≠some Mb
theorem LJ.keep{W}(h:LJ w W aM L n1 K U aE ag ins outs vs bc base R a2 cap)(k:Kept 0 0 W A):LJ w A aM L n1 K U aE ag ins outs vs bc base R a2 cap:=
 {h with g:=h.g.keep k,b:=h.b.keep k,m:=h.m.keep k yaa,i:=dW h.i k,o:=dW h.o k,k:=h.k.trans k}
theorem LJ.set{W}(h:LJ w W aM L n1 K U aE ag ins outs vs bc base R a2 cap)(j r):LJ w (W.setCell ⟨aM,j,none⟩ (h0 r)) aM L n1 K U aE ag ins outs vs (bc.set j r) base R a2 cap:=by
 have F:aM≠w.heap.size:=ip h.hb h.dM
 have O:aM≠w.heap.size+1:=ip h.hb h.dM
 have c:∀B o,aM≠B->(W.setCell ⟨_,j,_⟩ (h0 r)).cell? _=W.cell? ⟨B,o,_⟩:=λB o ax=>dR (.inl ax);obtain⟨ar,bJ,ba,bu,bG,bB,bQ⟩:=h.b
 exact {
  g:=⟨by simpa using h.g.lt,λo=>by simp[h.g.free o],by rw[c _ _ F];exact h.g.c0,by rw[c _ _ F];exact h.g.c1,by rw[c _ _ F];exact h.g.c2,dP h.g.own (it h.g.row h.rM),h.g.row,h.g.ne,by simpa using h.g.sz⟩
  b:=⟨by simpa using ar,by rw[c _ _ O];exact bJ,by rw[c _ _ O];exact ba,by rw[c _ _ O];exact bu,by simp[bG],by simp[bB],by simp[bQ]⟩
  m:=h.m.set j r
  i:=dP h.i h.m1
  o:=dP h.o h.m3
  k:=iz w W h.k _ j _ (ip h.hb h.dM)
  hb:=h.hb,dM:=h.dM,rM:=h.rM,a1:=h.a1,a3:=h.a3,a4:=h.a4,m1:=h.m1,m3:=h.m3}
theorem Y.qbe(h:Zp:=by
 exact {
  g:=bg
  b:=h.b.stq a8 xaa f
  m:=h.m.stq a8 (ip h.hb h.dM) h.rM
  i:=qU h.i a8 i1 ay
  o:=qU h.o a8 b6 ca
  k:=Chg.kept h.k a8.chg (by
   rintro i (c|c)
   ·omega
   ·have:=(dO h.g.own (h.g.row.trans c)).1;have:=h.hb;omega)
  hb:=h.hb
  dM:=h.dM
  rM:=a _ h.m.lt h.rM
  a1:=t
  a3:=aO
  a4:=h.a4
  m1:=h.m1
  m3:=h.m3}):Zp:=h
open Y in
theorem LJ.step{W}(h:LJ w W aM L n1 K U aE ag ins outs vs bc base R a2 cap)(k:Kept 0 0 W aa)
  (own:Z.ownsRow base 74 6 (.slice a2' vs2.length cap') vs2.length (f9 vs2)) (X:(Value.slice a2' vs2.length cap').ownBlock=R') (s:StQ (λ_=>False) R aa R' Z) (ad:Kept l h' Z ao) (ab:W.heap.size<=l) (au:∀g,R'=some g->g<l\/h'<=g):
  LJ w (eY ao w.heap.size (.slice L n1 K) (.slice a2' vs2.length cap') (.slice U aE ag)) aM L n1 K U aE ag ins outs vs2 bc base R' a2' cap':=by
 obtain⟨bg,a8⟩:=h.g.put2 k own X s ad ab au;have bR:=k.size;exact qbd
end
section
attribute[local go_sem] dI dG dF
variable{w:World}{aM n1 K aE ag base cap B:Nat}{L U a2:Option Addr}{ins outs bc:List Int}{vs:List Vl}{R:Option Nat}
theorem LJ.read{W}(h:LJ w W aM L n1 K U aE ag ins outs vs bc base R a2 cap)(V:0<vs.length):
  ∃g,a2=some ⟨g,0,none⟩/\R=some g/\g<W.heap.size/\∀j,j<vs.length->At W g (j*6) (vs.getD j h7):=by
 exact xfu
theorem cC.qct(h:Zp:=by
 have F:∀o,_:=λo=>aT.cell (p:=⟨w.heap.size,o,none⟩) bY xaa
 have a:RB A (w.heap.size+1) (.slice none 0 0) (.slice none 0 0) (.slice none 0 0):=by
  obtain⟨ar,bJ,ba,bu,bG,bB,bQ⟩:=au.keep k;refine RB.keep ?_ aT;exact xdl
 have a9:=k.size;have bj:=a0.size;subst V
 exact {
  g:=⟨yaj bY aT.size,λo=>by
    rw[aT.frozen bY xaa]
    unfold eY
    simp[k.frozen (p:=⟨w.heap.size,o,none⟩) bL.sz xaa,bi o],it F aP,it F aQ,it F aU,p2,rfl,λc=>by grind,by
    have:=aT.size
    grind[eY]⟩
  b:=a
  m:=bh
  i:=bw
  o:=ah
  k:=(Kept.new (aB.trans k) a0 yac).trans aT
  hb:=xaa
  dM:=by
   grind[eY]
  rM:=λc=>by
   grind[eY]
  a1:=λB z J=>bg B J z
  a3:=λB z J=>a8 B J z
  a4:=bE
  m1:=λc=>by
   grind[eY]
  m3:=λc=>by
   grind[eY]}):Zp:=h
theorem cC.qfg(h:Zp:=by
 have key:∀{e size n:Nat}{v:Value}{G:List _},aa.ownsRow ((w.alloc g).alloc io).heap.size e size v n _->A.ownsRow _ e _ v n G/\(∀B,v.ownBlock=some B->w.heap.size+1+1<=B/\B<aa.heap.size):=λh=>
  ⟨dW (jG h a0 (λb I=>ih ((dO h I).1))) aT,λB ax=>ih (dO h ax)⟩
 exact qcs):Zp:=h
open cC in
theorem LJ.start{aa aI aW bA bs aw u1 ap}(V:vs.length=aI)(bL:G0 ((w.alloc g).alloc io) w.heap.size aw u1 ap)(bi:∀o,((w.alloc g).alloc io).frozen? ⟨w.heap.size,o,none⟩=false)(au:RB ((w.alloc g).alloc io) (w.heap.size+1) (.slice none 0 0) (.slice none 0 0) (.slice none 0 0))(k:Kept 0 0 ((w.alloc g).alloc io) aa)(ca:aa.ownsRow ((w.alloc g).alloc io).heap.size 3 1 (.slice L n1 aW) n1 (ins.map (Value.int .i64)))(b6:aa.ownsRow ((w.alloc g).alloc io).heap.size 74 6 (.slice a2 aI bA) aI (f9 vs))(aO:aa.ownsRow ((w.alloc g).alloc io).heap.size 3 1 (.slice U aE bs) aE (outs.map (Value.int .i64)))(bg:Apart (.slice a2 aI bA) (.slice L n1 aW))(a8:Apart (.slice a2 aI bA) (.slice U aE bs))(bE:Apart (.slice L n1 aW) (.slice U aE bs)):
  ∀A,IR A (eY aa w.heap.size (.slice L n1 aW) (.slice a2 aI bA) (.slice U aE bs)).heap.size (List.replicate aI 0)->Kept 0 0 (eY aa w.heap.size (.slice L n1 aW) (.slice a2 aI bA) (.slice U aE bs)) A->
   LJ w A (eY aa w.heap.size (.slice L n1 aW) (.slice a2 aI bA) (.slice U aE bs)).heap.size L n1 aW U aE bs ins outs vs (List.replicate aI 0) ((w.alloc g).alloc io).heap.size (Value.slice a2 aI bA).ownBlock a2 bA:=by
 intro A bh aT;have bR:((w.alloc g).alloc io).heap.size=w.heap.size+1+1:=by simp
 exact qff
structure Oth(w:World)(Mb:Nat)(b1:Option Addr)(n1 e1:Nat)(b3:Option Addr)(n3 e3:Nat)(R:Option Nat)(B:Nat):Prop where
 p:w.heap.size+1+1<=B
 m:Mb≠B
 r:R≠some B
 i:(Value.slice b1 n1 e1).ownBlock≠some B
 o:(Value.slice b3 n3 e3).ownBlock≠some B
theorem LJ.oth{W}(h:LJ w W aM L n1 K U aE ag ins outs vs bc base R a2 cap)(ax:W.heap.size<=B):Oth w aM L n1 K U aE ag R B where
 p:=ih h.b.sz
 m:=ih h.m.lt
 r:=λc=>by have:=(dO h.g.own (h.g.row.trans c)).2;omega
 i:=λc=>ih ((dO h.i c).2)
 o:=λc=>ih ((dO h.o c).2)
theorem cT.qdm(h:Zp:=by
 exact {
  g:=⟨by simpa using h.g.lt,λo=>by simp[h.g.free o],by rw[c _ _ xaa];exact h.g.c0,by rw[c _ _ xaa];exact h.g.c1,by rw[c _ _ xaa];exact h.g.c2,dP h.g.own (it h.g.row t.r),h.g.row,h.g.ne,by simpa using h.g.sz⟩
  b:=⟨by simpa using ar,by rw[c _ _ xaa];exact bJ,by rw[c _ _ xaa];exact ba,by rw[c _ _ xaa];exact bu,by simp[bG],by simp[bB],by simp[bQ]⟩
  m:=by
   unfold IR
   rw[Below.heap_setCell W _ u _ t.m]
   exact h.m
  i:=dP h.i t.i
  o:=dP h.o t.o
  k:=iz w W h.k B j _ xaa
  hb:=h.hb,dM:=h.dM,rM:=h.rM,a1:=h.a1,a3:=h.a3,a4:=h.a4,m1:=h.m1,m3:=h.m3}):Zp:=h
open cT in
theorem LJ.other{W}(h:LJ w W aM L n1 K U aE ag ins outs vs bc base R a2 cap)(t:Oth w aM L n1 K U aE ag R B)(j u):LJ w (W.setCell ⟨B,j,none⟩ u) aM L n1 K U aE ag ins outs vs bc base R a2 cap:=by
 exact qdl
theorem ir3(w:World)(a b c):IR (w.alloc (.cells #[h0 a,h0 b,h0 c] 3)) w.heap.size [a,b,c]:=by
 unfold IR;rw[heap_alloc_new];rfl
theorem DF(v bc q)(an:q<3):([ovs v bc q 0,ovs v bc q 1,ovs v bc q 2]:List Int).set q (bc.getD (fld v q).toNat 0)=[ovs v bc (q+1) 0,ovs v bc (q+1) 1,ovs v bc (q+1) 2]:=by
 grind[ovs]
theorem DG{vs}(x t s)(h:s≠x)(ai:s<vs.length):(jst vs x t 0).2.getD s 0=-1:=by
 unfold jst;grind
theorem LJ.fin{W A}(h:LJ w W aM L n1 K U aE ag ins outs vs bc base R a2 cap)(k:Kept 0 0 W A):
  ((eY A (w.heap.size+1) (.slice L n1 K) (.slice a2 vs.length cap) (.slice U aE ag)).ownsRow w.heap.size 3 1 (.slice L n1 K) n1 (ins.map (Value.int .i64))/\(eY A (w.heap.size+1) (.slice L n1 K) (.slice a2 vs.length cap) (.slice U aE ag)).ownsRow w.heap.size 74 6 (.slice a2 vs.length cap) vs.length (f9 vs)/\(eY A (w.heap.size+1) (.slice L n1 K) (.slice a2 vs.length cap) (.slice U aE ag)).ownsRow w.heap.size 3 1 (.slice U aE ag) aE (outs.map (Value.int .i64)))/\Kept 0 0 w (eY A (w.heap.size+1) (.slice L n1 K) (.slice a2 vs.length cap) (.slice U aE ag)):=by
 exact xcp
theorem LJ.call{w W aq aM n1 K aE ag base cap L U a2 ins outs bc vs R}(h:LJ w W aM L n1 K U aE ag ins outs vs bc base R a2 cap)(k:Kept 0 0 W aq)(u)(V:vs.length<=1000000):
  Calls prog 109 #[fj L n1 K a2 vs.length cap U aE ag,u.agg] aq λe Z=>∃aY cap',e=.returned (fj L n1 K (some ⟨aY,0,none⟩) (vs.length+1) cap' U aE ag)/\
   (∃u,Z.cell? ⟨w.heap.size,0,none⟩=some u)/\(∃u,Z.cell? ⟨w.heap.size,1,none⟩=some u)/\(∃u,Z.cell? ⟨w.heap.size,2,none⟩=some u)/\(∀o,Z.frozen? ⟨w.heap.size,o,none⟩=false)/\
   M (LJ w (eY Z w.heap.size (.slice L n1 K) (hZ aY (vs.length+1) cap') (.slice U aE ag)) aM L n1 K U aE ag ins outs (vs++[u]) bc base (some aY) (some ⟨aY,0,none⟩) cap'):=by
 exact xbi
theorem y7{i}(h:okV ins vs i=true):0<=(vs.getD i h7).op/\(vs.getD i h7).op<=13:=by
 grind[okV,BC]
theorem za{w a1 a2 a3 n1}(c1){aI}(c2){aE}(c3){ins vs outs}(f:GS w a1 n1 a2 aI a3 aE ins vs outs)(ab:∀k,k<aI->1<=(vs.getD k h7).len/\(vs.getD k h7).len<=1000):
  Calls prog 66 #[fj a1 n1 c1 a2 aI c2 a3 aE c3] w λe D=>e=.returned (.bool (!jf vs))/\Kept 0 0 w D:=by
 have V:=f.v.len;have aL:=dE 0 0 w (eZ a1 n1 c1 a2 aI c2 a3 aE c3);by_cases J:aI<=2000
 ·have be:M _:=GY c1 c2 c3 (f.keep aL) J ab;have ay:=Q aL;have ba:((aI:Int)<=2000):=xaa;by_cases aj:dK vs<=50000
  ·have e:jf vs=false:=by grind[jf]
   rw[e];have bu:=decide_eq_true aj;exact xdz
  have e:jf vs=true:=by grind[jf]
  rw[e];have bu:=yaw aj;exact xdz
 have e:jf vs=true:=by grind[jf]
 rw[e];have ba:¬((aI:Int)<=2000):=xaa;clear f ab V e;go_enter func66,ntmps66;go_wp2;go_ret;exact⟨rfl,aL⟩
