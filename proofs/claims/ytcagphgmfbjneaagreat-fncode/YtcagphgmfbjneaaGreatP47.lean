import Derived.Test.YtcagphgmfbjneaaGreatP37
import Derived.Test.YtcagphgmfbjneaaGreatP46
namespace Go.Proofs.Z
variable{Zp:Prop}
open Tryz
set_option maxRecDepth 1000000
set_option maxHeartbeats 0
open Go.RowKit Flt
attribute[local go_sem] eE eD eC
variable{ss us:List Ste}{H B:World}{P k A n i N I cap Z ae ab c1 c2 c3:Nat}{bM:Option Nat}{S:Nat->Prop}{xss:List (List Nat)}{xs ys ins bs:List Int}{bF bB bG b3:Value}{b a a1 J a3:Option Addr}{s:Ste}{aL:Int}
abbrev GT:Type:=List Int×List Vl×List Int×Nat
def pkG(k:Nat)(T0 T1:GT):GT:=if k=1 then (if (okG T1.1 T1.2.1 T1.2.2.1&&decide (T1.2.1.length<100))=true then T1 else (T0.1,T0.2.1,T0.2.2.1,T1.2.2.2))else T0
def cdM(k:Nat)(G:GT):List Int×List Ste×List Spn×Int×Nat:=
 (G.1,f9 G.2.1 (plD (k==0) G.2.1 G.2.2.1) G.2.1.length,G.2.2.1.map (kK G.2.1 (plD (k==0) G.2.1 G.2.2.1)),pkD (k==0) G.2.1 G.2.2.1,G.2.2.2)
def CdT(w:World)(P:Nat)(a:Option Addr)(n cap:Nat)(bs:List Int)(T:List Int×List Ste×List Spn×Int×Nat)(e:Ending)(w':World):Prop:=
 ∃a1 n1 c1 a2 n2 c2 a3 n3 c3,∃ss:List Ste,e=.returned (iQ a1 n1 c1 a2 n2 c2 a3 n3 c3 T.2.2.2.1)/\ss.map nk=T.2.1.map nk/\OCd w' w.heap.size (.slice a1 n1 c1) (.slice a2 n2 c2) (.slice a3 n3 c3) T.1 ss T.2.2.1/\RdF w' P a n cap T.2.2.2.2 bs/\Kept P (P+1) w w'
theorem C8(w:World)(x y z):RB (w.alloc (.cells #[x,y,z] 108)) w.heap.size x y z:=by
 exact xik
structure Gx(W w:World)(P:Nat)(a:Option Addr)(n cap:Nat)(bs:List Int)(G:Nat)(T:GT)(a1:Option Addr)(c1:Nat)(a2:Option Addr)(c2:Nat)(a3:Option Addr)(c3:Nat)(vs:List Vl):Prop where
 sv:vs.map sv=T.2.1
 d:DG W (w.heap.size+1) (.slice a1 T.1.length c1) (.slice a2 vs.length c2) (.slice a3 T.2.2.1.length c3) T.1 vs T.2.2.1
 g:RB W G (.slice a1 T.1.length c1) (.slice a2 vs.length c2) (.slice a3 T.2.2.1.length c3)
 rd:RdF W P a n cap T.2.2.2 bs
 rs:KB W w.heap.size (.slice none 0 0) (.slice none 0 0) (.slice none 0 0) (.int .i64 0)
 kp:Kept P (P+1) w W
section
variable{W H w:World}{P n cap G c1 c2 c3:Nat}{a a1 J a3:Option Addr}{bs:List Int}{T:GT}{vs:List Vl}
theorem Gx.next(f:Gx W w P a n cap bs G T a1 c1 J c2 a3 c3 vs)(k:Kept P (P+1) W H){j}(r:RdF H P a n cap j bs)(hP:P<w.heap.size)(br:w.heap.size<G):Gx H w P a n cap bs G (T.1,T.2.1,T.2.2.1,j) a1 c1 J c2 a3 c3 vs:=
 ⟨f.sv,f.d.kept k xaa,f.g.kept k xaa,r,kI f.rs k xaa,f.kp.trans k⟩
theorem Gx.keep(f:Gx W w P a n cap bs G T a1 c1 J c2 a3 c3 vs)(k:Kept 0 0 W H):Gx H w P a n cap bs G T a1 c1 J c2 a3 c3 vs:=
 ⟨f.sv,f.d.kept k yae,f.g.keep k,f.rd.keep k yab,f.rs.keep k,f.kp.trans (k.mono λ_ _ h=>by omega)⟩
end
theorem IU(vs:List Vl):(vs.map sv).map sv=vs.map sv:=by
 rw[List.map_map]
 exact List.map_congr_left λv _=>by
  show(⟨v.op,v.len,v.a,v.b,v.c,fbz (fbz v.k)⟩:Vl)=⟨v.op,v.len,v.a,v.b,v.c,fbz v.k⟩
  rw[uO,uO,rE]
theorem Gx.lk{W w G T vs}(f:Gx W w P a n cap bs G T a1 c1 J c2 a3 c3 vs):Lk vs T.2.1:=Nk (by rw[<-f.sv,IU])
theorem IV{g T1}(h:okG g.1 g.2.1 g.2.2.1=true):okG (pkG k g T1).1 (pkG k g T1).2.1 (pkG k g T1).2.2.1=true:=by
 grind[pkG]
theorem FlP{P:Prop}(h:P:=by
 obtain⟨m,em,ao⟩:=ho c;have bu:=HM1.o.dst hlt ao;have R:V _:=HM1.o.setT hlq xab (hst.2 m c em) rfl;have cx:=ri HM1.o.cd.r2;have t:=Int.ofNat_lt.2 c;simp only[em]at h2 h3 h4;obtain⟨_,_,_,_,d,e,f,_⟩:=HM1.o.at_ hlq;have bL:(0:Int)<=m:=xaa;have cG:(m:Int)<vs.length:=xaa;generalize qs.getD m 0=D at bu R;clear HM1 c em hops ho hst;go_wp2_with fail;go_region
 all_goals
  go_wp2_with fail
  go_meet
  exact R.o.keep (eF _)):P:=h
theorem FlN{P:Prop}(h:P:=by
 have e:=hst.1 c;have t:=mt Int.ofNat_lt.1 c;clear c;go_wp2_with fail;go_meet;rw[e];exact HM1):P:=h
theorem dE.qeq(h:Zp:=by
 rw[bA];refine yaj (l.o _ bK.o) ?_;rintro e bo ⟨a1,c1,J,c2,a3,c3,us,rfl,aw,d,az,av⟩;have hz1:=b1.o.sz;have HX:V (Gx (bo.alloc (fx _ _ _ _ _ _ _ _ _)) w P a n _ _ _ _ _ _ _ _ _ _ _):=⟨aw,(d.mono xaa).kept (eA 0 0 _ _) yae,C8 _ _ _ _,az.keep (eA 0 0 _ _) yab,(kI b1.o av (.inr HZ.o)).keep (eA 0 0 _ _),(bZ.o.trans av).trans (eA _ _ _ _)⟩
 have bv:V _:=yak hz1 av.size;clear aw d az av hz1 bK bZ b1 l;go_upto_if 17 with fail
 generalize bo.alloc _=aU at HX⊢;generalize bo.heap.size=G at HX bv⊢;go_cut [5] from 16 to 27 (λct bb=>∃a1 c1 J c2 a3 c3 vs,V (Gx bb w P a n cap bs G (pkG k g T1) a1 c1 J c2 a3 c3 vs))
 case first=>
  obtain⟨_,aP,ay,aB,bN,f1,f2⟩:=HX.o.g;by_cases bU:k=1
  ·have af:((k:Int)==1)=true:=by grind
   have bI:V (pkG k g T1=if (okG T1.1 T1.2.1 T1.2.2.1&&decide (T1.2.1.length<100))=true then T1 else (g.1,g.2.1,g.2.2.1,T1.2.2.2)):=by show _=_;unfold pkG;grind
   clear bU bA;go_wp2_with fail;refine yaj (H1.o _ HX.o.rd) ?_;rintro e cc ⟨U,aM,aV,bi,aa,aI,au,rfl,(am:V _),d,az,bW⟩;have cg:V _:=(HX.o.next bW az HZ.o bv.o).keep (eA 0 0 _ (fx U T1.1.length aM aV au.length bi aa T1.2.2.1.length aI));have aW:V _:=C8 cc (.slice U T1.1.length aM) (.slice aV au.length bi) (.slice aa T1.2.2.1.length aI);have HD:V _:=d.kept (eA 0 0 _ (fx U T1.1.length aM aV au.length bi aa T1.2.2.1.length aI)) yae;have bX:V _:=DR _ _ _ _ _ aM _ bi _ aI _ _ _ ⟨oF HD.o.r1 rfl,Bt HD.o.r2 rfl HD.o.k,oF HD.o.r3 rfl⟩;have HL:V (Lk au T1.2.1):=Nk (by rw[<-am.o,IU]);have ce:V (G<aU.heap.size/\aU.heap.size<=cc.heap.size):=⟨HX.o.g.sz,bW.size⟩
   clear d az bW HX aP ay aB bN f1 f2;go_wp2_with fail;generalize cc.alloc _=ca at cg aW HD bX⊢;refine yaj bX.o ?_;rintro e a7 ⟨rfl,bY⟩;have u:V _:=cg.o.keep bY;have cF:V _:=aW.o.keep bY;have X:V _:=HD.o.kept bY yae;clear bY cg aW HD bX;obtain⟨_,bh,aJ,y2,_,_,_⟩:=cF.o;obtain⟨_,aP,ay,aB,bN,f1,f2⟩:=u.o.g;rw[HL.o.okG];have cl:=HL.o.len;obtain⟨bz,bc⟩:∃b,okG T1.1 T1.2.1 T1.2.2.1=b:=⟨_,rfl⟩
   rw[bc]at bI⊢;clear bc HL;rcases bz with _|_
   ·have e:pkG k _ _=(g.1,g.2.1,g.2.2.1,T1.2.2.2):=bI.o;clear bI cl am X;exact xiz
   rw[Bool.true_and]at bI;by_cases ai:au.length<100
   ·have e:pkG k g T1=T1:=by rw[bI.o,h7 (decide_eq_true xaa)]
    have cy:(au.length:Int)<100:=xaa
    have aX:V (Gx (fg a7 G (.slice U T1.1.length aM) (.slice aV au.length bi) (.slice aa T1.2.2.1.length aI)) w P a n cap bs G T1 U aM aV bi aa aI au):=by
     have aj:=fk a7 G (.slice U T1.1.length aM) (.slice aV au.length bi) (.slice aa T1.2.2.1.length aI);have:=ce.o;have:=bv.o;have:=HZ.o;exact⟨am.o,(X.o.kept aj xaa).mono xaa,pA u.o.g _ _ _,u.o.rd.keep aj (.inl xaa),kI u.o.rs aj xaa,u.o.kp.newC (aj.chg1 rfl) (λb hb=>by omega)⟩
    clear bI cl am X u ai;go_wp2_with fail;go_meet;exact⟨_,_,_,_,_,_,_,i1 e aX⟩
   have e:pkG k g T1=(g.1,g.2.1,g.2.2.1,T1.2.2.2):=by rw[bI.o,h6 (by rw[decide_eq_true_eq];omega)]
   have cy:¬(au.length:Int)<100:=xaa;have cz:=yay cy;clear bI cl am X ai;exact xiz
  have af:((k:Int)==1)=false:=by grind
  have e:pkG k g T1=g:=by unfold pkG;grind
  clear bU bA;go_wp2_with fail;go_meet;grind
 case rest=>
  obtain⟨bB,aJ,bG,y2,b3,y3,vs,t⟩:=hcut;have cn:=IV (k:=k) (T1:=T1) cB.o;obtain⟨T,bm⟩:∃T,pkG k g T1=T:=⟨_,rfl⟩
  rw[bm]at t cn;have cI:V _:=bm;clear bm;have HO:V (okG T.1 vs T.2.2.1=true):=by show _=_;rw[t.o.lk.okG];exact cn
  have cS:V _:=t.o.lk;have HPC:V _:=Pj _ _ _ _ _ aJ _ y2 _ y3 _ _ _ ⟨oF t.o.d.r1 rfl,Bt t.o.d.r2 rfl t.o.d.k,oF t.o.d.r3 rfl⟩ HO.o;obtain⟨_,aP,ay,aB,_,_,_⟩:=t.o.g;clear cn HX H1 cB bA cw;go_wp2_with fail;refine yaj HPC.o ?_;rintro e ca ⟨bk,af,p2,bg,a6,ah,rfl,aO,a2⟩;have cO:=a2.size
  have Y:V (Mx (ca.alloc (iE bk T.1.length af p2 vs.length bg a6 T.2.2.1.length ah (pkD false vs T.2.2.1))) w P a n cap T.2.2.2 bs G wc.heap.size ca.heap.size (.slice bk T.1.length af) (.slice p2 vs.length bg) (.slice a6 T.2.2.1.length ah) (.slice bB T.1.length aJ) bG vs.length y2 b3 T.2.2.1.length y3 T.1 vs T.2.2.1 (f9 vs (plD false vs T.2.2.1) vs.length) (T.2.2.1.map (kK vs (plD false vs T.2.2.1))) (pkD false vs T.2.2.1)):=by
   have bH:=(t.o.keep a2).keep (eA 0 0 _ (iE bk T.1.length af p2 vs.length bg a6 T.2.2.1.length ah (pkD false vs T.2.2.1)));have aN:=((Bt t.o.d.r2 rfl t.o.d.k).keep a2 yaa).keep (eA 0 0 _ (iE bk T.1.length af p2 vs.length bg a6 T.2.2.1.length ah (pkD false vs T.2.2.1))) (.inr (.inr yae));have ho:=((oF t.o.d.r3 rfl).keep a2 yaa).keep (eA 0 0 _ (iE bk T.1.length af p2 vs.length bg a6 T.2.2.1.length ah (pkD false vs T.2.2.1))) (.inr (.inr yae));obtain⟨f1,f2⟩:=IK vs T.2.2.1;rw[f1,f2];rw[f2]at bH aN ho;refine⟨bH.rd,aO.keep (eA 0 0 _ _),?_,bH.rs,bH.g,aN,ho,⟨HZ.o,bv.o,t.o.g.sz,cO⟩,λb hb=>?_,bH.kp⟩
   ·refine⟨?_,?_,?_,?_,?_,?_,?_,?_,?_⟩<;>simp
   exact xfj
  clear aO a2 cO t HPC aP ay aB;rw[<-(IK _ _).2];go_upto_if 32 with fail
  generalize ca.alloc _=a7 at Y⊢;generalize wc.heap.size=I at Y;generalize ca.heap.size=C at Y⊢;go_cut [7,8,9,10] from 31 to 138 (λbx a5 bD bC bb=>V (Mx bb w P a n cap T.2.2.2 bs G I C (.slice bk T.1.length af) (.slice p2 vs.length bg) (.slice a6 T.2.2.1.length ah) (.slice bB T.1.length aJ) bG vs.length y2 b3 T.2.2.1.length y3 T.1 vs T.2.2.1 (f9 vs (plD (k==0) vs T.2.2.1) vs.length) (T.2.2.1.map (kK vs (plD (k==0) vs T.2.2.1))) (pkD (k==0) vs T.2.2.1)))
  case first=>
   by_cases bE:k=0
   ·have cj:((k:Int)==0)=true:=by rw[beq_iff_eq];omega
    have E:V ((k==0)=true):=by show _=_;rw[beq_iff_eq];exact bE
    obtain⟨co,bp⟩:=L8 vs T.2.2.1;have al:V _:=bp;generalize cC:plD _ _ _=qs at co;have cT:V _:=cC;have be:V _:=co;generalize plD _ _ _=ps at Y;obtain⟨⟨_,cz,cD⟩,_,aN,ho,cR⟩:=jZ HO.o;have bX:V _:=aN;have d0:V _:=ho
    have cN:V (∀j,j<=vs.length->0<=iU vs j/\iU vs j<=50000):=λj hj=>by
     have F:=ie (λq aA=>(gi (bX.o q aA)).1) hj yad
     have ak:=ie (λq aA=>(gi (bX.o q aA)).1) (Nat.zero_le j) hj
     rw[kY _ _ yad,List.take_length]at F
     have cM:iU vs 0=0:=rfl
     omega
    obtain⟨a8,dg⟩:∃a8,T.2.2.1.map (kK vs ps)=a8:=⟨_,rfl⟩
    rw[dg]at Y;have ej:V _:=dg;obtain⟨aL,cV⟩:∃z,pkD false vs T.2.2.1=z:=⟨_,rfl⟩
    rw[cV]at Y;clear bE co bp aN ho cR cC HO dg cV;go_wp2_with fail;rw[cj];clear cj;go_loopw [7,8,9] (λbx a5 bD W=>∃q:Nat,q<=vs.length/\bx=h1 (iU vs q)/\a5=h1 q/\V (Mx W w P a n cap T.2.2.2 bs G I C (.slice bk T.1.length af) (.slice p2 vs.length bg) (.slice a6 T.2.2.1.length ah) (.slice bB T.1.length aJ) bG vs.length y2 b3 T.2.2.1.length y3 T.1 vs T.2.2.1 (mz vs ps qs q) a8 aL)) (λbx a5 bD _=>vs.length-(intOf a5).toNat)
    case atStart=>exact⟨0,yae,rfl,rfl,by rw[QE];exact Y⟩
    case round=>
     obtain⟨q,aA,rfl,rfl,bJ⟩:=hrel;clear Y;obtain⟨_,bP,aR,bd,bu,_,_,_,ag⟩:=bJ.o.bx;obtain⟨_,_,b5,a0,_,_,_⟩:=bJ.o.gb;by_cases hlt:q<vs.length
     ·have hlq:q<(mz vs ps qs q).length:=by rw[rj];exact hlt
      have aT:=bJ.o.cd.r2;rw[rj]at aT;obtain⟨aD,cs,es,_,_,_⟩:=pC aT (rj _ _ _ q) hlt;cases es;obtain⟨b0,off,ba,ck,_,_,bw⟩:=bJ.o.gv.at_idx hlt;cases ba;have b4:=nu (bX.o q hlt);have hops:=sV (bX.o q hlt);have br:=gi (bX.o q hlt);have aQ:V _:=zD _ b4.1 b4.2;have HM1:V (Mx wr w P a n cap T.2.2.2 bs G I C (.slice bk T.1.length af) (h0 aD vs.length bg) (.slice a6 T.2.2.1.length ah) (.slice bB T.1.length aJ) (some ⟨b0,off,none⟩) vs.length y2 b3 T.2.2.1.length y3 T.1 vs T.2.2.1 ((mz vs ps qs q).set q (stA vs ps qs q 0)) a8 aL):=by show Mx _ _ _ _ _ _ _ _ _ _ _ _ _ _ _ _ _ _ _ _ _ _ _ _ _ _ _;rw[Pg hlt];exact bJ.o
      have aG:V _:=hlt;obtain⟨v,cJ⟩:∃v,vs.getD q h9=v:=⟨_,rfl⟩
      rw[cJ]at bw b4 hops br aQ;have cH:V _:=cJ;obtain⟨ak,_,h2,h3,h4,_⟩:=bw;clear bJ aT;go_upto_if 48 with (first|(go_at_call 19;refine yaj (aQ.o _) ?_;rintro e bn ⟨rfl,rfl⟩)|fail)
      go_cut [] from 47 to 64 (λbb=>V (Mx bb w P a n cap T.2.2.2 bs G I C (.slice bk T.1.length af) (h0 aD vs.length bg) (.slice a6 T.2.2.1.length ah) (.slice bB T.1.length aJ) (some ⟨b0,off,none⟩) vs.length y2 b3 T.2.2.1.length y3 T.1 vs T.2.2.1 ((mz vs ps qs q).set q (stA vs ps qs q 1)) a8 aL))
      case first=>
       have ho:=λc=>opm (hops v.a (qF c));have hst:=QG (ps:=ps) (qs:=qs) cH.o;by_cases c:0<cnt v.op
       ·exact FlP
       exact FlN
      case rest=>
      replace HM1:V _:=hcut;clear hcut bP aR bd b5 a0 ak h2 h3 h4;obtain⟨_,bP,aR,bd,bu,_,_,_,ag⟩:=HM1.o.bx;obtain⟨_,_,b5,a0,_,_,_⟩:=HM1.o.gb;obtain⟨_,_,ba,_,_,_,ak,_,h2,h3,h4,_⟩:=cJ ▸ HM1.o.gv.at_idx hlt;cases ba;go_upto_if 66 with fail
      go_cut [] from 65 to 82 (λbb=>V (Mx bb w P a n cap T.2.2.2 bs G I C (.slice bk T.1.length af) (h0 aD vs.length bg) (.slice a6 T.2.2.1.length ah) (.slice bB T.1.length aJ) (some ⟨b0,off,none⟩) vs.length y2 b3 T.2.2.1.length y3 T.1 vs T.2.2.1 ((mz vs ps qs q).set q (stA vs ps qs q 2)) a8 aL))
      case first=>
       have ho:=λc=>opm (hops v.b (sW c));have hst:=QH (ps:=ps) (qs:=qs) cH.o;by_cases c:1<cnt v.op
       ·exact FlP
       exact FlN
      case rest=>
      replace HM1:V _:=hcut;clear hcut bP aR bd b5 a0 ak h2 h3 h4;obtain⟨_,bP,aR,bd,bu,_,_,_,ag⟩:=HM1.o.bx;obtain⟨_,_,b5,a0,_,_,_⟩:=HM1.o.gb;obtain⟨_,_,ba,_,_,_,ak,_,h2,h3,h4,_⟩:=cJ ▸ HM1.o.gv.at_idx hlt;cases ba;go_upto_if 84 with fail
      go_cut [] from 83 to 100 (λbb=>V (Mx bb w P a n cap T.2.2.2 bs G I C (.slice bk T.1.length af) (h0 aD vs.length bg) (.slice a6 T.2.2.1.length ah) (.slice bB T.1.length aJ) (some ⟨b0,off,none⟩) vs.length y2 b3 T.2.2.1.length y3 T.1 vs T.2.2.1 ((mz vs ps qs q).set q (stA vs ps qs q 3)) a8 aL))
      case first=>
       have ho:=λc=>opm (hops v.c (sX c));have hst:=QI (ps:=ps) (qs:=qs) cH.o;by_cases c:2<cnt v.op
       ·exact FlP
       exact FlN
      case rest=>
      replace HM1:V _:=hcut;clear hcut bP aR bd b5 a0 ak h2 h3 h4;obtain⟨_,bP,aR,bd,bu,_,_,_,ag⟩:=HM1.o.bx;obtain⟨_,_,b5,a0,_,_,_⟩:=HM1.o.gb;obtain⟨_,_,ba,_,_,_,ak,_,h2,h3,h4,_⟩:=cJ ▸ HM1.o.gv.at_idx hlt;cases ba;have R:V _:=HM1.o.setT hlq xab (QJ (be.o q hlt)) rfl;rw[Ph hlt]at R;have b6:wc.cell? ⟨aD,q*8+1,none⟩=some (h1 v.len):=by rw[<-cH.o];exact(HM1.o.at_ hlq).c1
      have b7:=(HM1.o.at_ hlq).c3;have cx:=ri HM1.o.cd.r2;have aY:=cN.o q aA;have ar:=cN.o (q+1) hlt;have b1:V (iU vs (q+1)=iU vs q+v.len):=by show _=_;rw[iU,cH.o]
      rw[b1.o]at ar;generalize iU _ q=O at R aY ar b1;clear HM1 b4 hops ak h2 h3 h4 b5 a0;go_wp2_with fail;go_roundw;exact⟨q+1,by omega,by rw[b1.o],by go_num,R⟩;simp[intOf];omega
     obtain rfl:q=vs.length:=xaa;rw[QF]at bJ;go_wp2_with fail;have cq:V _:=bJ;clear bJ bP aR bd bu ag b5 a0;go_loopw [10] (λbC W=>∃r:Nat,r<=T.2.2.1.length/\bC=h1 r/\V (Mx W w P a n cap T.2.2.2 bs G I C (.slice bk T.1.length af) (.slice p2 vs.length bg) (.slice a6 T.2.2.1.length ah) (.slice bB T.1.length aJ) bG vs.length y2 b3 T.2.2.1.length y3 T.1 vs T.2.2.1 (f9 vs qs vs.length) (vi vs T.2.2.1 ps qs r) aL)) (λbC _=>T.2.2.1.length-(intOf bC).toNat)
     case atStart=>exact⟨0,yae,rfl,by have e:=AT (vs:=vs) (outs:=T.2.2.1) (f:=λj=>if j<0 then qs else ps) (λj _=>h6 (Nat.not_lt_zero j));unfold vi;rw[e,ej.o];exact cq⟩
     case round=>
      obtain⟨r,aF,rfl,bJ⟩:=hrel;clear cq;obtain⟨_,bP,aR,bd,bu,_,_,_,ag⟩:=bJ.o.bx;obtain⟨_,_,b5,a0,_,_,_⟩:=bJ.o.gb;by_cases aZ:r<T.2.2.1.length
      ·obtain⟨m,em,ao⟩:∃m:Nat,T.2.2.1.getD r 0=m/\m<vs.length:=by
        have:=d0.o (T.2.2.1.getD r 0) (by rw[yai,yam aZ];exact List.getElem_mem _);exact⟨(T.2.2.1.getD r 0).toNat,by omega,by omega⟩
       obtain⟨cP,ds,aj,ba,ap,_,_,cU⟩:=bJ.o.go.at_idx (o:=r) xaa xaa;cases ba;obtain rfl:r=aj:=xaa;rw[Int.toNat_natCast,em]at cU;have aT:=bJ.o.cd.r2;rw[kZ]at aT;obtain⟨aD,cs,es,_,_,bw⟩:=pC aT (kZ _ _ _) ao;cases es;have bQ:=bw.c3;rw[M9 ao]at bQ;obtain⟨ci,cf⟩:=Pi (vs:=vs) (ps:=ps) (qs:=qs) aZ;have y:r<(vi vs T.2.2.1 ps qs r).length:=by rw[AS];exact aZ
       obtain⟨b9,aH,cr,bj⟩:=bJ.o.atP y ci;rw[AS]at cr;cases cr;have R:V _:=bJ.o.setP (y:=qs.getD m 0) y ci;have cu:(⟨qs.getD m 0,(kK vs ps (T.2.2.1.getD r 0)).len⟩:Spn)=kK vs qs (T.2.2.1.getD r 0):=by unfold kK;rw[em];rfl
       rw[cu,cf]at R;have cx:=ri bJ.o.cd.r3;have bL:(0:Int)<=m:=xaa;have cG:(m:Int)<vs.length:=xaa;have cK:wr.cell? _=some (.int _ (qs.getD m 0)):=bQ;generalize qs.getD m 0=D at cK R;clear bJ em aT ci cf cu y bw bQ;go_wp2_with fail;go_region
       all_goals
        go_wp2
        go_roundw;exact⟨r+1,by omega,by go_num,R.o.keep (eF _)⟩;simp[intOf];omega
      obtain rfl:r=T.2.2.1.length:=xaa;have R:V _:=bJ.o.peak (iU vs vs.length);clear bJ;go_wp2_with fail;go_meet;rw[E.o,cT.o,al.o];have e:=AT (vs:=vs) (f:=λj=>if j<T.2.2.1.length then qs else ps) (λj hj=>h7 hj);unfold vi at R;rw[e]at R;exact R
   have cj:((k:Int)==0)=false:=by rw[beq_eq_false_iff_ne];omega
   have e:(k==0)=false:=by rw[beq_eq_false_iff_ne];omega
   have E:V _:=e;clear bE e;go_wp2_with fail;go_meet;rw[E.o];exact Y
  case rest=>
   clear Y;have bf:=Lk.code cS.o (k==0) T.2.2.1;generalize plD _ _ _=ps at hcut bf;generalize cV:pkD _ _ _=aL at hcut bf;obtain⟨(b2:V _),(bO:V _),(cp:V _)⟩:=bf;have aW:V _:=hcut;clear hcut cV;obtain⟨_,bP,aR,bd,bu,_,_,_,_⟩:=aW.o.bx;obtain⟨_,bq,aq,aT,b8,bR,bS,bT,ch⟩:=aW.o.rs;go_wp2_with fail;obtain⟨bl,aS,a9,bV⟩:=nT _ _ _ _ _ _ bq aq aT b8 (.slice bk T.1.length af) (.slice p2 vs.length bg) (.slice a6 T.2.2.1.length ah) (h1 aL);have bW:=j9 wc w.heap.size (.slice bk T.1.length af) (.slice p2 vs.length bg) (.slice a6 T.2.2.1.length ah) (h1 aL);have ai:=aW.o.lo;rw[cI.o];refine yaz (v:=iQ bk T.1.length af p2 vs.length bg a6 T.2.2.1.length ah aL) (by simp[results,results46,go_sem,bl,aS,a9,bV]) rfl ⟨_,_,_,_,_,_,_,_,_,_,i4 cp.o,b2.o,?_,aW.o.rd.keep bW (.inl xaa),aW.o.kp.newC (bW.chg1 (S:=λb=>b=w.heap.size) rfl) λb hb=>by omega⟩;show OCd _ _ _ _ _ T.1 _ (T.2.2.1.map (kK T.2.1 (plD (k==0) T.2.1 T.2.2.1)));rw[<-bO.o];exact(aW.o.cd.keepO (bW.chg1 rfl) λb hb c=>by have:=aW.o.nr b hb;subst c;rcases hb with h|h|h;have:=eG aW.o.cd.r1 h;omega;have:=eG aW.o.cd.r2 h;omega;have:=eG aW.o.cd.r3 h;omega).mono xaa):Zp:=h
open dE in
theorem B4{w g T1}(K:RdF w P a n cap i bs)
  (ak:∀W,RdF W P a n cap (ni bs i) bs->Calls prog 64 #[hZ P] W (DgF W P a n cap bs g.1 g.2.1 g.2.2.1 g.2.2.2))
  (F:∀W,RdF W P a n cap g.2.2.2 bs->Calls prog 65 #[hZ P] W (DgF W P a n cap bs T1.1 T1.2.1 T1.2.2.1 T1.2.2.2))
  (Q:okG g.1 g.2.1 g.2.2.1=true):
  Calls prog 46 #[hZ P] w (CdT w P a n cap bs (cdM (nv bs i%8) (pkG (nv bs i%8) g T1))):=by
 have hP:=K.lt;have ad:=eA P (P+1) w lC;have HR0:V _:=K.keep (eA 0 0 w lC) yab;have aK:V _:=lG w;have x:V _:=ad;have HZ:V _:=hP;have HN:V _:=λW i f=>iw W P a n cap i bs f;have l:V _:=ak;have H1:V _:=F;have cB:V _:=Q;have bA:(nv bs i:Int)%8=(nv bs i%8:Nat):=xaa;have cw:nv bs i%8<8:=Nat.mod_lt _ xaa;generalize nv _ i%8=k at bA cw⊢;clear K ak F Q ad hP;go_enter func46,ntmps46;exact qep
abbrev CT:Type:=List Int×List Ste×List Spn×Int×Nat
structure CdOK(T:CT):Prop where
 sv:SvOK T.1 T.2.1 T.2.2.1 T.2.2.2.1
 lo:T.2.2.1.length<=50
 f:∀k,k<T.2.1.length->∀y∈fw (T.2.1.getD k Ste.zero),0<=y/\y<=60000
 p:0<=T.2.2.2.1/\T.2.2.2.1<=60000
 p1:0<T.2.1.length->1<=T.2.2.2.1
 il:∀j,j<T.1.length->1<=T.1.getD j 0/\T.1.getD j 0<=1000
structure CdW(T:CT):Prop where
 li:T.1.length<=20
 ls:T.2.1.length<=2000
 lo:T.2.2.1.length<=60
 f:∀k,k<T.2.1.length->∀y∈fw (T.2.1.getD k Ste.zero),-10<=y/\y<=70000
 p:-10<=T.2.2.2.1/\T.2.2.2.1<=70000
 il:∀j,j<T.1.length->1<=T.1.getD j 0/\T.1.getD j 0<=1000
theorem CdOK.w{T}(h:CdOK T):CdW T:=⟨h.sv.li,h.sv.ls,ix h.lo,λk O y bp=>ix (h.f k O y bp),ix h.p,h.il⟩
theorem C9(h:us.map nk=ss.map nk):us.length=ss.length/\∀k,nk (us.getD k Ste.zero)=nk (ss.getD k Ste.zero):=
 ⟨by simpa using congrArg List.length h,λk=>by rw[<-C5,h,C5]⟩
theorem Ps(h:us.map nk=ss.map nk)(k):fw (us.getD k Ste.zero)=fw (ss.getD k Ste.zero):=by
 have e:=congrArg fw ((C9 h).2 k);exact e
theorem Pt{G}(h:okG G.1 G.2.1 G.2.2.1=true):CdOK (cdM k G):=by
 obtain⟨c1,c2,c3⟩:=Ia h (k==0);obtain⟨⟨_,_,b7⟩,hi,_⟩:=jZ h;refine⟨Lm h _,?_,λj hj y bp=>?_,c2,λak=>c3 ?_,λj hj=>?_⟩
 ·show(List.map _ _).length<=50;grind
 ·grind[cdM,f9]
 ·simpa[cdM,kZ] using ak
 have hj:j<G.1.length:=hj;exact of_decide_eq_true (List.all_eq_true.1 hi (G.1.getD j 0) (by simp_all))
def spT(bs:List Int)(T:CT):CT:=
 if T.2.1.length=0 then (T.1,T.2.1,T.2.2.1,T.2.2.2.1,ni bs (ni bs T.2.2.2.2))else (T.1,spL (nv bs T.2.2.2.2%12) (nv bs (ni bs T.2.2.2.2)) T.2.1,spO (nv bs T.2.2.2.2%12) (nv bs (ni bs T.2.2.2.2)) T.2.2.1,spP (nv bs T.2.2.2.2%12) (nv bs (ni bs T.2.2.2.2)) T.2.2.2.1,ni bs (ni bs T.2.2.2.2))
theorem bJ.qbw(h:Zp:=by
 have HN:V _:=λW i f=>iw W P a n cap i bs f;clear l K ad an a5 a2 C z r;go_enter func16,ntmps16;go_wp2_with fail;generalize (w.alloc _).alloc _=W0 at bf⊢;refine yaj (HN.o _ _ bf.o.rd) ?_;rintro e ax ⟨rfl,R1,an,aR⟩;have b2:V _:=bf.o.next an R1;clear R1 an aR bf;go_wp2_with fail;refine yaj (HN.o _ _ b2.o.rd) ?_;rintro e bo ⟨rfl,R2,av,bd⟩;have bO:V _:=b2.o.next av R2;clear R2 av bd b2 HN;obtain⟨_,aP,ay,aB,bz,_,_,_,_⟩:=bO.o.bx;obtain⟨_,bq,aq,aT,b8,bR,bS,bT,ch⟩:=bO.o.rs;go_wp2_with fail;obtain⟨bh,aJ,y2,y3⟩:=nT _ _ _ _ _ _ bq aq aT b8 (.slice a1 Z c1) (.slice J 0 c2) (.slice a3 ab c3) (h1 aL);have bW:=j9 bo (w.heap.size+1) (.slice a1 Z c1) (.slice J 0 c2) (.slice a3 ab c3) (h1 aL);refine yaz (v:=iQ a1 Z c1 J 0 c2 a3 ab c3 aL) (by simp[results,results16,go_sem,bh,aJ,y2,y3]) rfl ⟨rfl,?_,bO.o.rd.keep bW (.inl xaa),bO.o.ch.new bW.chgS λi F h2=>by omega⟩;exact bO.o.cd.keepO (bW.chg1 rfl) λb hb c=>ix (bO.o.nr b hb)):Zp:=h
open bJ in
theorem Pu{w a8}(l:OCd w I (.slice a1 Z c1) (.slice J ae c2) (.slice a3 ab c3) ins [] a8)(K:RdF w P a n cap i bs)(hP:P<I)(a7:I<=w.heap.size)(z:S P)(r:∀b,(Value.slice a3 ab c3).ownBlock=some b->S b):
  Calls prog 16 #[iQ a1 Z c1 J ae c2 a3 ab c3 aL,hZ P] w λe B=>e=.returned (iQ a1 Z c1 J ae c2 a3 ab c3 aL)/\OCd B I (.slice a1 Z c1) (.slice J ae c2) (.slice a3 ab c3) ins [] a8/\RdF B P a n cap (ni bs (ni bs i)) bs/\Chg S w B:=by
 have bg:ae=0:=gZ l.r2;subst bg;have ad:=eA 0 0 w (iE a1 Z c1 J 0 c2 a3 ab c3 aL);have an:=eA 0 0 (w.alloc (iE a1 Z c1 J 0 c2 a3 ab c3 aL)) lC;have a5:(w.alloc (iE a1 Z c1 J 0 c2 a3 ab c3 aL)).heap.size=w.heap.size+1:=by simp
 have a2:KB (w.alloc (iE a1 Z c1 J 0 c2 a3 ab c3 aL)) w.heap.size (.slice a1 Z c1) (.slice J 0 c2) (.slice a3 ab c3) (h1 aL):=by
  refine⟨?_,?_,?_,?_,?_,?_,?_,?_,?_⟩<;>simp
 have C:=lG (w.alloc (iE a1 Z c1 J 0 c2 a3 ab c3 aL));exact qbv
theorem IW{w T}(bm:CdW T)(ai:us.map nk=T.2.1.map nk)(l:OCd w I (.slice a1 Z c1) (.slice J ae c2) (.slice a3 ab c3) T.1 us T.2.2.1)(K:RdF w P a n cap T.2.2.2.2 bs)(hP:P<I)(a7:I<=w.heap.size)(z:S P)(bU:∀b,(Value.slice J ae c2).ownBlock=some b->S b)(r:∀b,(Value.slice a3 ab c3).ownBlock=some b->S b):
  Calls prog 16 #[iQ a1 Z c1 J ae c2 a3 ab c3 T.2.2.2.1,hZ P] w λe B=>∃aa m3 aI,∃t:List Ste,e=.returned (iQ a1 Z c1 J ae c2 aa m3 aI (spT bs T).2.2.2.1)/\t.map nk=(spT bs T).2.1.map nk/\OCd B I (.slice a1 Z c1) (.slice J ae c2) (.slice aa m3 aI) (spT bs T).1 t (spT bs T).2.2.1/\RdF B P a n cap (spT bs T).2.2.2.2 bs/\Chg S w B/\∀b,(Value.slice aa m3 aI).ownBlock=some b->S b\/w.heap.size<=b:=by
 have aV:=(C9 ai).1;unfold spT;by_cases c:T.2.1.length=0
 ·rw[h7 c];obtain rfl:us=[]:=List.eq_nil_of_length_eq_zero xaa;refine(Pu l K hP a7 z r).mono ?_;grind
 rw[h6 c];refine(Pe l K hP a7 xaa (ix bm.ls) bm.lo bm.p (λs aw y bp=>?_) z bU r).mono ?_
 ·obtain⟨j,hj,rfl⟩:=List.getElem_of_mem aw;have e:us[j]=us.getD j Ste.zero:=by grind
  rw[e,Ps ai]at bp;exact bm.f j xaa y bp
 rintro e B ⟨aa,m3,aI,rfl,F,ak,h2,h3⟩;exact⟨_,_,_,_,rfl,OJ _ _ ai,F,ak,h2,h3⟩
theorem Kept.newD{lo hi a b c}(h:Kept lo hi a b)(k:Chg S b c)(a2:∀i,S i->lo<=i/\i<hi\/a.heap.size<=i):Kept lo hi a c:=
 ⟨k.os.trans h.os,k.tape.trans h.tape,k.output.trans h.output,yao h.size k.size,λi hi' ag=>(k.block i (yak hi' h.size) (λc=>by grind)).trans (h.block i hi' ag)⟩
theorem QS(k v)(h:∀j,j<ss.length->∀y∈fw (ss.getD j Ste.zero),0<=y/\y<=60000):∀j,j<(spL k v ss).length->∀y∈fw ((spL k v ss).getD j Ste.zero),-10<=y/\y<=70000:=λj hj=>by
 have u:(spL k v ss).length=ss.length:=by unfold spL;grind
 rw[u]at hj
 have hi:v%ss.length<ss.length:=Nat.mod_lt _ xaa
 by_cases c:j=v%ss.length
 ·have e:(spL k v ss).getD j Ste.zero=spS k v (ss.getD j Ste.zero):=by simp_all[spL]
  rw[e]
  have bJ:=h j hj
  generalize ss.getD j _=s at bJ⊢
  simp only[fw,List.mem_cons,List.not_mem_nil,or_false,forall_eq_or_imp,forall_eq]at bJ⊢
  unfold spS
  (repeat' split)<;>(try dsimp only)<;>omega
 ·have e:(spL k v ss).getD j Ste.zero=ss.getD j Ste.zero:=by
   unfold spL;grind
  grind
theorem AU{T}:(spT bs T).1=T.1/\(spT bs T).2.1.length=T.2.1.length/\(spT bs T).2.2.1.length<=T.2.2.1.length+1:=by
 grind[spT,spL,spO]
theorem CdOK.spo{T}(h:CdOK T)(hb:∀i,nv bs i<256):CdW (spT bs T):=by
 obtain⟨af,bg,ah⟩:=AU (bs:=bs) (T:=T);have F:=h.sv.ls;have h2:=h.lo;have h3:=h.p;refine⟨i1 af h.sv.li,by omega,by omega,?_,?_,i1 af h.il⟩
 ·unfold spT;split
  ·simp_all
  exact QS _ _ h.f
 grind[spT,spP]
def spK(bs:List Int)(k:Nat)(T:CT):CT:=if k=0 then spT bs T else T
structure Zx(W w:World)(P:Nat)(a:Option Addr)(n cap:Nat)(bs:List Int)(B C R:Nat)(v1 v2 v3:Value)(T:CT)(us:List Ste):Prop where
 rd:RdF W P a n cap T.2.2.2.2 bs
 cd:OCd W B v1 v2 v3 T.1 us T.2.2.1
 bx:KB W C v1 v2 v3 (.int .i64 T.2.2.2.1)
 rs:KB W R (.slice none 0 0) (.slice none 0 0) (.slice none 0 0) (.int .i64 0)
 lo:P<B/\R<B/\R≠P/\B<=C/\w.heap.size<=R
 nr:∀b,(v1.ownBlock=some b\/v2.ownBlock=some b\/v3.ownBlock=some b)->b<C
 kp:Kept P (P+1) w W
 nk:us.map nk=T.2.1.map nk
theorem Zx.put{W w C R m3 aI aa}{T d:CT}{t}(f:Zx W w P a n cap bs I C R (.slice a1 Z c1) (.slice J ae c2) (.slice a3 ab c3) T us)(aO:OCd H I (.slice a1 Z c1) (.slice J ae c2) (.slice aa m3 aI) d.1 t d.2.2.1)(k:Chg (λb=>b=P\/(Value.slice J ae c2).ownBlock=some b\/(Value.slice a3 ab c3).ownBlock=some b) W H):
  KB H R (.slice none 0 0) (.slice none 0 0) (.slice none 0 0) (h1 0)/\OCd (setC4 H R (.slice a1 Z c1) (.slice J ae c2) (.slice aa m3 aI) (h1 d.2.2.2.1)) I (.slice a1 Z c1) (.slice J ae c2) (.slice aa m3 aI) d.1 t d.2.2.1/\Kept P (P+1) w (setC4 H R (.slice a1 Z c1) (.slice J ae c2) (.slice aa m3 aI) (h1 d.2.2.2.1)):=by
 have ai:=f.lo;have h2:∀b,(Value.slice _ _ _).ownBlock=some b->I<=b:=λb h=>(eG f.cd.r2 h).1;have h3:∀b,(Value.slice _ _ _).ownBlock=some b->I<=b:=λb h=>(eG f.cd.r3 h).1;have bW:=j9 H R (.slice a1 Z c1) (.slice J ae c2) (.slice aa m3 aI) (h1 d.2.2.2.1);refine⟨f.rs.keepC k λc=>?_,aO.keepO (bW.chg1 (S:=λb=>b=R) rfl) λb hb c=>?_,(f.kp.newD k λi hi=>?_).newC (bW.chg1 rfl) λb hb=>by omega⟩
 ·grind
 ·subst c;rcases hb with h|h|h
  ·have:=(eG aO.r1 h).1;omega
  ·grind
  have:=(eG aO.r3 h).1;omega
 grind
theorem bG.qbu(h:Zp:=by
 have aD:V (CdT w P a n _ _ T _ _):=⟨_,_,_,_,_,_,_,_,_,_,rfl,HX.o.nk,f1.mono d,HX.o.rd.keep (j9 _ _ _ _ _ _) (.inl HZ.o),f3⟩
 clear f1 f3 bE;go_wp2_with fail;exact yaz (v:=iQ a1 Z c1 J ae c2 a3 ab c3 T.2.2.2.1) (by simp[results,results15,go_sem,bl,aS,a9,bV]) rfl aD.o):Zp:=h
theorem bG.qeq(h:Zp:=by
 have bA:(nv bs i:Int)%4=k:=ix r.o
 rw[bA];clear bA a6;refine yaj (HD.o bK.o) ?_;rintro e bo ⟨a1,Z,c1,J,ae,c2,a3,ab,c3,us,rfl,br,aO,az,av⟩
 have HX:V (Zx (bo.alloc (iE a1 Z c1 J ae c2 a3 ab c3 T.2.2.2.1)) w P a n cap bs ax.heap.size bo.heap.size w.heap.size (.slice a1 Z c1) (.slice J ae c2) (.slice a3 ab c3) T us):=by
  refine⟨az.keep (eA 0 0 _ _) yab,aO.keep (eA 0 0 _ _),?_,(kI b1.o av (.inr HZ.o)).keep (eA 0 0 _ _),⟨bK.o.lt,b1.o.sz,ix HZ.o,av.size,yad⟩,λb hb=>?_,(bZ.o.trans av).trans (eA _ _ _ _),br⟩
  ·refine⟨?_,?_,?_,?_,?_,?_,?_,?_,?_⟩<;>simp
  exact xfj
 clear br aO az av bK bZ b1 HD;go_upto_if 11 with fail
 generalize bo.alloc _=aU at HX⊢;have d:w.heap.size<=ax.heap.size:=ix HX.o.lo
 obtain⟨_,aP,ay,aB,bz,_,_,_,_⟩:=HX.o.bx;by_cases bE:k=0
 ·have cj:((k:Int)==0)=true:=by grind
  obtain rfl:spT _ T=cl:=by rw[<-l.o];exact(h7 bE).symm
  have y:V _:=IW (S:=λb=>b=P\/(Value.slice _ _ _).ownBlock=some b\/(Value.slice _ _ _).ownBlock=some b) bI.o HX.o.nk HX.o.cd HX.o.rd HX.o.lo.1 (ix HX.o.lo) (.inl rfl) (λb h=>.inr (.inl h)) (λb h=>.inr (.inr h));clear bE;go_wp2_with fail;refine yaj y.o ?_;rintro e cc ⟨aa,m3,aI,t,rfl,br,aO,az,ar,_⟩;exact qga
 exact qbt):Zp:=h
theorem bG.qgb(h:Zp:=by
 have aD:V (CdT w P a n _ _ _ _ _):=⟨_,_,_,_,_,_,_,_,_,_,rfl,br,f1.mono d,az.keep (j9 _ _ _ _ _ _) (.inl HZ.o),f3⟩
 clear br aO az ar f1 f3 y aP ay aB bz;go_wp2_with fail;exact yaz (v:=iQ a1 Z c1 J ae c2 aa m3 aI (spT bs T).2.2.2.1) (by simp[results,results15,go_sem,bl,aS,a9,bV]) rfl aD.o):Zp:=h
open bG in
theorem EV{w T}(K:RdF w P a n cap i bs)(bm:CdW T)
  (bx:∀{W:World},RdF W P a n cap (ni bs i) bs->Calls prog 46 #[hZ P] W (CdT W P a n cap bs T)):
  Calls prog 15 #[hZ P] w (CdT w P a n cap bs (spK bs (nv bs i%4) T)):=by
 have hP:=K.lt;have HR0:V _:=K.keep (eA 0 0 w lC) yab;have aK:V _:=lG w;have x:V _:=eA P (P+1) w lC;have HZ:V _:=hP;have HN:V _:=λW i f=>iw W P a n cap i bs f;have HD:V _:=@bx;have bI:V _:=bm;have a6:=fp K.ys i;obtain⟨k,O⟩:∃k,nv bs i%4=k:=⟨_,rfl⟩
 rw[O];have r:V _:=O;obtain⟨cl,a5⟩:∃cl,spK bs k T=cl:=⟨_,rfl⟩
 rw[a5];have l:V _:=a5;clear K bx bm hP O a5;go_enter func15,ntmps15;exact qep
def CvO(w:World)(T:CT)(e:Ending)(w':World):Prop:=
 ∃a1 n1 c1 a2 n2 c2 a3 n3 c3,∃us:List Ste,e=.returned (iQ a1 n1 c1 a2 n2 c2 a3 n3 c3 T.2.2.2.1)/\us.map nk=T.2.1.map nk/\CS w' a1 n1 a2 n2 a3 n3 T.1 us T.2.2.1/\(∀s∈us,s.k<18446744073709551616)/\Kept 0 0 w w'
theorem bH.qbu(h:Zp:=by
 have aD:V _:=Y.o f1 f3 HX.o.nk;clear f1 f3 bE;go_wp2_with fail;exact yaz (v:=iQ a1 Z c1 J ae c2 a3 ab c3 T.2.2.2.1) (by simp[results,results4,go_sem,bl,aS,a9,bV]) rfl aD.o):Zp:=h
theorem bH.qgb(h:Zp:=by
 have aD:V _:=Y.o f1 f3 br;clear br aO az ar f1 f3 y aP ay aB bz;go_wp2_with fail;exact yaz (v:=iQ a1 Z c1 J ae c2 aa m3 aI (spT bs T).2.2.2.1) (by simp[results,results4,go_sem,bl,aS,a9,bV]) rfl aD.o):Zp:=h
open bH in
theorem Mj(hb:∀i,nv (xs.take 500) i<256)(ci:∃T:CT,CdOK T/\∀{w:World}{P n cap:Nat}{a:Option Addr},RdF w P a n cap (ni (xs.take 500) (ni (xs.take 500) 0)) (xs.take 500)->Calls prog 46 #[hZ P] w (CdT w P a n cap (xs.take 500) T)):∃T:CT,(T.1.length<=20/\T.2.1.length<=2000/\T.2.2.1.length<=61/\∀j,j<T.1.length->1<=T.1.getD j 0/\T.1.getD j 0<=1000)/\∀{w:World}{a:Option Addr}{n cap:Nat},YS w a n xs->n<=cap->Calls prog 4 #[.slice a n cap] w (CvO w T):=by
 obtain⟨g,ak,u⟩:=ci
 obtain⟨T,bm,be⟩:∃T:CT,CdW T/\∀{w:World}{P n cap:Nat}{a:Option _},RdF w P a n cap _ _->Calls _ _ #[.pointer (some ⟨P,0,_⟩)] w (CdT w P a n cap _ T):=by
  refine⟨_,?_,λK=>EV K ak.w u⟩;unfold spK;split
  ·exact ak.spo hb
  exact ak.w
 clear u ak;refine⟨spK (xs.take 500) (nv (xs.take 500) 0%2) T,?_,λ{w a n cap} h al=>?_⟩
 ·obtain⟨af,bg,ah⟩:=AU (bs:=xs.take 500) (T:=T);have F:=bm.li;have h2:=bm.ls;have h3:=bm.lo;unfold spK;split
  ·rw[af];exact⟨F,by omega,by omega,bm.il⟩
  exact⟨F,h2,by omega,bm.il⟩
 have bj:=eA 0 0 w lC;have F:(w.alloc lC).heap.size=w.heap.size+1:=by simp
 have HO:V _:=ND _ a n _ _ (h.keep bj) al;rw[F]at HO;have bO:V _:=@be;have bI:V _:=bm;have a6:=hb 0;have aK:V _:=lG w;have x:V _:=bj;clear be bm hb h al bj F;generalize xs.take _=bs at HO bO a6⊢;obtain⟨k,O⟩:∃k,nv bs 0%2=k:=⟨_,rfl⟩
 rw[O];have r:V _:=O;obtain⟨cl,a5⟩:∃cl,spK bs k T=cl:=⟨_,rfl⟩
 rw[a5];have l:V _:=a5;clear O a5;go_enter func4,ntmps4;go_wp2_with fail;refine yaj HO.o ?_;rintro e ax ⟨rfl,⟨m,(bK:V _)⟩,an⟩;have HN:V _:=λW i f=>iw W (w.heap.size+1) a m cap i bs f;have bZ:V _:=x.o.trans an;have b1:V _:=aK.o.keep an;clear an HO aK x;go_wp2_with fail;refine yaj (HN.o _ _ bK.o) ?_;rintro e bo ⟨rfl,(aC:V _),av,bd⟩;have bQ:V _:=bZ.o.new av xaa;have co:V _:=kI b1.o av xaa;clear av bd bK bZ b1 HN;go_wp2_with fail;have bA:(nv bs 0:Int)%2=k:=ix r.o
 rw[bA];clear bA a6;refine yaj (bO.o aC.o) ?_;rintro e aU ⟨a1,Z,c1,J,ae,c2,a3,ab,c3,us,rfl,br,aO,az,aZ⟩
 have HX:V (Zx (aU.alloc (iE a1 Z c1 J ae c2 a3 ab c3 T.2.2.2.1)) w (w.heap.size+1) a m cap bs bo.heap.size aU.heap.size w.heap.size (.slice a1 Z c1) (.slice J ae c2) (.slice a3 ab c3) T us):=by
  refine⟨az.keep (eA 0 0 _ _) yab,aO.keep (eA 0 0 _ _),?_,(kI co.o aZ xaa).keep (eA 0 0 _ _),⟨aC.o.lt,co.o.sz,by omega,aZ.size,yad⟩,λb hb=>?_,(((bQ.o.new aZ xaa).trans (eA _ _ _ _)).mono λ_ _ h=>by omega),br⟩
  ·refine⟨?_,?_,?_,?_,?_,?_,?_,?_,?_⟩<;>simp
  exact xfj
 clear br aO az aZ aC bQ co bO;go_upto_if 14 with fail
 generalize aU.alloc _=cc at HX⊢
 have aH:∀{aa:Option _}{m3 aI:Nat}{d:CT}{t:List _}{H:World},OCd H bo.heap.size (.slice a1 Z c1) (.slice J ae c2) (.slice aa m3 aI) _ _ _->Kept (w.heap.size+1) (w.heap.size+1+1) w _->t.map _=d.2.1.map _->CvO w _ (.returned (iQ _ _ c1 _ _ c2 _ _ aI _)) _:=λaO aX ag=>
  ⟨_,_,_,_,_,_,_,_,_,_,rfl,ag,aO.cs (gZ aO.r1).symm (gZ aO.r2).symm (gZ aO.r3).symm,aO.kl,aX.mono λ_ _ h=>by omega⟩
 have Y:V _:=@aH;obtain⟨_,aP,ay,aB,bz,_,_,_,_⟩:=HX.o.bx;clear aH;by_cases bE:k=0
 ·have cj:((k:Int)==0)=true:=by grind
  obtain rfl:spT _ T=cl:=by rw[<-l.o];exact(h7 bE).symm
  have y:V _:=IW (S:=λb=>b=w.heap.size+1\/(Value.slice _ _ _).ownBlock=some b\/(Value.slice _ _ _).ownBlock=some b) bI.o HX.o.nk HX.o.cd HX.o.rd HX.o.lo.1 (ix HX.o.lo) (.inl rfl) (λb h=>.inr (.inl h)) (λb h=>.inr (.inr h));clear bE;go_wp2_with fail;refine yaj y.o ?_;rintro e ca ⟨aa,m3,aI,t,rfl,br,aO,az,ar,_⟩;exact qga
 exact qbt
def opR(ss:List Ste)(rs:List (List Nat))(n:Nat)(s:Ste):List (List Nat):=(List.range 3).map λq=>if q<cnt s.op then i7 ss rs n (lP s q) (mN s q) else[]
theorem IX(ss rs n s){q}(aA:q<3):(opR ss rs n s).getD q []=if q<cnt s.op then i7 ss rs n (lP s q) (mN s q) else[]:=by
 rcases (by omega:q=0\/q=1\/q=2) with rfl|rfl|rfl<;>rfl
theorem Mk{rs}(ak:s.op≠0):doM xss ss rs n s=jN s.op s.len s.c s.k ((opR ss rs n s).getD 0 []) ((opR ss rs n s).getD 1 []) ((opR ss rs n s).getD 2 []):=by
 unfold doM;rw[h6 ak];rfl
theorem Pv{rs}(h:jd rs)(n s):∀x∈(opR ss rs n s).getD 0 [],x<18446744073709551616:=by
 rw[IX _ _ _ _ xaa];exact nG (mw h _ _ _)
theorem IY(hi:inB ins xss=true)(h:(List.range k).all (iA ins ss aL)=true):LM ss (gl xss ss k) k:=by
 induction k with
 |zero=>intro j hj;omega
 |succ k G=>
  have aF:(List.range k).all (iA ins ss aL)=true/\iA ins ss aL k=true:=by
   rw[List.range_succ,List.all_append,Bool.and_eq_true]at h;exact⟨h.1,by simpa using h.2⟩
  intro j hj;by_cases e:j<k
  ·rw[mW _ _ e];exact G aF.1 j e
  obtain rfl:j=k:=xaa;rw[oU];have aw:=aF.2;unfold iA at aw;rw[Bool.and_eq_true]at aw;exact C3 hi aw.1
theorem vm(aQ:aL<=50000)(h:iA ins ss aL k=true):fA ins (ss.getD k Ste.zero)=true/\∀q,q<cnt (ss.getD k Ste.zero).op->∃o m:Nat,lP (ss.getD k Ste.zero) q=o/\mN (ss.getD k Ste.zero) q=m/\1<=m/\m<=1000/\o<=60000:=by
 unfold iA at h;generalize ss.getD k _=s at h⊢;simp only[Bool.and_eq_true]at h;obtain⟨F,h2,h3⟩:=h;refine⟨F,λq aA=>?_⟩;obtain⟨p,af,bg,ah⟩:=qg aA;have T:=List.all_eq_true.1 h3 _ (List.mem_of_getElem? af);unfold jB at T;rw[Bool.and_eq_true]at T;have ho:=kX T.1;have ai:=wH F aA;rw[bg,ah]at ho;exact⟨(lP s q).toNat,(mN s q).toNat,by omega,by omega,by omega,by omega,by omega⟩
structure RB2(w:World)(A B:Nat)(x0 x1 x2 x3:Value)(s:Ste):Prop where
 c:C0 w A x0 x1 x2 x3
 t:AtT w B 0 s
 lt:B<w.heap.size
theorem RB2.keep{w}(f:RB2 w A I bF bB bG b3 s)(k:Kept 0 0 w B):RB2 B A I bF bB bG b3 s:=
 ⟨f.c.keep k,f.t.keep f.lt k yaa,yak f.lt k.size⟩
theorem C0.grown{W p bL U aV aa}(t:C0 W p bL U aV aa)(aK:W.grownBy H bM)(aF:∀i,bM=some i->N<=i)(aQ:p<N):C0 H p bL U aV aa:=by
 have e:∀o u,W.cell? ⟨p,o,none⟩=some u->H.cell? ⟨p,o,none⟩=some u:=λo u al=>by
  rw[aK.cell_far ⟨p,o,none⟩ t.sz (λc=>ix (aF p c.symm))];exact al
 exact⟨yak t.sz aK.size,e _ _ t.q0,e _ _ t.q1,e _ _ t.q2,e _ _ t.q3⟩
theorem RB2.grown{w}(f:RB2 w A I bF bB bG b3 s)(aK:w.grownBy B bM)(aF:∀i,bM=some i->N<=i)(be:A<N)(a7:I<N):RB2 B A I bF bB bG b3 s:=by
 have e:∀o u,w.cell? ⟨I,o,none⟩=some u->B.cell? ⟨I,o,none⟩=some u:=λo u al=>by
  rw[aK.cell_far ⟨I,o,none⟩ f.lt (λc=>ix (aF I c.symm))];exact al
 exact⟨f.c.grown aK aF be,⟨e _ _ f.t.c0,e _ _ f.t.c1,e _ _ f.t.c2,e _ _ f.t.c3,e _ _ f.t.c4,e _ _ f.t.c5,e _ _ f.t.c6,e _ _ f.t.c7⟩,yak f.lt aK.size⟩
theorem AtP.grown{W g o v}(t:AtP W g o v)(aK:W.grownBy H bM)(ai:g<W.heap.size)(aF:∀i,bM=some i->N<=i)(aQ:g<N):AtP H g o v:=by
 have e:∀o u,W.cell? ⟨g,o,none⟩=some u->H.cell? ⟨g,o,none⟩=some u:=λo u al=>by
  rw[aK.cell_far ⟨g,o,none⟩ ai (λc=>ix (aF g c.symm))];exact al
 exact⟨e _ _ t.c0,e _ _ t.c1⟩
theorem AR.add{W a7 bn aH base v}{Q d:List (List Nat)}{us}(F:W.ownsRow base 56 1 v k us)(h2:∀j,j<k->∃b n c,us[j]? =some (.slice b n c)/\Cl W (.slice b n c) (Q.getD j [])/\(0<n->∀p,b=some p->v.ownBlock≠some p.block))(q:Kept 0 0 W a7){o c x}(aj:Cl a7 (.slice b n c) x)(ag:0<n->∀p,b=some p->W.heap.size<=p.block){g}(bU:bn.ownsRow base 56 1 (h0 g (k+1) cap) (k+1) (us++[.slice b n c]))(aK:(a7.alloc o).grownBy bn v.ownBlock)(bw:v.ownBlock=some g\/g=(a7.alloc o).heap.size)(af:∀j,j<k->d.getD j []=Q.getD j [])(bg:d.getD k []=x)(an:Kept 0 0 aH W)(hb:aH.heap.size<=base):V (AR bn base (h0 g (k+1) cap) (k+1) d)/\V (Kept 0 0 aH bn):=
 ⟨AR.step (eN F q) (tF h2 q) aj (λak p aQ c=>i0 ((eG F c).2) (ag ak p aQ)) bU aK bw af bg,iK aK (λi hi=>(eG F hi).1) ((an.trans q).trans (eA 0 0 _ _)) hb⟩
theorem aW.qbm(h:Zp:=by
 have aD:V _:=f.keep aG;have au:V _:=s.keep aG;have HK:V _:=aG;clear aG h f s X hst en;go_enter func24,ntmps24;go_wp2_with fail;have d2:V (w.heap.size<(w.alloc (iE _ _ _ _ _ _ _ _ _ _)).heap.size):=T.o.sz;generalize w.alloc _=aH at T aD au HK d2⊢;go_loopw [5,6] (λu i W=>∃k:Nat,k<=ae/\i=h1 k/\V (AR W aH.heap.size u k (gl xss ss k))/\V (Kept 0 0 aH W)) (λ_ i _=>ae-(intOf i).toNat)
 case atStart=>exact⟨0,yae,rfl,AR.nil _ _ _,Kept.refl _ _ _⟩
 case round=>
  obtain⟨k,O,rfl,hP,aG⟩:=hrel;obtain⟨_,aP,ay,aB,bz⟩:=C0.keep T.o aG.o;by_cases hlt:k<ae
  ·have b0:=CS.keep aD.o aG.o;rcases b0.s.at_ with bP|⟨d,bL,bS,aR,bd,bu,bC⟩
   ·omega
   have bw:=bC k hlt;have dv:iA _ _ _ k=true:=List.all_eq_true.1 cw.o k (List.mem_range.2 hlt);have aK:fA ins _=true:=(vm bk dv).1;have er:V _:=(vm bk dv).2;have aj:=eA 0 0 wr (ss.getD k Ste.zero).box;have K:V _:=aj;have c7:V _:=cW.o k;obtain⟨us,bq,(cQ:V _)⟩:=hP.o;have d1:V (∀i,u5.ownBlock=some i->i<wr.heap.size):=λi hi=>(eG bq hi).2;have co:V _:=eN bq aj;have cX:V (RLr _ _ k _):=AR.rl hP.o;clear bq;by_cases b4:(ss.getD k Ste.zero).op=0
   ·have c6:V (gl xss ss (k+1)=gl xss ss k++[xss.getD (ss.getD k Ste.zero).a.toNat []]):=by
     show _=_;rw[gl];unfold doM;rw[h7 b4]
    obtain⟨x,ap,e7,ce⟩:=ve aK b4;have d5:=IG ch.o e7;have b8:=jV aK;rw[ce]at d5;rw[ap,Int.toNat_natCast]at c6;have ga:x<m:=ix Y.o
    clear aR bd bu bC b0 aj dv er e7 ce;generalize ss.getD k _=s at bw K co c6 b4 b8 d5 ap c7;obtain⟨op,len,nn,fu,aX,fq,fs,gu⟩:=s;simp only at b4 b8 d5 ap c7;subst b4;subst ap;rcases (SS.keep au.o (Kept.trans aG.o K.o)).at_ with bP|⟨aa,aZ,ck,aJ,y2⟩
    ·omega
    obtain⟨U,cN,b5,a0,b9⟩:=y2 x ga;rcases b9.at_ with bP|⟨Q,cV,bv,bB,bG,b3,cu⟩
    ·omega
    have bf:V _:=O7 _ _ _ _ cN _ xaa xaa rfl b9.lt cu;subst bS ck bv;clear aJ y2 a0 b9 bB bG b3 cu;generalize xss.getD x _=ys at b5 bf c6 d5;obtain⟨cU,ey⟩:∃cU,cU=ys.length:=⟨_,rfl⟩
    rw[<-ey]at b5 bf d5;have av:V (cU=ys.length/\1<=cU/\cU<=1000):=⟨ey,by omega,by omega⟩
    clear d5 ey b8;obtain⟨bR,aM,bi,aI,r,aC,a7,bT⟩:=bw;simp only at bR aM bi aI r aC a7 bT;obtain⟨bl,aS,a9,bV,cj,cC,dT,da⟩:=jD wr (Ste.mk 0 len nn fu x fq fs gu);simp only[Nat.zero_add]at bl aS a9 bV cj cC dT da;have ds:(0:Int)<=x:=xaa;have gr:(x:Int)<m:=xaa;go_wp2_with fail;refine yaj bf.o ?_;rintro e bD ⟨G,cap,rfl,bZ,d9,cR,a5⟩;have bq:=eN co.o a5;have d6:aH.heap.size<=bD.heap.size:=(Kept.trans aG.o (Kept.trans K.o a5)).size;clear bf b5 bR aM bi aI r aC a7 bT bl aS a9 bV cj cC dT da aP ay aB bz;go_wp2_with (first|(at_builtin;refine wpList_append_lies _ rfl _ _ _ rfl _ 56 _ _ 1 _ underlying30 hi hz0 hz1 hz2 rfl xab _ _ _ rfl (bq.alloc _) _ 1 1 [h0 G cU cap] rfl rfl ?c1 ?c2 xab ?c3 ?c4 ?c5 _ rfl ?_))
    case c1=>exact cell_one_new _ _ _
    case c2=>intro u a6;simp at a6;subst a6;rfl
    case c3=>unfold maxLen;omega
    case c4=>omega
    case c5=>simp;omega
    intro g9 cap9 bn bU bK bO _;obtain⟨R1,R2⟩:=AR.add co.o (tF cQ.o K.o) a5 ⟨_,_,_,_,rfl,bZ,d9.fs,rfl⟩ (λ_ p aQ=>by cases aQ;exact cR) bU bK (by simpa using bO) (λj hj=>mW _ _ hj) (by rw[c6.o];exact uW (jH _ _ _)) (aG.o.trans K.o) yad;clear bU bK bO bq a5 d9 cQ co K hP aG;exact xew
   have c6:V (gl xss ss (k+1)=gl xss ss k++[jN (ss.getD k Ste.zero).op (ss.getD k Ste.zero).len (ss.getD k Ste.zero).c (ss.getD k Ste.zero).k ((opR ss (gl xss ss k) k (ss.getD k Ste.zero)).getD 0 []) ((opR ss (gl xss ss k) k (ss.getD k Ste.zero)).getD 1 []) ((opR ss (gl xss ss k) k (ss.getD k Ste.zero)).getD 2 [])]):=by
    show _=_;rw[gl,Mk b4]
   have cK:=tE aK;have et:V _:=Pv (ss:=ss) (HR.o k) k (ss.getD k Ste.zero);have ca:V (∀q,q<3->(opR _ _ k _).getD q _=if q<cnt _ then i7 _ _ k _ _ else[]):=λq aA=>IX ss (gl xss ss k) k (ss.getD k Ste.zero) aA;clear aR bd bu bC aj dv aK;generalize ss.getD k _=s at bw K co c6 b4 cK er c7 et ca;generalize f6:opR _ _ k s=eP at c6 et ca;clear f6;subst bS;obtain⟨am,ea⟩:∃am,am=wr:=⟨_,rfl⟩
   subst ea;have y:V (RB2 _ _ _ _ _ _ _ s):=⟨(C0.keep T.o aG.o).keep K.o,jD _ s,by simp⟩
   obtain⟨bR,aM,bi,aI,r,aC,a7,bT⟩:=bw;obtain⟨⟨_,bl,aS,a9,bV⟩,⟨aY,ar,aW,bJ,cB,cy,cI,cP⟩,_⟩:=y.o;simp only[Nat.zero_add]at ar aW bJ cB cy cI cP;have hf:(s.op==0)=false:=yan b4;clear b4;go_wp2_with fail;clear bR aM bi aI r aC a7 bT aP ay aB bz bl aS a9 bV aY ar aW bJ cB cy cI cP hf;have eq:V _:=(⟨_,co.o,tF cQ.o K.o⟩:AR _ _ _ k _)
   have aO:V _:=Kept.trans aG.o K.o;have aV:V _:=(b0.keep K.o).s;have eS:V (RLr _ _ k _):=RLr.keep cX.o K.o;have ev:V (am.heap.size<(am.alloc s.box).heap.size):=by show _<_;simp
   clear K co cQ aG b0 cX;generalize am.alloc _=aU at y eq aO aV eS ev⊢;go_loopw [8,9] (λa i W=>∃q:Nat,q<=3/\i=h1 q/\V (AR W aU.heap.size a q eP)/\V (Kept 0 0 aU W)) (λ_ i _=>3-(intOf i).toNat)
   case atStart=>exact⟨0,yae,rfl,AR.nil _ _ _,Kept.refl _ _ _⟩
   case round=>
    obtain⟨q,aA,rfl,be,g⟩:=hrel;have v:V _:=y.o.keep g.o;obtain⟨⟨_,bl,aS,a9,bV⟩,⟨aY,ar,aW,bJ,cB,cy,cI,cP⟩,_⟩:=v.o;simp only[Nat.zero_add]at ar aW bJ cB cy cI cP;have HO:V _:=qH _ wr cK.1 cK.2;rw[F2 cK.1 cK.2]at HO;have cA:=gK s.op;by_cases cD:q<3
    ·obtain⟨ao,cO,eB⟩:=be.o;by_cases F:q<cnt s.op
     ·obtain⟨o,mm,ho,bp,cG,c8,di⟩:=er.o q F;have tq:q<(cnt s.op:Int):=xaa
      have cg:V _:=λw=>by
       have:=yw w s q cD
       rw[ho]at this
       exact this
      have cx:V _:=λw=>by
       have:=Hq w s q cD
       rw[bp]at this
       exact this
      have eu:V _:=λB cT=>
       (Iv B _ _ a1 _ a3 Z c1 _ c2 ab c3 aL _ _ _ (aV.o.keep (Kept.trans g.o cT) yaa) k (RLr.keep eS.o (Kept.trans g.o cT)) O xaa (cM.o k O) (b2.o k O) o _ cG c8 di).mono λe cJ bx=>bx.cn
      have HE:V (eP.getD q []=i7 ss (gl xss ss k) k (o:Int) (mm:Int)):=by
       show _=_;rw[ca.o q cD,h7 F,ho,bp]
      have d6:aU.heap.size<=wr.heap.size:=g.o.size;clear ho bp;go_wp2_with (first|(go_at_call 19;refine yaj HO.o ?_;rintro e bA ⟨rfl,rfl⟩)|fail)
      go_region_held3 (λB=>B.cell? ⟨w.heap.size,0,none⟩=some (.slice a1 Z c1)/\B.cell? ⟨w.heap.size,1,none⟩=some (.slice (some ⟨d,bL,none⟩) ae c2)/\B.cell? ⟨w.heap.size,2,none⟩=some (.slice a3 ab c3)/\B.cell? ⟨w.heap.size,3,none⟩=some (h1 aL)/\B.cell? ⟨am.heap.size,0,none⟩=some (h1 s.op)/\B.cell? ⟨am.heap.size,1,none⟩=some (h1 s.len)/\B.cell? ⟨am.heap.size,2,none⟩=some (h1 s.n)/\B.cell? ⟨am.heap.size,3,none⟩=some (h1 s.dst)/\B.cell? ⟨am.heap.size,4,none⟩=some (h1 s.a)/\B.cell? ⟨am.heap.size,5,none⟩=some (h1 s.b)/\B.cell? ⟨am.heap.size,6,none⟩=some (h1 s.c)/\B.cell? ⟨am.heap.size,7,none⟩=some (.float .f64 s.k)) (go_keep)
       (first
        |(refine step_append_lies _ rfl _ _ _ rfl _ 56 _ _ 1 _ underlying30 hi hz0 hz1 hz2 rfl xab _ _ _ (by simp[Act.eval]) ((eN cO l).alloc _) _ 1 1 _ (by simp[Act.eval]) rfl (cell_one_new _ _ _) (by intro u a6;simp at a6;subst a6;rfl) xab (by unfold maxLen;omega) xaa (by have:=l.size;simp;omega) _ rfl ?_;intro g9 cap9 bn bU bK bO _;have ex:=(RB2.keep v.o (l.trans (eA 0 0 _ _))).grown bK (λi hi=>(eG cO hi).1) (i0 d2.o aO.o.size) ev.o;obtain⟨⟨_,hR,hS,hT,hU⟩,⟨hV,g5,g6,g8,ha,hc,hd,he⟩,_⟩:=ex;simp only[Nat.zero_add]at g5 g6 g8 ha hc hd he)
        |(go_at_call 50;refine yaj (eu.o _ ej) ?_;rintro e cn ⟨u6,rfl,⟨bX,ep,cd,hk,rfl,aJ,y2,y3⟩,bY⟩;have l:=Kept.trans ej bY;have d4:=RB2.keep v.o l;obtain⟨⟨_,hF,hG,hI,hJ⟩,⟨hK,gR,gT,g0,g1,g2,g3,g4⟩,_⟩:=d4;simp only[Nat.zero_add]at gR gT g0 g1 g2 g3 g4)
        |(go_at_call 21;refine yaj (cx.o _) ?_;rintro e bD ⟨rfl,a2⟩;have ej:=Kept.trans fa a2;have cS:=RB2.keep v.o ej;obtain⟨⟨_,hy,hz,hA,hB⟩,⟨hC,gv,gw,gx,gz,gA,gB,gC⟩,_⟩:=cS;simp only[Nat.zero_add]at gv gw gx gz gA gB gC)
        |(go_at_call 20;refine yaj (cg.o _) ?_;rintro e bA ⟨rfl,bW⟩;have fa:=Kept.trans (eH 0 0 _ 1) bW;have f5:=RB2.keep v.o fa;obtain⟨⟨_,hp,hq,hr,hs⟩,⟨hu,gb,gc,gd,gf,gg,gp,gs⟩,_⟩:=f5;simp only[Nat.zero_add]at gb gc gd gf gg gp gs))
      all_goals
       obtain⟨R1,R2⟩:=AR.add cO eB l (Cn.cl ⟨_,_,_,_,rfl,aJ,y2,y3⟩) (λak p aQ=>yao ej.size (Cn.ge ⟨_,_,_,_,rfl,aJ,y2,y3⟩ ak p aQ)) bU bK (by simpa using bO) (λ_ _=>rfl) HE.o g.o yad
       clear bU bK bO
       go_wp2
       go_roundw;exact⟨q+1,by omega,by go_num,R1,R2⟩;simp[intOf];omega
     have tq:¬(q<(cnt s.op:Int)):=xaa
     have HE:V (eP.getD q []=[]):=by
      show _=_;rw[ca.o q cD,h6 F]
     have d6:aU.heap.size<=wr.heap.size:=g.o.size;go_wp2_with (first|(go_at_call 19;refine yaj HO.o ?_;rintro e bA ⟨rfl,rfl⟩)|(at_builtin;refine wpList_append_lies _ rfl _ _ _ rfl _ 56 _ _ 1 _ underlying30 hi hz0 hz1 hz2 rfl xab _ _ _ rfl (cO.alloc _) _ 1 1 [.slice none 0 0] rfl rfl ?c1 ?c2 xab ?c3 ?c4 ?c5 _ rfl ?_))
     case c1=>exact cell_one_new _ _ _
     case c2=>intro u a6;simp at a6;subst a6;rfl
     case c3=>unfold maxLen;omega
     case c4=>omega
     case c5=>simp;omega
     intro g9 cap9 bn bU bK bO _;obtain⟨R1,R2⟩:=AR.add cO eB iv (Cl.nil _) (λag=>absurd ag (Nat.lt_irrefl _)) bU bK (by simpa using bO) (λj hj=>rfl) HE.o g.o yad;clear bU bK bO eB cO be g aY ar aW bJ cB cy cI cP bl aS a9 bV HO;go_wp2;go_roundw;exact⟨q+1,by omega,by go_num,R1,R2⟩;simp[intOf];omega
    obtain rfl:q=3:=xaa;obtain⟨dc,hl,fv,dg,ek,d3⟩:=AR.cell be.o xaa;obtain⟨bF,bh,bH,az,bN,_⟩:=d3 0 xaa;obtain⟨bB,aJ,bk,b5,f1,_⟩:=d3 1 xaa;obtain⟨bG,y2,p2,a0,f2,_⟩:=d3 2 xaa;have bj:=eA 0 0 wr (fW s.op s.len 0 0 s.c s.k);have HE:V (∀B,Kept 0 0 _ _->Calls _ _ #[lK s.op s.len 0 0 s.c s.k,.slice bF _ _,.slice bB _ _,.slice _ _ _] _ λe cJ=>∃u,e=.returned u/\Cn _ _ u (jN s.op s.len s.c s.k _ _ _)/\Kept 0 0 _ _):=λB cT=>zR B ⟨_,_,0,0,_,_⟩ c7.o _ _ _ _ _ _ (bN.keep cT) (f1.keep cT) (f2.keep cT) et.o;obtain⟨hg,e5,e6⟩:=AR.keep eq.o g.o;have fm:V _:=e6;have eR:V _:=Kept.trans aO.o g.o;have e9:aH.heap.size<=wr.heap.size:=eR.o.size;have fl:V _:=d1.o;subst fv
    have ee:V (NC (wr.alloc (fW s.op s.len 0 0 s.c s.k)) wr.heap.size dc ⟨s.op,s.len,0,0,s.c,s.k⟩ (.slice bF bh bH) (.slice bB aJ bk) (.slice bG y2 p2)):=by
     obtain⟨aw,ba,bb,bc,bo,aF⟩:=mf wr ⟨s.op,s.len,0,0,s.c,s.k⟩;exact⟨aw,ba,bb,bc,bo,aF,iI bj ek az,iI bj ek b5,iI bj ek a0⟩
    have d7:V (aU.heap.size<=dc/\dc<wr.heap.size/\am.heap.size<aU.heap.size):=⟨dg,ek,ev.o⟩
    have t:V (wr.heap.size<(wr.alloc (fW s.op s.len 0 0 s.c s.k)).heap.size):=by show _<_;simp
    have ai:V _:=bj;clear d3 dg bN f1 f2 e6 be HO eq bj;have f7:=ee.o;obtain⟨fG,e0,ew,e1,e2,e3,fM,fP,f0⟩:=f7;simp only[Nat.zero_add]at e0 ew e1 e2 e3;go_wp2_with fail;clear aY ar aW bJ cB cy cI cP bl aS a9 bV az b5 a0;generalize wr.alloc _=bA at ee t ai fG e0 ew e1 e2 e3 fM fP f0⊢
    go_region_held3 (λB=>B.cell? ⟨wr.heap.size,0,none⟩=some (h1 s.op)/\B.cell? ⟨wr.heap.size,1,none⟩=some (h1 s.len)/\B.cell? ⟨wr.heap.size,2,none⟩=some (h1 0)/\B.cell? ⟨wr.heap.size,3,none⟩=some (h1 0)/\B.cell? ⟨wr.heap.size,4,none⟩=some (h1 s.c)/\B.cell? ⟨wr.heap.size,5,none⟩=some (.float .f64 s.k)/\B.cell? ⟨dc,0,none⟩=some (.slice bF bh bH)/\B.cell? ⟨dc,1,none⟩=some (.slice bB aJ bk)/\B.cell? ⟨dc,2,none⟩=some (.slice bG y2 p2)) (go_keep)
     (first
      |(go_at_call 51;refine yaj (HE.o _ (Kept.trans ai.o (eH 0 0 _ 1))) ?_;rintro e bD ⟨u,rfl,⟨ct,cl,c5,hX,rfl,cq,cc,ds⟩,a2⟩;have dd:=NC.keep ee.o (Kept.trans (eH 0 0 _ 1) a2) t.o (i0 d7.o t.o);obtain⟨bE,bm,ad,c9,eb,ec,ef,eg,hn⟩:=dd;simp only[Nat.zero_add]at bm ad c9 eb ec)
      |(refine step_append_lies _ rfl _ _ _ rfl _ 56 _ _ 1 _ underlying30 hi hz0 hz1 hz2 rfl xab _ _ _ (by simp[Act.eval]) ((eN e5 (Kept.trans ai.o (Kept.trans (eH 0 0 _ 1) a2))).alloc _) _ 1 1 _ (by simp[Act.eval]) rfl (cell_one_new _ _ _) (by intro u a6;simp at a6;subst a6;rfl) xab (by unfold maxLen;omega) xaa (by have:=a2.size;have:=ai.o.size;simp at*;omega) _ rfl ?_;intro g9 cap9 bn bU bK bO _;have an:=NC.far (NC.keep ee.o ((Kept.trans (eH 0 0 _ 1) a2).trans (eA 0 0 _ _)) t.o (i0 d7.o t.o)) bK fl.o (ix d7.o) (ix d7.o) (by have:=a2.size;have:=t.o;simp at*;omega) (by have:=a2.size;have:=d7.o;have:=t.o;simp at*;omega);obtain⟨bQ,b6,cf,b7,ed,fc,hv,hw,hx⟩:=an;simp only[Nat.zero_add]at b6 cf b7 ed fc))
    all_goals
     obtain⟨R1,R2⟩:=AR.add e5 fm.o (Kept.trans ai.o (Kept.trans (eH 0 0 _ 1) a2)) (Cn.cl ⟨_,_,_,_,rfl,cq,cc,ds⟩) (λak p aQ=>yao ai.o.size (Cn.ge (lo:=(bA.drewN 1).heap.size) ⟨_,_,_,_,rfl,cq,cc,ds⟩ ak p aQ)) bU bK (by simpa using bO) (λj hj=>mW _ _ hj) (by rw[c6.o];exact uW (jH _ _ _)) eR.o yad
     clear bU bK bO
     go_wp2
     go_roundw;exact⟨k+1,by omega,by go_num,R1,R2⟩;simp[intOf];omega
  obtain rfl:k=ae:=xaa;obtain⟨bD,eL⟩:∃bD,bD=wr:=⟨_,rfl⟩
  subst eL;have fj:V (RLr _ _ k _):=AR.rl hP.o;have cp:V _:=aG.o;have cz:V _:=CS.keep aD.o aG.o;have C:V _:=C0.keep T.o aG.o;have eT:V _:=yak d2.o aG.o.size;clear hP aG;go_wp2_with fail;clear aP ay aB bz;go_loopw [11,12] (λu i W=>∃j:Nat,j<=ab/\i=h1 j/\V (AR W bD.heap.size u j (pI xss ss a8))/\V (Kept 0 0 bD W)) (λ_ i _=>ab-(intOf i).toNat)
  case atStart=>exact⟨0,yae,rfl,AR.nil _ _ _,Kept.refl _ _ _⟩
  case round=>
   obtain⟨j,hj,rfl,hP,aG⟩:=hrel;have v:V _:=C0.keep C.o aG.o;obtain⟨_,aP,ay,aB,bz⟩:=v.o;by_cases cr:j<ab
   ·rcases (CS.keep cz.o aG.o).o.at_ with bP|⟨d,bL,bS,aR,bd,bu,bC⟩
    ·omega
    have bw:=bC j cr;obtain⟨N,bI⟩:=Int.eq_ofNat_of_zero_le bH;obtain⟨o,mm,ho,cG,c8,f8⟩:=vf (N:=N) (i2 bI d0.o) (i1 ah cr);have di:o<=60000:=xaa;clear bI f8
    have HE:V ((pI xss ss a8).getD j []=i7 ss (gl xss ss k) k o mm):=by
     show _=_;have e:a8.getD j Spn.zero=a8[j]'xaa:=by rw[yai,yam xaa];rfl
     unfold pI;rw[yai,List.getElem?_map,yam xaa];simp only[Option.map_some,Option.getD_some];rw[<-e,ho,bg]
    rw[ho]at bw
    have eu:V _:=λB cT=>
     (Iv B _ _ a1 _ a3 Z c1 k c2 ab c3 aL _ _ _ (cz.o.s.keep (Kept.trans aG.o cT) yaa) k (RLr.keep fj.o (Kept.trans aG.o cT)) yad xaa (cM.o k yad) (b2.o k yad) o _ cG c8 di).mono λe cJ bx=>bx.cn
    obtain⟨us,bq,br⟩:=hP.o;have cQ:V _:=br;have al:V _:=bw;have ax:V (d<wr.heap.size/\w.heap.size<bD.heap.size/\bD.heap.size<=wr.heap.size):=⟨bu,eT.o,aG.o.size⟩
    have ff:V (d<bD.heap.size):=by
     rcases cz.o.o.at_ with bP|⟨hm,hW,fz,_,_,hh,_⟩
     ·omega
     rw[fz]at bS;cases bS;exact hh
    subst bS;obtain⟨bR,aM⟩:=bw;have cq:(0:Int)<=j:=xaa;have cc:(j:Int)<ab:=xaa;have d6:bD.heap.size<=wr.heap.size:=aG.o.size;clear aR bd bu bC ho br;go_wp2_with fail
    go_region_held3 (λB=>B.cell? ⟨w.heap.size,0,none⟩=some (.slice a1 Z c1)/\B.cell? ⟨w.heap.size,1,none⟩=some (.slice J k c2)/\B.cell? ⟨w.heap.size,2,none⟩=some (.slice (some ⟨d,bL,none⟩) ab c3)/\B.cell? ⟨w.heap.size,3,none⟩=some (h1 aL)/\B.cell? ⟨d,bL+j*2,none⟩=some (h1 o)/\B.cell? ⟨d,bL+j*2+1,none⟩=some (h1 mm)) (go_keep)
     (first
      |(refine step_append_lies _ rfl _ _ _ rfl _ 56 _ _ 1 _ underlying30 hi hz0 hz1 hz2 rfl xab _ _ _ (by simp[Act.eval]) ((eN bq l).alloc _) _ 1 1 _ (by simp[Act.eval]) rfl (cell_one_new _ _ _) (by intro u a6;simp at a6;subst a6;rfl) xab (by unfold maxLen;omega) xaa (by have:=l.size;simp;omega) _ rfl ?_;intro g9 cap9 bn bU bK bO _;have ex:=(C0.keep v.o (l.trans (eA 0 0 _ _))).grown bK (λi hi=>(eG bq hi).1) eT.o;obtain⟨_,ci,hL,hM,hN⟩:=ex;have f4:=(AtP.keep al.o ax.o.1 (l.trans (eA 0 0 _ _)) yaa).grown bK (by have:=l.size;have:=ax.o;simp;omega) (λi hi=>(eG bq hi).1) ff.o;obtain⟨hO,hQ⟩:=f4)
      |(go_at_call 50;refine yaj (eu.o _ (eH 0 0 _ 1)) ?_;rintro e cn ⟨u6,rfl,⟨bX,ep,cd,hk,rfl,aJ,y2,y3⟩,bY⟩;have l:=Kept.trans (eH 0 0 _ 1) bY;obtain⟨_,cF,el,gE,gP⟩:=C0.keep v.o l;obtain⟨hD,hE⟩:=AtP.keep al.o ax.o.1 l yaa))
    all_goals
     obtain⟨R1,R2⟩:=AR.add bq cQ.o l (Cn.cl ⟨_,_,_,_,rfl,aJ,y2,y3⟩) (λak p aQ=>Cn.ge (lo:=(wr.drewN 1).heap.size) ⟨_,_,_,_,rfl,aJ,y2,y3⟩ ak p aQ) bU bK (by simpa using bO) (λ_ _=>rfl) HE.o aG.o yad
     clear bU bK bO
     go_wp2
     go_roundw;exact⟨j+1,by omega,by go_num,R1,R2⟩;simp[intOf];omega
   obtain rfl:j=ab:=xaa;obtain⟨a,cap,cH,rfl,(R1:V _),(R2:V _)⟩:=AR.ss hP.o;have R3:V _:=Kept.trans HK.o (Kept.trans cp.o aG.o);clear hP aG;go_wp2;go_ret;exact⟨a,_,_,rfl,R1.o,R2.o,R3.o⟩):Zp:=h
open aW in
theorem QT(w a1 J a3 b Z c1 ae c2 ab c3 m cb aL ins ss a8 xss)(f:CS w a1 Z J ae a3 ab ins ss a8)(s:SS w b m xss)(X:jd xss)(h:iG ins ss a8 aL=true)(h2:inB ins xss=true):
  Calls prog 24 #[iQ a1 Z c1 J ae c2 a3 ab c3 aL,.slice b m cb] w λe B=>∃a cap z,e=.returned (.slice a ab cap)/\SS B a ab z/\(∀j,j<ab->fS (z.getD j []) ((pI xss ss a8).getD j []))/\Kept 0 0 w B:=by
 obtain⟨b1,hi,hz0,hz1,hz2⟩:=info_parts GH;have aN:=h;unfold iG at aN;simp only[Bool.and_eq_true]at aN;obtain⟨⟨ez,hst⟩,en⟩:=aN;unfold kV at ez;simp only[Bool.and_eq_true,decide_eq_true_eq]at ez;obtain⟨⟨⟨⟨b6,cf⟩,b7⟩,_⟩,bH,bk⟩:=ez;have af:=f.i.len;have bg:=f.s.len;have ah:=f.o.len;rw[af]at b6;rw[bg]at cf hst;rw[ah]at b7;have cw:V _:=hst;have d0:V _:=en;have cW:V _:=λk=>qG f.s.lt k;have HR:V _:=λk=>uV X (λk=>qG f.s.lt k) k;have ch:V _:=h2;have cM:V (∀k,k<=ae->Lie _ k):=λk O=>BV bk (show(List.range k).all _=true from List.all_eq_true.2 λj hj=>List.all_eq_true.1 hst j (List.mem_range.2 (ix (List.mem_range.1 hj))));have b2:V (∀k,k<=ae->LM _ _ k):=λk O=>IY h2 (show(List.range k).all _=true from List.all_eq_true.2 λj hj=>List.all_eq_true.1 hst j (List.mem_range.2 (ix (List.mem_range.1 hj))))
 have Y:V (m=Z):=by
  have:=h2;unfold inB at this;simp only[Bool.and_eq_true,decide_eq_true_eq,af,s.len]at this;exact this.1
 exact qbl
theorem AV(w a1 J a3 b Z c1 ae c2 ab c3 m cb aL ins ss a8)(f:CS w a1 Z J ae a3 ab ins ss a8)(h:iG ins ss a8 aL=false):
  Calls prog 6 #[iQ a1 Z c1 J ae c2 a3 ab c3 aL,.slice b m cb] w λe B=>e=.returned (.tuple #[.slice none 0 0,h1 0,h1 1])/\Kept 0 0 w B:=by
 have aG:=eA 0 0 w (iE a1 Z c1 J ae c2 a3 ab c3 aL);have HX:V _:=yG _ _ _ _ _ c1 _ c2 _ c3 aL _ _ _ (f.keep aG);rw[h]at HX;have HK:V _:=aG;clear aG h f;go_enter func6,ntmps6;go_wp2_with fail;refine yaj HX.o ?_;rintro e am ⟨rfl,av⟩;go_wp2;go_ret3
 exact⟨rfl,Kept.trans HK.o av⟩
theorem B5(w a1 J a3 b Z c1 ae c2 ab c3 m cb aL ins ss a8 xss)(f:CS w a1 Z J ae a3 ab ins ss a8)(s:SS w b m xss)(X:jd xss)(h:iG ins ss a8 aL=true)(h2:inB ins xss=true)(ag:Z<=1048576):
  Calls prog 6 #[iQ a1 Z c1 J ae c2 a3 ab c3 aL,.slice b m cb] w λe B=>∃a cap z,e=.returned (.tuple #[.slice a ab cap,h1 ae,h1 0])/\SS B a ab z/\(∀j,j<ab->fS (z.getD j []) ((pI xss ss a8).getD j []))/\Kept 0 0 w B:=by
 have aG:=eA 0 0 w (iE a1 Z c1 J ae c2 a3 ab c3 aL);have HX:V _:=yG _ _ _ _ _ c1 _ c2 _ c3 aL _ _ _ (f.keep aG);have bX:V _:=h;rw[h]at HX;have T:V _:=iX w (.slice a1 Z c1) (.slice J ae c2) (.slice a3 ab c3) (h1 aL);have aD:V _:=f.keep aG;have au:V _:=s.keep aG;have HK:V _:=aG;have bE:V _:=X;clear aG h f s X;go_enter func6,ntmps6;go_wp2_with fail;refine yaj HX.o ?_;rintro e am ⟨rfl,av⟩;obtain⟨_,aP,ay,aB,bz⟩:=C0.keep T.o av;have aX:V _:=O6 _ _ _ _ b _ m c1 cb _ _ (CS.keep aD.o av).i (SS.keep au.o av) xaa;rw[h2]at aX;have bQ:V _:=av;clear av HX;go_wp2_with fail;clear aP ay aB bz;refine yaj aX.o ?_;rintro e aU ⟨rfl,aI⟩;have aZ:=Kept.trans bQ.o (aI.kept 0 0);have v:V _:=C0.keep T.o aZ;obtain⟨_,aP,ay,aB,bz⟩:=v.o
 have HR:V (∀n,Calls _ _ _ _ λe B=>∃a cap z,e=.returned _/\SS _ a _ z/\(∀j,j<ab->fS (z.getD j _) _)/\Kept 0 0 _ _):=λn=>
  (QT _ _ _ _ b _ c1 _ c2 _ c3 m cb _ _ _ _ _ (CS.keep aD.o (Kept.trans aZ (eH 0 0 _ n))) (SS.keep au.o (Kept.trans aZ (eH 0 0 _ n))) bE.o bX.o h2).mono λe B ⟨a,cap,z,aq,aT,b8,bT⟩=>⟨a,cap,_,aq,aT,b8,Kept.trans (eH 0 0 _ n) bT⟩
 have aO:V _:=Kept.trans HK.o aZ;clear aI aZ aX bQ aD au bE;go_wp2_with fail
 go_region_held3 (λB=>B.cell? ⟨w.heap.size,0,none⟩=some (.slice a1 Z c1)/\B.cell? ⟨w.heap.size,1,none⟩=some (.slice J ae c2)/\B.cell? ⟨w.heap.size,2,none⟩=some (.slice a3 ab c3)/\B.cell? ⟨w.heap.size,3,none⟩=some (h1 aL)) (go_keep)
  (first|(go_at_call 24;refine yaj (HR.o 1) ?_;rintro e bD ⟨a,cap,z,rfl,aq,aT,b8⟩;obtain⟨_,cF,el,gE,gP⟩:=C0.keep v.o b8))
 all_goals
  go_wp2
  go_ret3
  exact⟨a,_,_,rfl,aq,aT,Kept.trans aO.o b8⟩
def WnC(ys:List Int)(T:CT)(wss:List (List Nat)):Prop:=
 ∃xss,∃us:List Ste,(jd xss/\∀j,fS (xss.getD j []) ((inN ys T.1).getD j []))/\us.map csS=T.2.1.map csS/\(∀s∈us,s.k<18446744073709551616)/\∀j,j<T.2.2.1.length->fS (wss.getD j []) ((pI xss us T.2.2.1).getD j [])
theorem Da{T e f}(az:WnC ys T e)(hb:WnC ys T f){j}(hj:j<T.2.2.1.length):fS (e.getD j []) (f.getD j []):=by
 obtain⟨x,us,⟨bb,g⟩,t,aA,ar⟩:=az;obtain⟨y,vs,⟨d,aT⟩,m,bX,b0⟩:=hb;grind[mg,Qz,DU,qG]
theorem Pw{w ak}(h:SS w ak n xss/\jd xss/\inB ins xss=true/\∀j,fS (xss.getD j []) ((inN ys ins).getD j []))(k:Kept 0 0 w B):SS B ak n xss/\jd xss/\inB ins xss=true/\∀j,fS (xss.getD j []) ((inN ys ins).getD j []):=⟨h.1.keep k,h.2⟩
def RcO(w:World)(ys:List Int)(T:CT)(v:Bool)(e:Ending)(w':World):Prop:=
 ∃wa wc wss,∃(N:Nat) (St Cd:Int),e=.returned (.tuple #[.slice wa N wc,.int .i64 St,.int .i64 Cd])/\SS w' wa N wss/\(v=false->N=0/\St=0/\Cd=1)/\(v=true->N=T.2.2.1.length/\St=T.2.1.length/\Cd=0/\WnC ys T wss/\∀j,j<N->(wss.getD j []).length<=1000)/\Kept 0 0 w w'
section
variable{w:World}{a1 J a3 b:Option Addr}{Z c1 ae c2 ab c3 m cb:Nat}{ys:List Int}{T:CT}{us:List Ste}{xss:List (List Nat)}{v:Bool}
theorem I0{e B}(h:e=.returned (.tuple #[.slice none 0 0,h1 0,h1 1])/\Kept 0 0 w B):RcO w ys T false e B:=⟨none,0,[],0,0,1,h.1,⟨rfl,.inl rfl⟩,λ_=>⟨rfl,rfl,rfl⟩,λh=>(by cases h),h.2⟩
theorem Mm{ss a8 aL}(h:a8.all (oe ss aL)=true){j}(hj:j<a8.length):((pI xss ss a8).getD j []).length<=1000:=by
 have e:(pI xss ss a8).getD j []=i7 ss (gl xss ss ss.length) ss.length (a8[j]).off (a8[j]).len:=by simp_all[pI]
 have aQ:=List.all_eq_true.1 h _ (List.getElem_mem hj);unfold oe at aQ;rw[Bool.and_eq_true]at aQ;have F:=of_decide_eq_true aQ.1;rw[e,lh];omega
theorem Nn(f:CS w a1 Z J ae a3 ab T.1 us T.2.2.1)(ai:us.map csS=T.2.1.map csS)(aA:∀s∈us,s.k<18446744073709551616)(aN:iG T.1 us T.2.2.1 T.2.2.2.1=true)(bH:SS w b m xss/\jd xss/\inB T.1 xss=true/\∀j,fS (xss.getD j []) ((inN ys T.1).getD j []))
  {a}{cap}{z}{e}{B} (aq:e=.returned (.tuple #[.slice a ab cap,h1 ae,h1 0])) (aT:SS B a ab z) (b8:∀j,j<ab->fS (z.getD j []) ((pI xss us T.2.2.1).getD j [])) (bT:Kept 0 0 w B):RcO w ys T true e B:=by
 have bk:us.length=T.2.1.length:=by simpa using congrArg List.length ai
 have ah:=f.o.len;refine⟨_,_,_,_,_,_,aq,aT,λh=>(by cases h),λ_=>⟨ah.symm,by rw[<-bk,f.s.len],rfl,⟨_,_,⟨bH.2.1,bH.2.2.2⟩,ai,aA,λj hj=>b8 j xaa⟩,λj hj=>?_⟩,bT⟩;have:=Mm (xss:=xss) (AQ aN).2.2 (j:=j) xaa;rw[jp (b8 j hj)];exact this
theorem I1(f:CS w a1 Z J ae a3 ab T.1 us T.2.2.1)(ai:us.map csS=T.2.1.map csS)(aA:∀s∈us,s.k<18446744073709551616)(aN:iG T.1 T.2.1 T.2.2.1 T.2.2.2.1=v)(ag:Z<=1048576)
  (bH:SS w b m xss/\jd xss/\inB T.1 xss=true/\∀j,fS (xss.getD j []) ((inN ys T.1).getD j [])):
  Calls prog 6 #[iQ a1 Z c1 J ae c2 a3 ab c3 T.2.2.2.1,.slice b m cb] w (RcO w ys T v):=by
 rw[<-qj ai]at aN;cases v
 ·exact(AV w _ _ _ b _ _ _ _ _ _ m _ _ _ _ _ f aN).mono λe B=>I0
 exact(B5 w _ _ _ b _ _ _ _ _ _ m _ _ _ _ _ _ f bH.1 bH.2.1 aN bH.2.2.1 ag).mono λe B ⟨_,_,_,aq,aT,b8,bT⟩=>Nn f ai aA aN bH aq aT b8 bT
theorem AW(f:CS w a1 Z J ae a3 ab T.1 us T.2.2.1)(ai:us.map csS=T.2.1.map csS)(aA:∀s∈us,s.k<18446744073709551616)(aN:iG T.1 T.2.1 T.2.2.1 T.2.2.2.1=v)
  (bH:SS w b m xss/\jd xss/\inB T.1 xss=true/\∀j,fS (xss.getD j []) ((inN ys T.1).getD j [])):
  Calls prog 9 #[iQ a1 Z c1 J ae c2 a3 ab c3 T.2.2.2.1,.slice b m cb] w (RcO w ys T v):=by
 rw[<-qj ai]at aN;cases v
 ·exact(AP w _ _ _ b _ _ _ _ _ _ m _ _ _ _ _ f aN).mono λe B=>I0
 exact(BZ w _ _ _ b _ _ _ _ _ _ m _ _ _ _ _ _ f bH.1 bH.2.1 aN bH.2.2.1).mono λe B ⟨_,_,_,_,aq,aT,b8,bT,F,aK⟩=>Nn f ai aA aN bH aq (OS.ss (cap:=ab) (.inr ⟨_,_,_,rfl,aT,b8,bT⟩)) F aK
end
theorem B6{w m cm}(h:YS w a n xs)(al:n<=cap)(bp:YS w b m ys)(ci:∃T:CT,CdOK T/\∀{w:World}{P n cap:Nat}{a:Option Addr},RdF w P a n cap (ni (xs.take 500) (ni (xs.take 500) 0)) (xs.take 500)->Calls prog 46 #[hZ P] w (CdT w P a n cap (xs.take 500) T)):
  Calls prog 3 #[.slice a n cap,.slice b m cm] w λe B=>e=.returned (.bool true)/\Kept 0 0 w B:=by
 by_cases ag:1048576<n
 ·have aY:1048576<(n:Int):=xaa;clear ag;exact xij
 have aY:¬1048576<(n:Int):=xaa;by_cases ao:1048576<m
 ·have co:1048576<(m:Int):=xaa;clear ao;exact xij
 have co:¬1048576<(m:Int):=xaa;obtain⟨T,⟨aS,a9,bV,cj⟩,bx⟩:=Mj (xs:=xs) (λi=>nvb (λx ap=>h.lt x (List.mem_of_mem_take ap)) i) ci;have HD:V (∀W,Kept 0 0 w W->Calls prog 4 #[.slice a n cap] W (CvO W T)):=λW k=>bx (h.keep k) al
 have aC:T.1.all lenB=true:=List.all_eq_true.2 λx ap=>by
  obtain⟨j,hj,rfl⟩:=List.getElem_of_mem ap
  have:=cj j hj
  rw[yai,yam hj]at this
  exact iV this.1 this.2
 obtain⟨v,(bX:V _)⟩:∃v,iG T.1 T.2.1 T.2.2.1 T.2.2.2.1=v:=⟨_,rfl⟩
 have ch:V (∀W c1 a1,Kept 0 0 w W->IS W 0 W.heap.size a1 T.1.length T.1->Calls prog 7 #[.slice a1 T.1.length c1,.slice b m cm,.bool true] W (InO W ys T.1)):=λW c1 a1 k f=>LO f (bp.keep k) xaa aS aC;have aQ:V (T.1.length<=20/\T.2.1.length<=2000/\T.2.2.1.length<=61):=⟨aS,a9,bV⟩
 clear bx h al bp ag ao aS a9 bV cj aC;go_enter func3,ntmps3;go_wp2_with fail;refine yaj (HD.o w iv) ?_;rintro e ax ⟨a1,Z,c1,J,ae,c2,a3,ab,c3,us,rfl,br,cs,aA,an⟩;have bk:us.length=T.2.1.length:=by simpa using congrArg List.length br
 obtain rfl:T.1.length=Z:=cs.i.len;obtain rfl:T.2.1.length=ae:=i2 bk cs.s.len
 obtain rfl:T.2.2.1.length=ab:=cs.o.len;have bj:=eA 0 0 ax (iE a1 T.1.length c1 J T.2.1.length c2 a3 T.2.2.1.length c3 T.2.2.2.1);have ar:V (∀W,Kept 0 0 (ax.alloc (iE a1 T.1.length c1 J T.2.1.length c2 a3 T.2.2.1.length c3 T.2.2.2.1)) W->CS W a1 T.1.length J T.2.1.length a3 T.2.2.1.length T.1 us T.2.2.1):=λW k=>(cs.keep bj).keep k
 have K:V (KB (ax.alloc (iE a1 T.1.length c1 J T.2.1.length c2 a3 T.2.2.1.length c3 T.2.2.2.1)) ax.heap.size (.slice a1 T.1.length c1) (.slice J T.2.1.length c2) (.slice a3 T.2.2.1.length c3) (h1 T.2.2.2.1)):=by
  refine⟨?_,?_,?_,?_,?_,?_,?_,?_,?_⟩<;>simp
 have bQ:V (Kept 0 0 w (ax.alloc (iE a1 T.1.length c1 J T.2.1.length c2 a3 T.2.2.1.length c3 T.2.2.2.1))):=an.trans bj;have bA:V (us.map csS=T.2.1.map csS):=wJ br;have cT:V (∀s∈us,s.k<18446744073709551616):=aA;clear br cs aA an bj bk;go_wp2_with fail;generalize ax.alloc (iE a1 T.1.length c1 J T.2.1.length c2 a3 T.2.2.1.length c3 T.2.2.2.1)=bo at ar K bQ⊢;generalize ax.heap.size=C at K⊢;refine yaj (yG bo a1 J a3 _ c1 _ c2 _ c3 T.2.2.2.1 T.1 us T.2.2.1 (ar.o _ (Kept.refl _ _ _))) ?_;rintro e aU ⟨rfl,aZ⟩;rw[qj bA.o,bX.o];have aO:V _:=aZ;clear aZ;obtain⟨_,aP,ay,aB,bz,_,_,_,_⟩:=K.o.keep aO.o;go_upto_region 5 with fail;go_cut [7,8,9] from 31 to 40 (λx y z bb=>∃aR wc aK,∃(N:Nat) (bT bO:Int),x=.slice aR N wc/\y=h1 bT/\z=h1 bO/\V (SS bb aR N aK/\(v=true->WnC ys T aK/\N=T.2.2.1.length))/\V (Kept 0 0 bo bb))
 case first=>
  go_region_with (first
   |(go_at_call 7;refine yaj (ch.o _ c1 a1 (bQ.o.trans (aO.o.trans (eF aU))) (ar.o _ (aO.o.trans (eF aU))).i) ?_;rintro e cc ⟨ak,b4,xss,rfl,bH,bW⟩;have b5:=aO.o.trans ((eF aU).trans bW);obtain⟨_,bq,aq,aT,b8,_,_,_,_⟩:=K.o.keep b5;have HR:V _:=I1 (c1:=c1) (c2:=c2) (c3:=c3) (cb:=b4) (ar.o cc b5) bA.o cT.o bX.o (ix aQ.o) bH;have a0:V _:=b5;clear bH bW b5)
   |(go_at_call 6;refine yaj HR.o ?_;rintro e ca ⟨aR,wc,aK,N,bT,bO,rfl,aw,_,h2,a2⟩;have u:V (SS ca aR N aK/\(v=true->WnC ys T aK/\N=T.2.2.1.length)):=⟨aw,λq=>⟨(h2 q).2.2.2.1,(h2 q).1⟩⟩;have cp:V _:=a0.o.trans a2;clear aw h2 a2))
  all_goals
   go_wp2_with fail
   go_meet
   exact⟨aR,wc,aK,N,bT,bO,rfl,rfl,rfl,u,cp⟩
 case rest=>
  obtain⟨aR,cQ,aK,N,bT,bO,rfl,rfl,rfl,u,cp⟩:=hcut;obtain⟨ca,bJ⟩:∃ca,ca=wc:=⟨_,rfl⟩
  subst bJ;clear aP ay aB bz aO;have ai:V _:=bQ.o.trans cp.o;obtain⟨_,aP,ay,aB,bz,_,_,_,_⟩:=K.o.keep cp.o;go_wp2_with fail;refine yaj (HD.o _ ai.o) ?_;rintro e a7 ⟨U,m1,aM,aV,bl,bi,aa,m3,aI,vs,rfl,av,bC,_,bY⟩;have bP:V _:=qY a7 U aV aa m1 aM bl bi m3 aI T.2.2.2.1 T.1 vs T.2.2.1 bC;rw[qj (wJ av),bX.o]at bP;have a6:V _:=cp.o.trans bY;have cH:V _:=u.o.1.keep bY;have cU:V _:=u.o.2;clear av bC bY aP ay aB bz u cp ai;go_wp2_with fail;refine yaj bP.o ?_;rintro e ca ⟨rfl,a2⟩;have cp:V _:=a6.o.trans a2;have ai:V _:=bQ.o.trans cp.o;have u:V _:=cH.o.keep a2;clear a2 a6 cH bP;have aj:V (Kept 0 0 ca ca.drew):=eF ca;obtain⟨_,aP,ay,aB,bz,_,_,_,_⟩:=K.o.keep cp.o;have cJ:(v !=v)=false:=by cases v<;>rfl
  go_upto_region 8 with fail;go_cut [10,11,12] from 46 to 56 (λx y z bb=>∃d Q az,∃(M:Nat) (t aG:Int),x=.slice d M Q/\y=h1 t/\z=h1 aG/\V (SS bb d M az)/\V (v=false->M=0/\t=0/\aG=1)/\V (v=true->M=T.2.2.1.length/\t=T.2.1.length/\aG=0/\WnC ys T az/\∀j,j<M->(az.getD j []).length<=1000)/\V (Kept 0 0 ca bb))
  case first=>
   go_region_with (first
    |(go_at_call 9;refine yaj (AW (ys:=ys) bf.o bI.o c7.o bX.o HX.o) ?_;rintro e ba ⟨d,Q,az,M,t,aG,rfl,(bv:V _),(dT:V _),(bh:V _),cl⟩;have aj:V _:=aj.o.trans cl;clear cl)
    |(go_at_call 4;refine yaj (HD.o _ (ai.o.trans aj.o)) ?_;rintro e a7 ⟨U,m1,aM,aV,bl,bi,aa,m3,aI,vs,rfl,av,bC,cN,bY⟩;have bf:V _:=bC;have bI:V (vs.map csS=T.2.1.map csS):=wJ av;have c7:V _:=cN;(try have HX:V _:=Pw HX.o bY);have aj:V _:=aj.o.trans bY;obtain⟨_,bq,_,_,_,_,_,_,_⟩:=K.o.keep (cp.o.trans aj.o);clear av bC cN bY)
    |(go_at_call 7;refine yaj (ch.o _ c1 a1 (ai.o.trans aj.o) (ar.o _ (cp.o.trans aj.o)).i) ?_;rintro e X ⟨ak,b4,xss,rfl,bK,a5⟩;have HX:V _:=bK;(try have bf:V _:=bf.o.keep a5);have aj:V _:=aj.o.trans a5;obtain⟨_,bq,_,_,_,_,_,_,_⟩:=K.o.keep (cp.o.trans aj.o);clear bK a5))
   all_goals
    go_wp2_with fail
    go_meet
    exact⟨d,Q,az,M,t,aG,rfl,rfl,rfl,bv,dT,bh,aj⟩
  case rest=>
   obtain⟨d,Q,az,M,t,aG,rfl,rfl,rfl,aJ,dT,bh,aH⟩:=hcut;clear cJ;rcases v with _|_
   ·obtain⟨rfl,rfl,rfl⟩:=dT.o rfl;have bn:V _:=ai.o.trans aH.o;clear aH aj aP ay aB bz;go_wp2_with fail;refine yaj (HD.o _ bn.o) ?_;rintro e am ⟨U,m1,aM,aV,bl,bi,aa,m3,aI,vs,rfl,av,bD,_,r⟩;have a8:V _:=yy am U aV aa m1 aM bl bi m3 aI T.2.2.2.1 T.1 vs T.2.2.1 bD (by rw[qj (wJ av),bX.o]);have ah:V _:=bn.o.trans r;clear av bD r;go_wp2_with fail;refine yaj a8.o ?_;rintro e b6 ⟨rfl,G⟩;have b9:V _:=ah.o.trans G;clear G a8;go_wp2_with fail;go_ret;exact⟨rfl,b9.o⟩
   obtain⟨rfl,rfl,rfl,bN,cz⟩:=bh.o rfl;have aJ:V (SS wc d T.2.2.1.length az/\WnC ys T az/\∀j,j<T.2.2.1.length->(az.getD j []).length<=1000):=⟨aJ.o,bN,cz⟩
   obtain⟨X,d4⟩:∃X,X=wc:=⟨_,rfl⟩
   subst d4;have bn:V _:=cp.o.trans aH.o;have cf:V _:=ai.o.trans aH.o;have cI:V _:=u.o.keep aH.o;clear aH aj aP ay aB bz u ai cp;go_wp2_with fail;refine yaj (HD.o _ cf.o) ?_;rintro e am ⟨U,m1,aM,aV,bl,bi,aa,m3,aI,vs,rfl,av,bD,cO,r⟩;have b2:iG T.1 vs T.2.2.1 T.2.2.2.1=true:=by rw[qj (wJ av),bX.o]
   have a8:V _:=sw am U aV aa m1 aM bl bi m3 aI T.2.2.2.1 T.1 vs T.2.2.1 bD b2;have ck:=LQ (CO b2);have cr:vs.length=T.2.1.length:=by simpa using congrArg List.length av
   have aW:V _:=λW a n c (h:YS W a n (mq T.1 vs T.2.2.1 T.2.2.2.1)) F h2=>ET W a n c T.1 vs T.2.2.1 T.2.2.2.1 h F h2 cO (by rw[qj (IA _)];exact b2) (LU (IA _));have bu:V ((vs.map csS).map csS=T.2.1.map csS):=(IA vs).trans (wJ av);simp only[cr]at aW;generalize mq T.1 vs T.2.2.1 T.2.2.2.1=bs at a8 ck aW;generalize vs.map csS=af at aW bu;have bw:V _:=ck;have ah:V _:=bn.o.trans r;have cB:V _:=cf.o.trans r;have cg:V _:=cI.o.keep r;have cu:V _:=aJ.o.1.keep r;clear av bD cO r b2 ck cr bn cf cI;go_wp2_with fail;refine yaj a8.o ?_;rintro e b6 ⟨cP,rfl,b0,G⟩;obtain⟨s,bg,Y,cK,bZ,aF,_⟩:=YB.dbo b0 bw.o G;injection Y with Y;subst Y;obtain⟨bm,ea⟩:=cU.o (by trivial);subst ea;have HE:V _:=uX b6 d aR T.2.2.1.length Q cQ az aK (cu.o.keep G) (cg.o.keep G) (λk O=>⟨Da aJ.o.2.1 bm O,ix (aJ.o.2.2 k O)⟩) (ix aQ.o);have cd:V _:=ah.o.trans G;have cy:V _:=cB.o.trans G;have bL:V _:=bm;have cD:V _:=cg.o.keep G;have bc:V _:=cK;have cq:V (bs.length<=bg/\bg<=9223372036854775807):=⟨bZ,aF⟩
   obtain⟨_,aP,ay,aB,bz,_,_,_,_⟩:=K.o.keep cd.o;clear b0 G cK bZ aF bm a8 ah cB cg cu aJ;go_wp2_with fail;refine yaj HE.o ?_;rintro e cx ⟨rfl,au⟩;have aW:V _:=aW.o cx s bs.length bg (bc.o.keep au) cq.o.1 cq.o.2;have cw:V _:=cd.o.trans au;have cA:V _:=cy.o.trans au;have cF:V _:=cD.o.keep au;clear au cd cy cD HE bc aP ay aB bz;go_wp2_with fail;refine yaj aW.o ?_;rintro e bU ⟨bB,f1,bG,f2,b3,f3,rfl,g,ad⟩;have bj:=eA 0 0 bU (iE bB T.1.length f1 bG T.2.1.length f2 b3 T.2.2.1.length f3 T.2.2.2.1);have l:V _:=bu.o;have ct:af.length=T.2.1.length:=by simpa using congrArg List.length l.o
   have cC:V _:=(g.keep bj).cs rfl ct rfl;have cS:V _:=g.kl
   have b7:V (KB (bU.alloc (iE bB T.1.length f1 bG T.2.1.length f2 b3 T.2.2.1.length f3 T.2.2.2.1)) bU.heap.size (.slice bB T.1.length f1) (.slice bG T.2.1.length f2) (.slice b3 T.2.2.1.length f3) (h1 T.2.2.2.1)):=by
    refine⟨?_,?_,?_,?_,?_,?_,?_,?_,?_⟩<;>simp
   have bS:V _:=(cw.o.trans ad).trans bj;have ce:V _:=(cA.o.trans ad).trans bj;have cG:V _:=(cF.o.keep ad).keep bj;clear ad g ct bj aW bu cw cA cF;go_upto_region 17 with fail;generalize bU.alloc (iE bB T.1.length f1 bG T.2.1.length f2 b3 T.2.2.1.length f3 T.2.2.2.1)=b1 at cC b7 bS ce cG⊢;have aj:V (Kept 0 0 b1 b1.drew):=eF b1;obtain⟨_,bq,aq,aT,b8,_,_,_,_⟩:=b7.o;obtain⟨_,u0,_,_,_,_,_,_,_⟩:=K.o.keep bS.o;go_cut [16,17,18] from 100 to 109 (λx y z bb=>∃bd bE aX,x=.slice bd T.2.2.1.length bE/\y=h1 T.2.1.length/\z=h1 0/\V (SS bb bd T.2.2.1.length aX/\WnC ys T aX/\∀j,j<T.2.2.1.length->(aX.getD j []).length<=1000)/\V (Kept 0 0 b1 bb))
   case first=>
    go_region_with (first
     |(go_at_call 9;refine yaj (AW (ys:=ys) bf.o l.o cS.o bX.o HX.o) ?_;rintro e cW ⟨bd,bE,aX,M,t,aG,rfl,(bv:V _),_,(bh:V _),cl⟩;have aj:V _:=aj.o.trans cl;clear cl)
     |(go_at_call 7;refine yaj (ch.o _ c1 a1 (ce.o.trans aj.o) (ar.o _ (bS.o.trans aj.o)).i) ?_;rintro e cV ⟨ak,b4,xss,rfl,(HX:V _),a5⟩;have bf:V _:=cC.o.keep (aj.o.trans a5);have aj:V _:=aj.o.trans a5;obtain⟨_,bq,aq,aT,b8,_,_,_,_⟩:=b7.o.keep aj.o;obtain⟨_,u0,_,_,_,_,_,_,_⟩:=K.o.keep (bS.o.trans aj.o);clear a5))
    all_goals
     obtain⟨rfl,rfl,rfl,bN,cz⟩:=bh.o (by trivial)
     go_wp2_with fail
     go_meet
     exact⟨bd,bE,aX,rfl,rfl,rfl,⟨bv.o,bN,cz⟩,aj⟩
   case rest=>
    obtain⟨bd,bE,aX,rfl,rfl,rfl,bR,cn⟩:=hcut;have HE:V _:=uX wc bd aR T.2.2.1.length bE cQ aX aK bR.o.1 (cG.o.keep cn.o) (λk O=>⟨Da bR.o.2.1 bL.o O,ix (bR.o.2.2 k O)⟩) (ix aQ.o);have b9:V _:=ce.o.trans cn.o;clear bq aq aT b8 u0 aj cn bR;go_wp2_with fail;refine yaj HE.o ?_;rintro e cX ⟨rfl,cM⟩;have cR:V _:=b9.o.trans cM;clear cM HE;go_wp2_with fail;go_ret;exact⟨rfl,cR.o⟩
