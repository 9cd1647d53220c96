import Derived.Test.YtiacbhjphaldlaaGreatDoorP36
namespace Go.Proofs.Z
variable{Zp:Prop}
open Tryz Go.RowKit Flt
set_option maxRecDepth 1000000
set_option maxHeartbeats 0
section
def uA(w w':World)(n1 n3:Nat)(ins outs:List Int)(Maa:List Vl×Int)(e:Ending):Prop:=
 ∃b1 d1 b3 d3 a2 cap,e=.returned (.tuple #[fj b1 n1 d1 a2 Maa.1.length cap b3 n3 d3,.int .i64 Maa.2])/\w'.ownsRow w.heap.size 3 1 (.slice b1 n1 d1) n1 (ins.map (Value.int .i64))/\w'.ownsRow w.heap.size 74 6 (.slice a2 Maa.1.length cap) Maa.1.length (f9 Maa.1)/\w'.ownsRow w.heap.size 3 1 (.slice b3 n3 d3) n3 (outs.map (Value.int .i64))/\Apart (.slice b1 n1 d1) (.slice b3 n3 d3)
end
section
attribute[local go_sem] dI dG dF
attribute[local go_sem ↓] Go.wp_at_zero Go.wp_at_succ
theorem RB.keepC{W A S p bK L bi}(t:RB W p bK L bi)(k:Chg S W A)(aT:¬S p):RB A p bK L bi:=by
 have e:∀o,_:=λo=>k.cell (p:=⟨p,o,none⟩) t.sz aT;have f:∀o,_:=λo=>k.frozen (p:=⟨p,o,none⟩) t.sz aT;exact⟨yaj t.sz k.size,it e t.q0,it e t.q1,it e t.q2,it f t.f0,it f t.f1,it f t.f2⟩
end
section
attribute[local go_sem] dI dG dF
theorem we(w){L bi U n1}(c1){aI}(c2){aE}(c3){ins vs outs}(f:GS w L n1 bi aI U aE ins vs outs)(b9:n1<=1000000)(cl:aI<=1000000)(el:aE<=1000000):
  Calls prog 108 #[fj L n1 c1 bi aI c2 U aE c3] w λe D=>∃a1 aW a2 bA a3 bs,e=.returned (fj a1 n1 aW a2 aI bA a3 aE bs)/\D.ownsRow w.heap.size 3 1 (.slice a1 n1 aW) n1 (ins.map (Value.int .i64))/\D.ownsRow w.heap.size 74 6 (.slice a2 aI bA) aI (f9 vs)/\D.ownsRow w.heap.size 3 1 (.slice a3 aE bs) aE (outs.map (Value.int .i64))/\
   (Apart (.slice a2 aI bA) (.slice a1 n1 aW)/\Apart (.slice a2 aI bA) (.slice a3 aE bs)/\Apart (.slice a1 n1 aW) (.slice a3 aE bs))/\Kept 0 0 w D:=by
 obtain⟨bS,hi,ch,b6,ci⟩:=info_parts wQ;have af:=dE 0 0 w (eZ L n1 c1 bi aI c2 U aE c3);have ad:=dE 0 0 (w.alloc (eZ L n1 c1 bi aI c2 U aE c3)) io;have aw:M _:=(gQ w _ _ _).keep ad;have bb:=jY (w.alloc (eZ L n1 c1 bi aI c2 U aE c3));rw[show(w.alloc _).heap.size=w.heap.size+1 by simp]at bb;have aF:=Q bb;have ay:M _:=af.trans ad;have bv:M _:=f.i.keep (af.trans ad) yaa;have y:M _:=f.v.keep (af.trans ad) yaa;have c:M _:=f.o.keep (af.trans ad) yaa;clear f bb af ad;obtain⟨_,bT,bg,a8⟩:=aw.o;go_enter func108,ntmps108;go_upto_region 2 with fail;generalize (w.alloc _).alloc _=Z at aw aF ay bv y c bT bg a8⊢;have bc:M _:=PV y.o;go_wp2_with (first|(at_builtin;refine lQ _ rfl _ _ _ rfl Z.heap.size 74 _ _ 6 _ underlying24 hi ch b6 ci rfl xab rfl _ _ _ _ rfl ?c0 bc.o ?c2 ?c3 ?c4 ?c5 ?_))
 case c0=>rw[wV,y.o.len]
 case c2=>exact Oh _
 case c3=>unfold maxLen;omega
 case c4=>omega
 case c5=>exact yac
 intro ae ao i l;obtain⟨a2,bA,rfl⟩:=jM i;have a5:=mP l (λk H=>by cases H) ib yac;have S:=Q i;have ai:=Q a5;clear i l bc bT bg a8 a5;obtain⟨_,bT,bg,a8⟩:=G0.keep aw.o ai.o;have j:=IS.keep bv.o ai.o yaa;have fl:=Q j;have al:M _:=IS.keep c.o ai.o yaa;have ce:M _:=G0.keep aw.o ai.o;have bY:M _:=RB.keep aF.o ai.o;have b5:M (w.heap.size+1<Z.heap.size/\w.heap.size<=Z.heap.size/\Z.heap.size<=ao.heap.size):=⟨aF.o.sz,ay.o.size,ai.o.size⟩
 clear j aw aF bv y c;go_wp2_with fail
 go_region_held3 (λD=>D.cell? ⟨w.heap.size,0,none⟩=some (.slice L n1 c1)/\D.cell? ⟨w.heap.size,2,none⟩=some (.slice U aE c3)) (first|go_keep|(simp only[Dr cd];exact⟨b2,bp⟩))
  (first
   |(go_at_call 119;refine yai (qC _ el (IS.keep al.o a yaa)) ?_;rintro e aA ⟨a3,bs,rfl,aO,F⟩;have m:=Kept.trans a F;obtain⟨_,b2,r1,bp⟩:=G0.keep ce.o m;obtain⟨_,bJ,ba,bu,bG,bB,bQ⟩:=RB.keep bY.o m;have cd:w.heap.size≠w.heap.size+1:=by omega)
   |(go_at_call 119;refine yai (qC (ao.drewN 1) b9 (IS.keep fl.o (ed 0 0 1) yaa)) ?_;rintro e a7 ⟨a1,aW,rfl,ca,b0⟩;have a:=Kept.trans (ed 0 0 1) b0;obtain⟨_,bq,ak,az⟩:=G0.keep ce.o a))
 go_wp2_with fail;obtain⟨aP,aQ,aU⟩:=fQ _ _ bJ ba bu (.slice a1 n1 aW) (.slice a2 aI bA) (.slice a3 aE bs);have a0:=fN aA (w.heap.size+1) (.slice a1 n1 aW) (.slice a2 aI bA) (.slice a3 aE bs);have u:(ao.drewN 1).heap.size=ao.heap.size:=rfl;have o:=b0.size;have O:=b5.o
 have key:∀{b e size n:Nat}{v:Value}{G:List _}{W:World},W.ownsRow b e _ v n _->Z.heap.size<=b->Kept 0 0 W _->(((aA.setCell _ _).setCell _ _).setCell _ _).ownsRow w.heap.size e size v n G:=λh I k=>
  oT (jG (dW h k) a0 (λg aG=>ih ((dO h aG).1))) xaa
 refine yax (v:=fj a1 n1 aW a2 aI bA a3 aE bs) (by simp[results,results108,go_sem,aP,aQ,aU]) rfl ⟨a1,aW,a2,bA,a3,bs,rfl,key ca xaa F,key S.o yac m,key aO xaa ib,⟨rL S.o ca xaa,rL S.o aO xaa,rL ca aO yac⟩,Kept.new ((ay.o.trans ai.o).trans m) a0 xaa⟩
theorem f.qad(h:Zp:=by
 exact qec):Zp:=h
theorem f.qed(h:Zp:=by
 rw[fT.o]at br;have e9:vs.length<=1000000:=ih O.o
 by_cases gw:s<x
 all_goals
  (first|(have bv:(s:Int)<x:=by omega)|(have bv:¬((s:Int)<x):=by omega))
  go_upto_region 5 with fail
  clear b1 bw p2 bZ aS bO aj
  generalize ((Z.setCell _ _).setCell _ _).setCell _ _=er at bf ew⊢
  rw[<-O.o]at bf⊢
  have bq:=bf.o.g.c0
  have ak:=bf.o.g.c1
  have az:=bf.o.g.c2
  go_cut [] (λb4=>∃aY cap',M (LK w b4 L n1 aW U aE bs ins outs (vs++[dL 1 d5 0 0 0]) aa.heap.size (some aY) (some ⟨aY,0,none⟩) cap'))
  case first=>
   go_region_with (first
    |(go_at_call 109;refine yai (LK.call bf.o ((dH _).trans af) _ e9) ?_;rintro e Z ⟨aY,cap',rfl,⟨_,b2⟩,⟨_,r1⟩,⟨_,bp⟩,au,aC⟩;have a6:=au 0;have bn:=au 1;have cc:=au 2;have en:=Q aC.o.1;clear au aC)
    |(go_at_call 110;refine yai oX ?_;rintro e aa ⟨rfl,af⟩;have b1:=(LK.keep bf.o ((dH _).trans af)).g.c0;have bw:=(LK.keep bf.o ((dH _).trans af)).g.c1;have p2:=(LK.keep bf.o ((dH _).trans af)).g.c2))
   all_goals (go_wp2_with fail;go_meet;exact⟨_,_,en⟩)
  case rest=>
   obtain⟨aY,cap',aC⟩:=hcut
   have co:(vs++[dL 1 d5 0 0 0]).length=vs.length+1:=by simp
   generalize bd:vs++[dL 1 _ 0 0 0]=P at aC br co
   clear bq ak az bd bf
   have bq:=aC.o.g.c0
   have ak:=aC.o.g.c1
   have az:=aC.o.g.c2
   obtain⟨_,bJ,ba,bu,bG,bB,bQ⟩:=aC.o.b
   have b:M _:=λW=>jg W L (some ⟨aY,0,none⟩) U n1 aW _ cap' aE bs (show P.length<=1000000 by have:=O.o;have:=co;omega)
   rw[show(P.length:Int)-1=(vs.length:Nat) by omega]at b
   clear co
   go_wp2_with fail
   go_region_with (first
    |(go_at_call 67;refine yai (b.o _) ?_;rintro e ao ⟨rfl,a5⟩;clear bJ ba bu bG bB bQ;have bT:=(aC.o.keep ((dH _).trans a5)).g.c0;have bg:=(aC.o.keep ((dH _).trans a5)).g.c1;have a8:=(aC.o.keep ((dH _).trans a5)).g.c2;obtain⟨_,bJ,ba,bu,bG,bB,bQ⟩:=(aC.o.keep ((dH _).trans a5)).b))
   all_goals
    have e4:=Q aC.o.a4
    have bm:M _:=aC.o.fin ((dH _).trans a5)
    obtain⟨aP,aQ,aU⟩:=fQ _ _ bJ ba bu (.slice L n1 aW) (hZ aY P.length cap') (.slice U aE bs)
    go_wp2_with fail
    refine yax (v:=.tuple #[fj L n1 aW (some ⟨aY,0,none⟩) P.length cap' U aE bs,h0 vs.length]) (by simp[results,results88,go_sem,aP,aQ,aU]) rfl ⟨?_,bm.o.2⟩
    rw[br.o]
    exact⟨_,_,_,_,_,_,rfl,bm.o.1.1,bm.o.1.2.1,bm.o.1.2.2,e4.o⟩):Zp:=h
open f in
theorem wg(w){G Y aJ n1 c1 aI c2 aE c3}(s x){ins vs outs}(f:GS w G n1 (some ⟨aJ,0,none⟩) aI Y aE ins vs outs)(bC:VA w aJ aI vs)(b9:n1<=1000000)(cl:aI<=2000)(el:aE<=1000000)(ap:(List.range aI).all (okV ins vs)=true)(cO:dK vs<=50000)(ai:s<aI)(ar:x<aI)(F:(gL vs x (s-x)).getD s false=false):
  Calls prog 88 #[fj G n1 c1 (some ⟨aJ,0,none⟩) aI c2 Y aE c3,h0 s,h0 x] w λe D=>uA w D n1 aE ins outs (grM vs s x) e/\Kept 0 0 w D:=by
 have br:M (grM vs s x=(vs++[dL 1 (vs.getD x h7).len 0 0 0],(vs.length:Int))):=by
  show _=_;unfold grM;rw[h2 (by rw[F];simp)]
 exact qdt
theorem cO.qdd(h:Zp:=by
 rw[fG.o]at p
 have br:s<x->(jst _ x t (s-x)).2.getD s 0=-1:=λaj=>by
  rw[show s-x=0 by omega]
  exact DG x t s xaa (it O.o ai)
 have ab:∀q,q<vs.length->_:=λq an=>iA (List.all_eq_true.1 em.o q (List.mem_range.2 (ih O.o)));obtain⟨a9,_,_⟩:=mQ _ x t ab (jH _ (λq an=>ih (ab q an))) cv.o (s-x) (ih O.o);have bY:(jst vs x t (s-x)).1.length<=800000:=ih O.o
 have bf:=Q m;clear bo m d3 ab a9 cf aV cr;generalize (jst _ x t _).1=us at bf p bY;generalize (jst _ x t _).2=bc at bf p cs e0 br;generalize bc.getD s 0=ea at cs e0 p br;have bq:=bf.o.g.c0;have ak:=bf.o.g.c1;have az:=bf.o.g.c2;obtain⟨_,bJ,ba,bu,bG,bB,bQ⟩:=bf.o.b;have gd:(0:Int)<=s:=xaa;have gi:(s:Int)<k:=xaa;by_cases bo:x<=s/\0<=ea
 ·have bH:M (i9 vs s x t=(us,ea)):=by
   show _=_;rw[p.o,h2 xaa]
  have ad:((x:Int)<=s):=xaa;have C:=bo.2;obtain⟨aP,aQ,aU⟩:=fQ _ _ bJ ba bu (.slice L n1 aW) (hZ bW us.length cap) (.slice U aE bs);have hg:w.heap.size≠w.heap.size+1:=xaa;have gp:aM≠w.heap.size+1:=ip bf.o.hb bf.o.dM
  have hN:=Ne.symm gp;have cA:M (∀X dd dg:Value,(((wr.setCell _ X).setCell _ dd).setCell _ dg).drew.cell? _=some _):=λX dd dg=>(lq (x:=X) (y:=dd) (aX:=dg) gp).trans cs;exact qgo
 have bH:M (i9 vs s x t=(us++[dL 1 T 0 0 0],(us.length:Int))):=by
  show _=_
  rw[p.o,h3 (by
   by_cases aj:s<x
   ·exact br aj
   ·omega)]
 have ga:(¬(x<=(s:Int)))\/((x:Int)<=s/\¬(0<=ea)):=xaa;clear p br bJ ba bu bG bB bQ bo e0;obtain bv|⟨bv,fc⟩:=ga
 all_goals
  go_upto_region 25 with fail
  clear cs
  go_cut [] (λb4=>∃aY cap',M (LJ w b4 aM L n1 aW U aE bs ins outs (us++[dL 1 T 0 0 0]) bc base (some aY) (some ⟨aY,0,none⟩) cap'))
  case first=>
   go_region_with (first
    |(go_at_call 109;refine yai (LJ.call bf.o ((dH _).trans af) _ xaa) ?_;rintro e Z ⟨aY,cap',rfl,⟨_,b2⟩,⟨_,r1⟩,⟨_,bp⟩,au,aC⟩;have a6:=au 0;have bn:=au 1;have cc:=au 2;clear au)
    |(go_at_call 110;refine yai oX ?_;rintro e aa ⟨rfl,af⟩;have b1:=(LJ.keep bf.o ((dH _).trans af)).g.c0;have bw:=(LJ.keep bf.o ((dH _).trans af)).g.c1;have p2:=(LJ.keep bf.o ((dH _).trans af)).g.c2))
   all_goals (go_wp2_with fail;go_meet;exact⟨_,_,aC⟩)
  case rest=>
   obtain⟨aY,cap',aC⟩:=hcut
   have co:(us++[dL 1 T 0 0 0]).length=us.length+1:=by simp
   generalize bd:us++[dL 1 _ 0 0 0]=P at aC bH co
   clear bq ak az bd bf
   have bq:=aC.o.g.c0
   have ak:=aC.o.g.c1
   have az:=aC.o.g.c2
   obtain⟨_,bJ,ba,bu,bG,bB,bQ⟩:=aC.o.b
   have b:M _:=λW=>jg W L (some ⟨aY,0,none⟩) U n1 aW P.length cap' aE bs xaa
   rw[show(P.length:Int)-1=(us.length:Nat) by omega]at b
   clear co
   go_wp2_with fail
   go_region_with (first
    |(go_at_call 67;refine yai (b.o _) ?_;rintro e ao ⟨rfl,a5⟩;clear bJ ba bu bG bB bQ;have bT:=(aC.o.keep ((dH _).trans a5)).g.c0;have bg:=(aC.o.keep ((dH _).trans a5)).g.c1;have a8:=(aC.o.keep ((dH _).trans a5)).g.c2;obtain⟨_,bJ,ba,bu,bG,bB,bQ⟩:=(aC.o.keep ((dH _).trans a5)).b))
   all_goals
    have e4:=Q aC.o.a4
    have bm:M _:=aC.o.fin ((dH _).trans a5)
    obtain⟨aP,aQ,aU⟩:=fQ _ _ bJ ba bu (.slice L n1 aW) (hZ aY P.length cap') (.slice U aE bs)
    go_wp2_with fail
    refine yax (v:=.tuple #[fj L n1 aW (some ⟨aY,0,none⟩) P.length cap' U aE bs,h0 us.length]) (by simp[results,results90,go_sem,aP,aQ,aU]) rfl ⟨?_,bm.o.2⟩
    rw[bH.o]
    exact⟨_,_,_,_,_,_,rfl,bm.o.1.1,bm.o.1.2.1,bm.o.1.2.2,e4.o⟩):Zp:=h
theorem cO.qgp(h:Zp:=by
 clear p br;go_wp2_with fail;go_region_held3 (λW:World=>W.cell? ⟨w.heap.size,0,none⟩=some (.slice L n1 aW)/\W.cell? ⟨w.heap.size,1,none⟩=some (hZ bW us.length cap)/\W.cell? ⟨w.heap.size,2,none⟩=some (.slice U aE bs)/\W.cell? ⟨aM,s,none⟩=some (h0 ea)) (first|go_keep|(exact⟨(fq.o _ _ _ _).trans bq,(fq.o _ _ _ _).trans ak,(fq.o _ _ _ _).trans az,cA.o _ _ _⟩)) (fail)
 all_goals
  go_wp2_with fail
  refine yax (v:=.tuple #[fj L n1 aW (some ⟨bW,0,none⟩) us.length cap U aE bs,h0 ea]) (by simp[results,results90,go_sem,aP,aQ,aU]) rfl ⟨?_,bm.o.2⟩
  rw[bH.o]
  exact⟨_,_,_,_,_,_,rfl,bm.o.1.1,bm.o.1.2.1,bm.o.1.2.2,e4.o⟩):Zp:=h
open cO in
theorem MX(w){G Y aJ n1 c1 aI c2 aE c3}(s x t:Nat){ins vs outs}(f:GS w G n1 (some ⟨aJ,0,none⟩) aI Y aE ins vs outs)(bC:VA w aJ aI vs)(b9:n1<=1000000)(cl:aI<=2000)(el:aE<=1000000)(ap:(List.range aI).all (okV ins vs)=true)(cO:dK vs<=50000)(ai:s<aI)(ar:x<aI):
  Calls prog 90 #[fj G n1 c1 (some ⟨aJ,0,none⟩) aI c2 Y aE c3,h0 s,h0 x,h0 t] w λe D=>uA w D n1 aE ins outs (i9 vs s x t) e/\Kept 0 0 w D:=by
 have aB:Kept 0 0 w ((w.alloc (eZ G n1 c1 (some ⟨aJ,0,none⟩) aI c2 Y aE c3)).alloc io):=(dE 0 0 w _).trans (dE 0 0 _ _);have aw:M _:=(gQ w (.slice G n1 c1) (hZ aJ aI c2) (.slice Y aE c3)).keep (dE 0 0 _ io);have dv:M (∀o,((w.alloc (eZ G n1 c1 (some ⟨aJ,0,none⟩) aI c2 Y aE c3)).alloc io).frozen? ⟨w.heap.size,o,none⟩=false):=λo=>by simp
 have bb:=jY (w.alloc (eZ G n1 c1 (some ⟨aJ,0,none⟩) aI c2 Y aE c3));rw[show(w.alloc _).heap.size=w.heap.size+1 by simp]at bb;have aF:=Q bb;have be:M _:=we _ c1 c2 c3 (f.keep aB) b9 xaa el;have O:=Q f.v.len;have em:=Q ap;have cv:=Q cO;clear bb aB f ap cO;go_enter func90,ntmps90;go_wp2_with fail;refine yai be.o ?_;rintro e aa ⟨L,aW,a2,bA,U,bs,rfl,ca,b6,aO,⟨bg,a8,bE⟩,a5⟩;have av:M _:=LJ.start O.o aw.o dv.o aF.o a5 ca b6 aO bg a8 bE;obtain⟨_,b1,bw,p2⟩:=aw.o.keep a5;have bZ:=(a5.frozen aw.o.sz xaa).trans (dv.o 0);have aS:=(a5.frozen aw.o.sz xaa).trans (dv.o 1);have bO:=(a5.frozen aw.o.sz xaa).trans (dv.o 2);obtain⟨aP,aQ,aU⟩:=fQ _ _ b1 bw p2 (.slice L n1 aW) (.slice a2 aI bA) (.slice U aE bs);obtain⟨bV,bx,aH,b5,ch,_,bo⟩:=jX b6 xaa O.o;injection aH with fP fT f0;subst fP;have bk:(eY _ w.heap.size (.slice L n1 aW) (hZ bV aI bA) (.slice U aE bs)).cell? _=some _:=(lq (by simp at b5;omega)).trans (bo.at_ s ai).c1;clear ca b6 aO bg a8 bE be aw dv aF bo fT f0 ch a5;go_upto_region 2 with fail;clear b1 bw p2 bZ aS bO;unfold eY at av bk;generalize ((aa.setCell _ _).setCell ⟨_,1,_⟩ _).setCell _ _=er at av bk aP aQ aU⊢;have aR:=yP aI er xaa;have c9:M _:=av.o _ (IR.made _ _) (dE 0 0 _ _);generalize d2:(vs.getD s _).len=T at bk;have fG:=Q d2;generalize cM:((w.alloc (eZ G _ _ _ _ _ _ _ _)).alloc _).heap.size=base at c9;clear d2 cM av b5;generalize er.alloc _=Z at aR c9;have J:(0:Int)<=s:=xaa;have aD:(s:Int)<aI:=xaa;go_wp2_with fail;clear aR bk aP aQ aU;generalize er.heap.size=aM at c9⊢;go_loopw [12] (λv W=>∃k:Nat,k<=aI/\v=h0 k/\M (LJ w W aM L n1 aW U aE bs ins outs vs (jV k aI) base (hZ bV aI bA).ownBlock (some ⟨bV,0,none⟩) bA)) (λv _=>aI-(intOf v).toNat)
 case atStart=>exact⟨0,yad,rfl,by unfold jV;exact c9⟩
 case round=>
  obtain⟨k,H,rfl,m⟩:=hrel;clear c9;by_cases aV:k<aI
  ·have c1:=m.o.m.cell k (by rw[pO k _ H];exact aV);have c2:=m.o.m.free k
   have bm:M (LJ w (wr.setCell ⟨aM,k,none⟩ (h0 (-1))) aM L n1 aW U aE bs ins outs vs (jV (k+1) aI) base (hZ bV aI bA).ownBlock (some ⟨bV,0,none⟩) bA):=by
    have:=m.o.set k (-1);rw[pQ aV]at this;exact this
   clear m;generalize (jV k _).getD k 0=aX at c1;exact xgr
  obtain rfl:k=aI:=xaa;have d1:=m.o;rw[pP]at d1;have ej:=d1.m.cell x yaf;have cF:=d1.m.free x
  have fl:M (∃R a2 cap,LJ w _ _ _ _ _ _ _ _ _ _ (jst _ x t 0).1 (jst _ x t 0).2 _ R a2 cap):=⟨_,_,_,by
   have:=d1.set x (t:Int)
   unfold jst
   rw[O.o]
   exact this⟩
  clear m d1;generalize (List.replicate k (-1:Int)).getD x 0=aX at ej;have aT:(0:Int)<=x:=xaa;have e8:(x:Int)<k:=xaa;go_wp2_with fail;clear ej cF;go_loopw [13] (λv W=>∃j:Nat,j<=s-x/\v=h0 (x+1+j:Nat)/\M (∃R a2 cap,LJ w W aM L n1 aW U aE bs ins outs (jst vs x t j).1 (jst vs x t j).2 base R a2 cap)) (λv _=>s+1-(intOf v).toNat)
  case atStart=>exact⟨0,yad,by simp,fl⟩
  case round=>
   obtain⟨j,aK,rfl,m⟩:=hrel;clear fl;obtain⟨R,a2,cap,m⟩:=m.o
   have d3:vs.length<=(jst vs x t j).1.length:=by
    obtain⟨r,h⟩:=oW vs x t j;rw[h,yak];omega
   obtain⟨bW,rfl,rfl,cr,bo⟩:=m.read (ih O.o);by_cases aV:j<s-x
   ·have K:x+1+j<k:=xaa;have ce:=bo (x+1+j) (ih O.o);rw[qT x t j (ih O.o)]at ce;have e9:=List.all_eq_true.1 em.o _ (List.mem_range.2 K);have e3:=y7 e9;have am:M _:=kC e9;have cT:M _:=λh=>DE x t j (ih O.o) (yZ h (vf vs x t j));have fa:M _:=vf vs x t j;have ci:M (jst _ x t (j+1)=((jst _ x t j).1++(jmv vs _ _).1,(jst _ x t j).2.set (x+1+j) _)):=rfl;have c8:M (jmv vs (x+1+j) (jst vs x t j)=mvM _ _ _ _ _ _):=rfl;have ab:∀q,q<vs.length->_:=λq an=>iA (List.all_eq_true.1 em.o q (List.mem_range.2 (ih O.o)));obtain⟨a9,_,_⟩:=mQ _ x t ab (jH _ (λq an=>ih (ab q an))) cv.o j (ih O.o);have eb:M ((jst vs x t j).1.length<=800000/\k<=(jst vs x t j).1.length/\(jst _ x t j).2.length=k):=⟨ih O.o,ih O.o,by rw[oV];exact O.o⟩
    have ei:M _:=m.keep (dE 0 0 _ (.cells #[h0 (-1),h0 (-1),h0 (-1)] 3));have e7:M _:=m.oth yac;have cz:M (IR _ _ [ovs (vs.getD (x+1+j) h7) (jst vs x t j).2 0 0,ovs (vs.getD (x+1+j) h7) (jst vs x t j).2 0 1,ovs (vs.getD (x+1+j) h7) (jst vs x t j).2 0 2]):=ir3 wr (-1) (-1) (-1);have i1:(x+1+j:Nat)<=(s:Int):=xaa;have gw:x+1+j<=s:=xaa;clear bo m d3 ab a9 e9 ce cr;generalize z:vs.getD _ _=v at e3 am cT c8 cz;have fs:=Q z;clear z;generalize cn:(jst _ x t j).2=bc at cT fa ci c8 eb ei cz;generalize fz:(jst _ x t j).1=us at ci c8 eb ei;have e6:M ((jst _ x t j).1=us/\(jst _ x t j).2=bc):=⟨fz,cn⟩
    clear cn fz;generalize hi:x+1+j=i at am fs cT ci c8 i1 K gw;have cb:=Q hi;clear hi;go_wp2_with fail;generalize wr.alloc _=gl at ei cz⊢;generalize wr.heap.size=F at cz e7⊢
    have fO:us.getD i h7=v:=by
     rw[<-e6.o.1,<-cb.o,qT x t j (ip cb.o O.o),cb.o];exact fs.o
    have fM:=Q fO;have fm:i<us.length:=ih eb.o
    have dp:=kN v.op;clear fO;go_loopw [15,16] (λex ct W=>∃q:Nat,q<=cnt v.op/\ex=.bool (qN v bc q)/\ct=h0 q/\M (IR W F [ovs v bc q 0,ovs v bc q 1,ovs v bc q 2])/\M (LJ w W aM L n1 aW U aE bs ins outs us bc base (some bW) (some ⟨bW,0,none⟩) cap)) (λ_ ct _=>3-(intOf ct).toNat)
    case atStart=>exact⟨0,yad,rfl,rfl,cz,ei⟩
    case round=>
     obtain⟨q,an,rfl,rfl,bh,I⟩:=hrel;clear ei cz;obtain⟨aZ,bM,_,cr,bo⟩:=I.o.read xaa;cases bM;have ce:=bo i fm;rw[fM.o]at ce;obtain⟨aP,aQ,aU,bN,cp,cI⟩:=ce;have ak:=I.o.g.c1;have bS:(0:Int)<=i:=xaa;have ay:(i:Int)<us.length:=xaa;have bl:M _:=rO wr e3.1 e3.2;rw[Ok e3.1 e3.2]at bl;clear bo cr;by_cases e2:q<cnt v.op
     ·obtain⟨en,f1⟩:=am.o q e2;obtain⟨bi,d5⟩:=Int.eq_ofNat_of_zero_le en;have e1:M _:=oU wr v q xaa;rw[d5]at e1;have gc:bi<k:=xaa
      have ef:M (qN v bc (q+1)=(qN v bc q||decide (0<=bc.getD bi 0))):=by
       have:=BG v bc q;rw[d5,Int.toNat_natCast]at this;exact this
      have fk:M (([ovs v bc q 0,ovs v bc q 1,ovs v bc q 2]:List _).set q (bc.getD bi 0)=[ovs v bc (q+1) 0,ovs v bc (q+1) 1,ovs v bc (q+1) 2]):=by
       have:=DF v bc q xaa;rw[d5,Int.toNat_natCast]at this;exact this
      have bR:q<(cnt v.op:Int):=xaa;clear en f1 d5;go_wp2_with fail;refine yai bl.o ?_;rintro e D ⟨rfl,rfl⟩;clear bl;go_wp2_with fail;refine yai e1.o ?_;rintro e a7 ⟨rfl,b0⟩;have d4:=I.o.keep b0;have eT:=IR.keep bh.o b0 yaa;have cm:=d4.m.cell bi (ih eb.o);have bD:=eT.cell q yaf;have fu:=eT.free q
      have bm:M (IR (a7.setCell ⟨F,q,none⟩ (h0 (bc.getD bi 0))) F [ovs v bc (q+1) 0,ovs v bc (q+1) 1,ovs v bc (q+1) 2]):=by
       have:=eT.set q (bc.getD bi 0);rw[fk.o]at this;exact this
      have bP:M _:=d4.other e7.o q (h0 (bc.getD bi 0));clear d4 eT I bh e1 b0 aP aQ aU bN cp cI ak fk;generalize bc.getD _ 0=y at cm bm bP ef;generalize ([ovs v _ q 0,ovs v _ q 1,ovs v _ q 2]:List _).getD q 0=aX at bD;have bZ:(0:Int)<=bi:=xaa;have aS:bi<(k:Int):=xaa;have bT:(0:Int)<=q:=xaa;have bE:(q:Int)<3:=xaa;cases ew:qN v bc q
      ·exact xfo
      exact xfo
     obtain rfl:q=cnt v.op:=xaa;have bR:¬((cnt v.op:Int)<(cnt v.op:Int)):=xaa;cases ew:qN v bc (cnt v.op)
     ·have bm:M (∃R a2 cap,LJ w _ _ _ _ _ _ _ _ _ _ (jst _ x t _).1 (jst _ x t _).2 _ R a2 cap):=⟨_,_,_,by
       rw[cT.o ew,e6.o.1,e6.o.2]
       exact I.o⟩
      go_wp2_with fail;refine yai bl.o ?_;rintro e D ⟨rfl,rfl⟩;clear bl;exact xge
     have bq:=I.o.g.c0;have az:=I.o.g.c2;have c0:=bh.o.cell 0 xac;have c1:=bh.o.cell 1 xac;have c2:=bh.o.cell 2 xac;rw[show([ovs v _ _ 0,ovs v _ _ 1,ovs v _ _ 2]:List _).getD 0 0=ovs v _ _ 0 from rfl]at c0;rw[show([ovs v _ _ 0,ovs v _ _ 1,ovs v _ _ 2]:List _).getD 1 0=ovs v _ _ 1 from rfl]at c1;rw[show([ovs v _ _ 0,ovs v _ _ 1,ovs v _ _ 2]:List _).getD 2 0=ovs v _ _ 2 from rfl]at c2;have fw:=BH ew;have aZ:∀n,-1<=ovs v _ (cnt v.op) n:=λn=>DC fa.o;have ce:At _ _ _ v:=⟨aP,aQ,aU,bN,cp,cI⟩
     have ey:M (∀aq,Kept 0 0 wr aq->Calls prog 114 #[fj L n1 aW (some ⟨bW,0,none⟩) us.length cap U aE bs,h0 i,h0 (ovs v bc (cnt v.op) 0),h0 (ovs v bc (cnt v.op) 1),h0 (ovs v bc (cnt v.op) 2)] aq λe aA=>∃(P:List Vl) (r:Int) (bX:Option Addr) (cx:Nat) (cX:Option Nat),e=.returned (.tuple #[fj L n1 aW bX P.length cx U aE bs,h0 r])/\(∀B o,B<aq.heap.size->B≠bW->aA.cell? ⟨B,o,none⟩=aq.cell? ⟨B,o,none⟩)/\(∀B o,B<aq.heap.size->B≠bW->aA.frozen? ⟨B,o,none⟩=aq.frozen? ⟨B,o,none⟩)/\aq.heap.size<=aA.heap.size/\M (P=us++(jmv vs i (jst vs x t j)).1/\r=(jmv vs i (jst vs x t j)).2)/\
       M (∀(l h':Nat) (b7:World),Kept l h' aA b7->wr.heap.size<=l->(h'<=aq.heap.size\/aA.heap.size<=l)->(bW<l\/h'<=bW)->LJ w (eY b7 w.heap.size (.slice L n1 aW) (.slice bX P.length cx) (.slice U aE bs)) aM L n1 aW U aE bs ins outs P bc base cX bX cx)):=λaq ae=>by
      refine(MW aq L U n1 aW cap aE bs base bW i us v (I.o.keep ae).g.own (I.o.keep ae).g.sz eb.o.1 fm (ce.keep (dO I.o.g.own (k:=bW) rfl).2 ae yaa) (aZ 0) (aZ 1) (aZ 2) fw (λaj=>by unfold ovs;rw[h2 xaa]) (λaj=>by unfold ovs;rw[h2 xaa])).mono ?_
      rintro e aA ⟨bX,cx,cX,rfl,f2,f3,A⟩
      rw[<-c8.o]at f2 f3⊢
      have V:∀B,B≠bW->¬((λ_=>False) B\/some bW=some B):=λB ax=>by rintro (c|c);exact c;cases c;exact ax rfl
      refine⟨_,_,_,_,cX,rfl,λB o ax aG=>A.chg.cell ax (V B aG),λB o ax aG=>A.chg.frozen ax (V B aG),A.chg.size,⟨rfl,rfl⟩,λl h' b7 b3 ab aN cr=>?_⟩
      refine I.o.step ae f2 f3 A b3 ab (λg aG=>?_)
      obtain c|⟨r,c,ah⟩:=A.row
      ·rw[c]at aG;cases aG;exact cr
      ·rw[c]at aG;cases aG
       have:=(dO f2 (f3.trans c)).2
       omega
     have a:M (w.heap.size<wr.heap.size/\F<wr.heap.size/\w.heap.size≠bW/\F≠bW/\bW<wr.heap.size):=⟨I.o.g.lt,bh.o.lt,λc=>I.o.g.ne (by rw[c]),λc=>e7.o.r (by rw[c]),(dO I.o.g.own rfl).2⟩
     have fv:=I.o.g.free;clear fw aZ ce aQ aU bN cp cI c8;generalize ovs v _ _ 0=ad at c0 ey bh;generalize ovs v _ _ 1=C at c1 ey bh;generalize ovs v _ _ 2=al at c2 ey bh;generalize f4:jmv _ i _=Maa at ey ci;clear f4;obtain⟨bI,cG⟩:=Maa;go_wp2_with fail;refine yai bl.o ?_;rintro e D ⟨rfl,rfl⟩;clear bl aP;go_upto_region 20 with fail;go_cut [17,18] (λcP ag b4=>∃(X:Nat) (P:List Vl) (r:Int) (bX:Option Addr) (cx:Nat) (cX:Option Nat),cP=ge X/\ag=h0 r/\M (P=us++bI/\r=cG)/\M (RB b4 X (.slice L n1 aW) (.slice bX P.length cx) (.slice U aE bs)/\((∃u,b4.cell? ⟨w.heap.size,0,none⟩=some u)/\(∃u,b4.cell? ⟨w.heap.size,1,none⟩=some u)/\(∃u,b4.cell? ⟨w.heap.size,2,none⟩=some u))/\(∀o,b4.frozen? ⟨w.heap.size,o,none⟩=false))/\M (LJ w (eY b4 w.heap.size (.slice L n1 aW) (.slice bX P.length cx) (.slice U aE bs)) aM L n1 aW U aE bs ins outs P bc base cX bX cx))
     case first=>
      have ep:w.heap.size≠D.heap.size:=ih a.o
      have hf:F≠D.heap.size:=ih a.o
      have S:M (∀B o,B<D.heap.size->(D.alloc _).drew.cell? ⟨B,o,none⟩=D.cell? _):=λB o ax=>(dE 0 0 _ io).cell ax xaa
      go_region_held3 (λW:World=>W.cell? ⟨w.heap.size,0,none⟩=some (.slice L n1 aW)/\W.cell? ⟨w.heap.size,1,none⟩=some (hZ bW us.length cap)/\W.cell? ⟨w.heap.size,2,none⟩=some (.slice U aE bs)/\W.cell? ⟨F,0,none⟩=some (h0 ad)/\W.cell? ⟨F,1,none⟩=some (h0 C)/\W.cell? ⟨F,2,none⟩=some (h0 al)) (first|go_keep|(simp only[lq ep,lq hf];exact⟨cg,a1,a2,a3,a4,c6⟩)) (first
       |(go_at_call 114;refine yai (ey.o _ ((dE 0 0 _ _).trans (dH _))) ?_;rintro e aA ⟨P,r,bX,cx,cX,rfl,bU,d0,ec,ds,bF⟩;have cg:=(bU _ 0 (by have:=a.o;simp;omega) a.o.2.2.1).trans ((S.o _ 0 a.o.1).trans bq);have a1:=(bU _ 1 (by have:=a.o;simp;omega) a.o.2.2.1).trans ((S.o _ 1 a.o.1).trans ak);have a2:=(bU _ 2 (by have:=a.o;simp;omega) a.o.2.2.1).trans ((S.o _ 2 a.o.1).trans az);have a3:=(bU F 0 (by have:=a.o;simp;omega) a.o.2.2.2.1).trans ((S.o F 0 a.o.2.1).trans c0);have a4:=(bU F 1 (by have:=a.o;simp;omega) a.o.2.2.2.1).trans ((S.o F 1 a.o.2.1).trans c1);have c6:=(bU F 2 (by have:=a.o;simp;omega) a.o.2.2.2.1).trans ((S.o F 2 a.o.2.1).trans c2);have cS:=Q d0;have bK:=bU D.heap.size 0 xac (ih a.o);have a9:=bU D.heap.size 1 xac (ih a.o);have bj:=bU D.heap.size 2 xac (ih a.o);have hr:=d0 D.heap.size 0 xac (ih a.o);have hs:=d0 D.heap.size 1 xac (ih a.o);have ht:=d0 D.heap.size 2 xac (ih a.o);have e5:=Q ec;clear bU d0 ec)
       |(go_at_call 114;refine yai (ey.o _ (dH _)) ?_;rintro e aA ⟨P,r,bX,cx,cX,rfl,bU,d0,ec,ds,bF⟩;have cg:=(bU _ 0 a.o.1 a.o.2.2.1).trans bq;have a1:=(bU _ 1 a.o.1 a.o.2.2.1).trans ak;have a2:=(bU _ 2 a.o.1 a.o.2.2.1).trans az;have a3:=(bU F 0 a.o.2.1 a.o.2.2.2.1).trans c0;have a4:=(bU F 1 a.o.2.1 a.o.2.2.2.1).trans c1;have c6:=(bU F 2 a.o.2.1 a.o.2.2.2.1).trans c2;have cS:=Q d0;have cI:w.heap.size≠aA.heap.size:=(by have:=a.o;have:D.heap.size<=aA.heap.size:=ec;omega);have ff:F≠aA.heap.size:=(by have:=a.o;have:D.heap.size<=aA.heap.size:=ec;omega);have e5:=Q ec;clear bU d0 ec))
      ·have eN:D.heap.size<=aA.heap.size:=e5.o;have aL:=dE 0 0 aA (.cells #[.slice L n1 aW,.slice bX P.length cx,.slice U aE bs] 26);have ee:w.heap.size<aA.heap.size:=by have:=a.o;omega
       have bP:M (RB (aA.alloc (.cells #[.slice L n1 aW,.slice bX P.length cx,.slice U aE bs] 26)) aA.heap.size (.slice L n1 aW) (.slice bX P.length cx) (.slice U aE bs)/\((∃u,(aA.alloc _).cell? _=some u)/\(∃u,(aA.alloc _).cell? _=some u)/\(∃u,(aA.alloc _).cell? _=some u))/\(∀o,(aA.alloc _).frozen? _=false)):=
        ⟨⟨by simp,by simp,by simp,by simp,by simp,by simp,by simp⟩,⟨⟨_,(aL.cell ee xaa).trans cg⟩,⟨_,(aL.cell ee xaa).trans a1⟩,⟨_,(aL.cell ee xaa).trans a2⟩⟩,λo=>(aL.frozen ee xaa).trans ((cS.o _ o a.o.1 a.o.2.2.1).trans (fv o))⟩
       have R3:M _:=bF.o _ aA.heap.size _ (dE _ _ _ (.cells #[.slice L n1 aW,.slice bX P.length cx,.slice U aE bs] 26)) eN (.inr yac) (.inl (ih a.o));exact xhs
      have eN:=yan (dE 0 0 _ _).size e5.o;have a0:=fN aA D.heap.size (.slice L n1 aW) (.slice bX P.length cx) (.slice U aE bs);have ee:w.heap.size<aA.heap.size:=ih a.o
      have hh:D.heap.size<aA.heap.size:=yaj xac e5.o;have f5:aA.cell? _=some (.slice none 0 0):=bK.trans xac;have f6:aA.cell? _=some (.slice none 0 0):=a9.trans xac;have f7:aA.cell? _=some (.slice none 0 0):=bj.trans xac;obtain⟨aP,aQ,aU⟩:=fQ _ _ f5 f6 f7 (.slice L n1 aW) (.slice bX P.length cx) (.slice U aE bs);have eS:∀o,aA.frozen? _=false:=λo=>(cS.o D.heap.size o xac (ih a.o)).trans xac;have c7:∀o,_:=λo=>(cS.o _ o (by have:=a.o;simp;omega) a.o.2.2.1).trans (((dE 0 0 _ _).frozen a.o.1 xaa).trans (fv o))
      have bP:M (RB _ _ _ _ _/\((∃u,(((aA.setCell _ (.slice L n1 aW)).setCell _ (.slice bX P.length cx)).setCell _ (.slice U aE bs)).cell? _=some u)/\(∃u,(((aA.setCell _ (.slice L n1 aW)).setCell _ (.slice bX P.length cx)).setCell _ (.slice U aE bs)).cell? _=some u)/\(∃u,(((aA.setCell _ (.slice L n1 aW)).setCell _ (.slice bX P.length cx)).setCell _ (.slice U aE bs)).cell? _=some u))/\(∀o,(((aA.setCell ⟨D.heap.size,0,none⟩ (.slice L n1 aW)).setCell ⟨D.heap.size,1,none⟩ (.slice bX P.length cx)).setCell ⟨D.heap.size,2,none⟩ (.slice U aE bs)).frozen? ⟨w.heap.size,o,none⟩=false)):=
       ⟨⟨yaj hh a0.size,aP,aQ,aU,by simp[eS 0],by simp[eS 1],by simp[eS 2]⟩,⟨⟨_,(lq ep).trans cg⟩,⟨_,(lq ep).trans a1⟩,⟨_,(lq ep).trans a2⟩⟩,λo=>by simp[c7 o]⟩
      have R3:M _:=bF.o _ _ _ a0 yac (.inl xac) (.inl a.o.2.2.2.2);clear a0 f5 f6 f7 eS c7 aP aQ aU bK a9 bj hr hs ht;exact xhs
     case rest=>
      clear bq ak az c0 c1 c2 ey I bh fv;obtain⟨X,P,r,bX,cx,cX,rfl,rfl,ds,bL,bF⟩:=hcut;obtain⟨⟨_,bJ,ba,bu,bG,bB,bQ⟩,⟨⟨_,b1⟩,⟨_,bw⟩,⟨_,p2⟩⟩,c7⟩:=bL.o;have ho:=c7 0;have hp:=c7 1;have hq:=c7 2;clear c7 bL;go_upto_region 22 with fail;clear bJ ba bu bG bB bQ b1 bw p2 ho hp hq;unfold eY at bF;generalize ((wc.setCell _ _).setCell ⟨_,1,_⟩ _).setCell _ _=bz at bF⊢;have cm:=bF.o.m.cell i (ih eb.o);have gb:=bF.o.m.free i
      have bm:M (∃R a2 cap,LJ w (bz.setCell _ (.int _ r)) _ _ _ _ _ _ _ _ _ (jst _ x t _).1 (jst _ x t _).2 _ R a2 cap):=⟨_,_,_,by
       have:=bF.o.set i r
       rw[ci.o]
       rw[ds.o.2]at this⊢
       rw[ds.o.1]at this
       exact this⟩
      clear bF ds;generalize bc.getD i 0=aX at cm;exact xge
   obtain rfl:j=s-x:=xaa;have cd:¬((x+1+(s-x):Nat)<=(s:Int)):=xaa;have cf:s<(jst vs x t (s-x)).2.length:=by rw[oV,O.o];exact ai
   have cs:=m.m.cell s cf;have e0:=vf vs x t (s-x) s;exact qdc
