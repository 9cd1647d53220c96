import Derived.Test.YtcjhlkdleojbjaaGreatP21
import Derived.Test.YtcjhlkdleojbjaaGreatP37
namespace Go.Proofs.Z
variable{Zp:Prop}
open Tryz
set_option maxRecDepth 1000000
set_option maxHeartbeats 0
open Go.RowKit Flt
attribute[local go_sem] eF eE eD
theorem h.qad(h:Zp:=by
 exact qdu):Zp:=h
theorem h.qdv(h:Zp:=by
 have bv:¬((s:Int)<x):=xaa;go_upto_region 7 with fail;clear bK bu p2 bG f1 f2 bm;generalize ((ag.setCell _ _).setCell _ _).setCell _ _=dc at HL dd⊢;rw[<-bB.o]at HL e6;generalize (Value.slice U _ _).ownBlock=ah at HL e6;have gT:E _:=Ct bB.o au b2.o (ro (hL bB.o et.o)) ar (λi hi q ap=>hJ (ej.o i hi q ap));have eg:E ((jg vs x (s-x)).length=n2):=by show _=_;rw[oA,bB.o]
 generalize jg _ x _=act at dd be gT eg ar;clear ar;have am:=wD (s+1) dc xaa;rw[show(s+1:Nat)=(s:Int)+1 from rfl]at am;have hv:IntKind.i64.wrap (s+1)=s+1:=by rw[IntKind.wrap_i64];omega
 have e1:(0:Int)<=s+1:=xaa
 have cR:E (LG w (dc.alloc (.cells (madeCells #[hA 0] (s+1)) 3)) dc.heap.size A R Z aH aa ab Y ins outs vs (kY 0 (s+1)) act aA.heap.size ah U bf):=by
  have bh:=ez 0 0 dc (.cells (madeCells #[hA 0] (s+1)) 3);have e:kY 0 (s+1)=List.replicate (s+1) 0:=by simp[kY]
  rw[e];exact⟨HL.o.keep bh,IR.made dc _,BR.keep dd.o bh yaa,HL.o.far yad,e6.o,hJ (BR.lt dd.o)⟩
 generalize dc.alloc _=aF at am cR;generalize dc.heap.size=a6 at am cR;clear HL dd e6;go_wp2_with fail;clear am;generalize aA.heap.size=base at cR bA;go_loopw [11] (λv W=>∃k:Nat,k<=s+1/\v=hA k/\E (LG w W a6 A R Z aH aa ab Y ins outs vs (kY k (s+1)) act base ah U bf)) (λv _=>s+1-(intOf v).toNat)
 case atStart=>exact⟨0,yae,rfl,cR⟩
 case round=>
  obtain⟨k,O,rfl,m⟩:=hrel
  clear cR
  by_cases aG:k<s+1
  ·have c1:=IR.cell m.o.m k (by rw[vo k _ O];exact aG)
   have c2:=IR.free m.o.m k
   have R1:E (LG w (wr.setCell ⟨a6,k,none⟩ (hA (-1))) a6 A R Z aH aa ab Y ins outs vs (kY (k+1) (s+1)) act base ah U bf):=by
    have:=m.o.set k (-1)
    rw[vq aG]at this
    exact this
   clear m
   generalize (kY k _).getD k 0=z at c1
   have bq:(0:Int)<=k:=xaa
   have aw:(k:Int)<s+1:=xaa
   have ak:(k:Int)<=s:=xaa
   exact xha
  obtain rfl:k=s+1:=xaa
  have c9:=m.o
  rw[vp]at c9
  have ei:E _:=c9
  have aZ:=c9.l.g.c0
  have ax:=c9.l.g.c1
  have aU:=c9.l.g.c2
  have ak:¬((s+1:Nat)<=(s:Int)):=xaa
  have bg:vs.length<=1000000:=hJ bB.o
  clear m c9
  go_wp2_with fail
  refine yaj (LK.call ei.o.l hI ⟨1,1,0,0,0,_⟩ bg) ?_
  rintro e bc ⟨aq,cap',rfl,⟨_,br⟩,⟨_,ay⟩,⟨_,a0⟩,al,aI⟩
  have bZ:=al 0
  have b5:=al 1
  have b6:=al 2
  have bQ:E (LG w _ _ A _ _ _ _ _ _ _ _ (xK _ s).1 _ _ _ _ _ _):=ei.o.stq aI.o.1 aI.o.2
  clear al aI ei aZ ax aU
  unfold fw at bQ
  have G:E _:=λW=>jO W R (some ⟨aq,0,none⟩) aa Z aH _ cap' ab Y (show vs.length+1<=1000000 by have:=bB.o;omega)
  rw[show(vs.length+1:Nat)-1=(vs.length:Int) by omega]at G
  go_upto_region 13 with fail
  generalize ((bc.setCell _ _).setCell ⟨_,1,_⟩ _).setCell _ _=bp at bQ⊢
  clear br ay a0 bZ b5 b6
  have aZ:=bQ.o.l.g.c0
  have ax:=bQ.o.l.g.c1
  rw[show(xK _ s).1.length=vs.length+1 by simp[xK]]at ax
  have aU:=bQ.o.l.g.c2
  go_wp2_with fail
  refine yaj (G.o _) ?_
  rintro e cl ⟨rfl,bU⟩
  have bL:E _:=bQ.o.keep bU
  have c1:=IR.cell bL.o.m s xac
  have c2:=IR.free bL.o.m s
  generalize (List.replicate _ (-1:Int)).getD s 0=z at c1
  have c7:E (∃H U cap,LG w _ _ A _ _ _ _ _ _ _ _ (gdn _ act s 0).1 ((gdn _ act s 0).2.take _) _ _ H U cap):=⟨_,_,_,by
   have:=bL.o.set s ((vs.length:Nat):Int)
   rw[Em vs s (hL bB.o au)]at this
   exact this⟩
  clear bQ bL G aZ ax aU bU
  have bI:(s:Int)<s+1:=xaa
  go_wp2_with fail
  clear c1 c2
  generalize cl.setCell ⟨_,s,_⟩ _=ci at c7⊢
  go_loopw [12] (λv W=>∃(i j:Nat),v=hA i/\i+j=s/\j<=s-x/\E (∃H U cap,LG w W a6 A R Z aH aa ab Y ins outs (gdn vs act s j).1 ((gdn vs act s j).2.take (s+1)) act base H U cap)) (λv _=>(intOf v).toNat)
  case atStart=>exact⟨s,0,rfl,rfl,yae,c7⟩
  case round=>
   obtain⟨i,j,rfl,eL,hj,m⟩:=hrel
   clear c7
   obtain⟨H,a4,fj,m⟩:=m.o
   have aM:=gT.o j xaa
   by_cases aG:j<s-x
   ·have ew:(x:Int)<i:=xaa
    have aV:i<n2:=xaa
    have gu:i<=s:=xaa
    have bW:(0:Int)<=i:=xaa
    have bO:(i:Int)<n2:=xaa
    have d6:(i:Int)<s+1:=xaa
    have cy:E (gdn vs act s (j+1)=giM vs act i (gdn vs act s j)):=by
     show _=_
     rw[gdn,show s-j=i by omega]
    have hp:IntKind.i64.wrap (i-1)=i-1:=by rw[IntKind.wrap_i64];omega
    have fM:E (i+j=s/\j<s-x):=⟨eL,aG⟩
    have cS:E (2001+12*j<=700000/\51000+12000*(j:Int)<=700000000):=by constructor<;>omega
    obtain⟨v,aO⟩:∃v,v=vs.getD i hF:=⟨_,rfl⟩
    have bH:E _:=aO
    have d3:=ct.o i aV
    have d4:=ej.o i aV
    rw[<-aO]at d3 d4
    have e7:E _:=d4
    have a5:E _:=Cc _ d3.1 d3.2
    generalize gdn _ _ s j=st at m aM cy
    generalize 2001+12*j=gf at aM cS
    generalize 51000+12000*(j:Int)=C0 at aM cS
    clear aO d4 eL aG hj
    have cc:E _:=aM
    have fP:E _:=m
    have cH:i<st.1.length:=by have:=(aM.p.at_ (show i<vs.length by rw[bB.o];exact aV)).2;exact this
    have eA:st.1.getD i hF=v:=by rw[bH.o];exact(aM.p.at_ (show i<vs.length by rw[bB.o];exact aV)).1
    have d0:=fI v.op
    obtain⟨bJ,rfl,rfl,_,_⟩:=m.l.read xaa
    have hr:i<(st.1.length:Int):=xaa
    clear aM m
    by_cases aK:st.2.getD i 0=-1
    ·
     have g5:giM vs act i st=st:=by unfold giM;rw[hD aK]
     have R1:E (∀W,LG w W a6 A _ Z aH aa ab Y _ outs _ _ _ _ (some bJ) (some ⟨bJ,0,none⟩) fj->∃H U cap,LG w W _ A R _ _ _ _ _ ins _ (gdn _ _ s _).1 ((gdn _ _ s _).2.take (s+1)) act base H U cap):=λW h=>⟨_,_,_,by rw[cy.o,g5];exact h⟩
     clear g5
     go_wp2_with fail
     go_loopw [13] (λu W=>∃k:Nat,k<=cnt v.op/\u=hA k/\E (LG w W a6 A R Z aH aa ab Y ins outs st.1 (st.2.take (s+1)) act base (some bJ) (some ⟨bJ,0,none⟩) fj)) (λu _=>cnt v.op-(intOf u).toNat)
     case atStart=>exact⟨0,yae,rfl,fP⟩
     case round=>
      obtain⟨k,O,rfl,aW⟩:=hrel
      clear fP
      have aP:=aW.o.l.g.c1
      obtain⟨c8,dg,_,_,a2⟩:=aW.o.l.read xaa
      cases dg
      have a7:=a2 i cH
      rw[eA]at a7
      obtain⟨bD,aQ,a8,bi,bk,K⟩:=a7
      clear a2
      by_cases cB:k<cnt v.op
      ·obtain⟨o,ho,gv⟩:∃o:Nat,fld v k=o/\o<i:=by
        exact xiy
       have cJ:E (∀W,Calls _ _ _ W λe B=>e=.returned (.int _ o)/\Kept 0 0 W _):=λW=>by rw[<-ho];exact mj W v k xaa
       have bP:k<(cnt v.op:Int):=xaa
       have fo:IntKind.i64.wrap (k+1)=k+1:=by rw[IntKind.wrap_i64];omega
       clear ho
       go_wp2_with (first|(go_at_call 51;refine yaj (a5.o _) ?_;rintro e cl ⟨rfl,rfl⟩)|fail)
       refine yaj (cJ.o _) ?_
       rintro e ci ⟨rfl,bI⟩
       have C:E _:=aW.o.keep bI
       have bm:=BR.cell C.o.a i (hL eg.o aV)
       have cV:=IR.cell C.o.m i (by rw[List.length_take,cc.o.l];omega)
       rw[mO gu,aK]at cV
       clear aP bD aQ a8 bi bk K bI cJ aW
       cases hb:act.getD i false
       all_goals
        rw[hb]at bm
        clear hb
        go_wp2_with fail
        clear bm cV
        go_roundw;exact⟨k+1,by omega,by go_num,C⟩;simp[intOf];omega
      ·have bP:¬(k<(cnt v.op:Int)):=xaa
       have R2:E _:=R1.o _ aW.o
       clear aW
       exact xdq
    
    have hd0:0<=st.2.getD i 0:=by rcases cc.o.i i aV with c|c;exact absurd c aK;exact c.1
    have g3:act.getD i false=true:=by rcases cc.o.i i aV with c|c;exact absurd c aK;exact c.2
    have hh:E (giM vs act i st=jI vs act i st (cnt v.op)):=by
     show _=_
     unfold giM
     rw[hC aK,<-bH.o]
    have g1:E (∀q,q<cnt _->(fld (vs.getD i _) q).toNat≠i):=λq ap=>by rw[<-bH.o];have:=e7.o q ap;omega
    have g2:E (∃H U cap,LG w _ _ A _ _ _ _ _ _ _ _ (jI vs act i _ 0).1 ((jI vs act i _ 0).2.take _) _ _ H U cap):=⟨_,_,_,fP.o⟩
    have ed:E _:=hd0
    have hk:E _:=g3
    clear aK hd0 g3 fP cH eA
    go_wp2_with fail
    go_loopw [13] (λu W=>∃k:Nat,k<=cnt v.op/\u=hA k/\E (∃H U cap,LG w W a6 A R Z aH aa ab Y ins outs (jI vs act i st k).1 ((jI vs act i st k).2.take (s+1)) act base H U cap)) (λu _=>cnt v.op-(intOf u).toNat)
    case atStart=>exact⟨0,yae,rfl,g2⟩
    case round=>
     obtain⟨k,O,rfl,aW⟩:=hrel
     clear g2
     obtain⟨H,bN,bR,aW⟩:=aW.o
     have P:Pre _ (jI _ act i _ k).1:=tW cc.o.p k
     have gx:=xJ (ro (hL bB.o et.o)) (act:=act) (i:=i) cc.o.z k
     have ex:=ue cc.o.i cc.o.l ed.o k (λq ap=>g1.o q xaa)
     have di:(jI vs act i st k).2.length=n2:=by rw[qB];exact cc.o.l
     have g4:0<=(jI vs act i st k).2.getD i 0:=by rw[ud k (λq ap=>g1.o q xaa)];exact ed.o
     have fS:E (jI vs act i st (k+1)=gkM _ _ i k _):=rfl
     have g0:E (k=cnt _->gdn _ _ s _=jI _ _ i _ k):=λe=>by rw[cy.o,hh.o,e]
     generalize jI _ _ i _ k=y at aW P gx ex di g4 fS g0
     have cq:i<vs.length:=hL bB.o aV
     have cH:=(P.at_ cq).2
     have eA:y.1.getD i hF=v:=by rw[bH.o];exact(P.at_ cq).1
     obtain⟨bJ,rfl,rfl,b3,a2⟩:=aW.l.read xaa
     have bd:y.1.length<=800000/\n2<=y.1.length:=⟨hK gx.1 cS.o,by obtain⟨r,e⟩:=P;rw[e,yal,bB.o];omega⟩
     have a7:=a2 i cH
     rw[eA]at a7
     have ec:E _:=a7
     obtain⟨bD,aQ,a8,bi,bk,K⟩:=a7
     have aP:=aW.l.g.c1
     have hr:i<(y.1.length:Int):=xaa
     have ao:E _:=aW
     have cF:E _:=P
     have hl:E _:=ex
     have eu:E _:=di
     clear a2 aW P gx ex di
     by_cases cB:k<cnt v.op
     ·obtain⟨o,ho,gv⟩:∃o:Nat,fld v k=o/\o<i:=by
       exact xiy
      have cJ:E (∀W,Calls _ _ _ W λe B=>e=.returned (.int _ o)/\Kept 0 0 W _):=λW=>by rw[<-ho];exact mj W v k xaa
      have fG:E (gkM vs act i k y=if act.getD o false=true/\ph v k=true then ms vs o (nd (i:Int) v (laM vs i) k (y.2.getD i 0) y.1.length).2 (y.1++(nd (i:Int) v (laM vs i) k (y.2.getD i 0) y.1.length).1,y.2)else y):=by
       show _=_
       unfold gkM
       rw[<-bH.o,ho]
       rfl
      have bP:k<(cnt v.op:Int):=xaa
      have fo:IntKind.i64.wrap (k+1)=k+1:=by rw[IntKind.wrap_i64];omega
      have d7:(0:Int)<=o:=xaa
      have cn:(o:Int)<n2:=xaa
      have bT:(o:Int)<s+1:=xaa
      clear ho
      go_wp2_with (first|(go_at_call 51;refine yaj (a5.o _) ?_;rintro e cl ⟨rfl,rfl⟩)|fail)
      refine yaj (cJ.o _) ?_
      rintro e ci ⟨rfl,bI⟩
      have C:E _:=ao.o.keep bI
      have f8:E _:=ec.o.keep b3 bI yaa
      have bm:=BR.cell C.o.a i (hL eg.o aV)
      rw[hk.o]at bm
      have cV:=IR.cell C.o.m i (by rw[List.length_take,eu.o];omega)
      rw[mO gu]at cV
      have f7:=BR.cell C.o.a o (hN eg.o)
      generalize f0:y.2.getD i 0=d at cV fG g4
      have hu:¬(d<0):=xaa
      clear aP bD aQ a8 bi bk K bI cJ ao ec b3 f0
      cases hb:act.getD o false
      ·rw[hb]at f7
       have R3:E (∃H U cap,LG w _ _ A _ _ _ _ _ _ _ _ (jI _ _ i _ _).1 ((jI _ _ i _ _).2.take _) _ _ H U cap):=⟨_,_,_,by
        rw[fS.o,fG.o,hC (by rw[hb];simp)]
        exact C.o⟩
       clear hb C f8
       go_wp2_with fail
       clear bm cV f7
       exact xdn
      ·rw[hb]at f7
       have gb:E (gkM vs act i k y=if ph v k=true then ms vs o (nd (i:Int) v (laM vs i) k d y.1.length).2 (y.1++(nd (i:Int) v (laM vs i) k d y.1.length).1,y.2)else y):=by
        show _=_
        rw[fG.o,hb]
        simp
       have aZ:=C.o.l.g.c0
       have ax:=C.o.l.g.c1
       have aU:=C.o.l.g.c2
       have df:E (∀az,Kept 0 0 ci az->Calls prog 140 #[eZ R Z aH (some ⟨bJ,0,none⟩) y.1.length bR aa ab Y,hA i,hA k,hA d] az λe bp=>∃(p:List Vl) (r:Int) (bN:Option Addr) (n:Nat) (ce:Option Nat),e=.returned (.tuple #[eZ R Z aH bN p.length n aa ab Y,hA r,.bool (ph v k)])/\(∀J o,J<az.heap.size->J≠bJ->bp.cell? ⟨J,o,none⟩=az.cell? ⟨J,o,none⟩)/\(∀J o,J<az.heap.size->J≠bJ->bp.frozen? ⟨J,o,none⟩=az.frozen? ⟨J,o,none⟩)/\az.heap.size<=bp.heap.size/\E (p=y.1++(ptM (i:Int) v (laM vs i) k d y.1.length).1/\r=(ptM (i:Int) v (laM vs i) k d y.1.length).2)/\
         E (∀(l h':Nat) (cl:World),Kept l h' bp cl->ci.heap.size<=l->(h'<=az.heap.size\/bp.heap.size<=l)->(bJ<l\/h'<=bJ)->LG w (fw cl w.heap.size (.slice R Z aH) (.slice bN p.length n) (.slice aa ab Y)) a6 A R Z aH aa ab Y ins outs p (y.2.take (s+1)) act base ce bN n)):=λaz aj=>by
        refine(OS az R aa Z aH bR ab Y base bJ i y.1 v (laM vs i) k d (C.o.keep aj).l.g.own (C.o.keep aj).l.g.sz bd.1 cH (f8.o.keep (eH C.o.l.g.own (k:=bJ) rfl).2 aj yaa) d3 cB (λhm=>by
         obtain⟨f6,F,N,h3,_⟩:=PH (hL bB.o cD.o) i (hL bB.o aV) (hM bH.o hm)
         exact⟨_,hL bH.o F,hK bd.2 bB.o,by rw[(Pre.at_ cF.o N).1];exact h3⟩)).mono ?_
        rintro e bp ⟨bN,n,ce,rfl,e2,e3,dT⟩
        have ad:∀J,J≠bJ->¬((λ_=>False) J\/some bJ=some J):=λJ aT=>by rintro (c|c);exact c;cases c;exact aT rfl
        refine⟨_,_,_,_,ce,rfl,λJ o aT aJ=>dT.chg.cell aT (ad J aJ),λJ o aT aJ=>dT.chg.frozen aT (ad J aJ),dT.chg.size,⟨rfl,rfl⟩,λl h' cl bU af cj b3=>?_⟩
        have bx:=C.o.l.step aj e2 e3 dT bU af (λg aJ=>by
         rcases dT.row with c|⟨r,c,aD⟩
         ·rw[c]at aJ;cases aJ;exact b3
         ·rw[c]at aJ;cases aJ
          have:=(eH e2 (e3.trans c)).2
          omega)
        exact C.o.stq bx.1 bx.2
       have I:E (w.heap.size<ci.heap.size/\a6<ci.heap.size/\w.heap.size≠bJ/\a6≠bJ/\bJ<ci.heap.size):=⟨C.o.l.g.lt,IR.lt C.o.m,λc=>C.o.l.g.ne (by rw[c]),λc=>C.o.fm.r (by rw[c]),(eH C.o.l.g.own rfl).2⟩
       have ev:=C.o.l.g.free
       clear hb f8 C
       go_upto_region 22 with fail
       clear bm f7
       go_cut [15,16,17] (λeB gP ek cd=>∃(X:Nat) (p:List Vl) (r:Int) (bN:Option Addr) (n:Nat) (ce:Option Nat),eB=hy X/\gP=hA r/\ek=.bool (ph v k)/\E (p=y.1++(ptM (i:Int) v (laM vs i) k d y.1.length).1/\r=(ptM (i:Int) v (laM vs i) k d y.1.length).2)/\E (RB cd X (.slice R Z aH) (.slice bN p.length n) (.slice aa ab Y)/\((∃u,cd.cell? ⟨w.heap.size,0,none⟩=some u)/\(∃u,cd.cell? ⟨w.heap.size,1,none⟩=some u)/\(∃u,cd.cell? ⟨w.heap.size,2,none⟩=some u))/\(∀o,cd.frozen? ⟨w.heap.size,o,none⟩=false))/\E (LG w (fw cd w.heap.size (.slice R Z aH) (.slice bN p.length n) (.slice aa ab Y)) a6 A R Z aH aa ab Y ins outs p (y.2.take (s+1)) act base ce bN n))
       case first=>
        have ee:w.heap.size≠ci.heap.size:=hJ I.o
        have gp:a6≠ci.heap.size:=hJ I.o
        have bE:E (∀J o,J<ci.heap.size->(ci.alloc _).drew.cell? ⟨J,o,none⟩=ci.cell? _):=λJ o aT=>(ez 0 0 _ fJ).cell aT xaa
        go_region_held3 (λW:World=>W.cell? ⟨w.heap.size,0,none⟩=some (.slice R Z aH)/\W.cell? ⟨w.heap.size,1,none⟩=some (hz bJ y.1.length bR)/\W.cell? ⟨w.heap.size,2,none⟩=some (.slice aa ab Y)/\W.cell? ⟨a6,i,none⟩=some (hA d)) (first|go_keep|(simp only[jD _ _ _ _ _ _ _ ee,jD _ _ _ _ _ _ _ gp];exact⟨b0,a1,U,a3⟩)) (first
         |(go_at_call 140;refine yaj (df.o _ ((ez 0 0 _ _).trans (eG _))) ?_;rintro e bp ⟨p,r,bN,n,ce,rfl,b7,cG,cP,cM,ai⟩;have b0:=(b7 _ 0 (by have:=I.o;simp;omega) I.o.2.2.1).trans ((bE.o _ 0 I.o.1).trans aZ);have a1:=(b7 _ 1 (by have:=I.o;simp;omega) I.o.2.2.1).trans ((bE.o _ 1 I.o.1).trans ax);have U:=(b7 _ 2 (by have:=I.o;simp;omega) I.o.2.2.1).trans ((bE.o _ 2 I.o.1).trans aU);have a3:=(b7 _ i (by have:=I.o;simp;omega) I.o.2.2.2.1).trans ((bE.o _ i I.o.2.1).trans cV);have cQ:E _:=cG;have bD:=b7 ci.heap.size 0 xac (hJ I.o);have aQ:=b7 ci.heap.size 1 xac (hJ I.o);have a8:=b7 ci.heap.size 2 xac (hJ I.o);have en:=cG ci.heap.size 0 xac (hJ I.o);have ep:=cG ci.heap.size 1 xac (hJ I.o);have er:=cG ci.heap.size 2 xac (hJ I.o);have eb:E _:=cP;clear b7 cG cP)
         |(go_at_call 140;refine yaj (df.o _ (eG _)) ?_;rintro e bp ⟨p,r,bN,n,ce,rfl,b7,cG,cP,cM,ai⟩;have b0:=(b7 _ 0 I.o.1 I.o.2.2.1).trans aZ;have a1:=(b7 _ 1 I.o.1 I.o.2.2.1).trans ax;have U:=(b7 _ 2 I.o.1 I.o.2.2.1).trans aU;have a3:=(b7 _ i I.o.2.1 I.o.2.2.2.1).trans cV;have cQ:E _:=cG;have ck:w.heap.size≠bp.heap.size:=(by have:=I.o;have:ci.heap.size<=bp.heap.size:=cP;omega);have cU:a6≠bp.heap.size:=(by have:=I.o;have:ci.heap.size<=bp.heap.size:=cP;omega);have eb:E _:=cP;clear b7 cG cP))
        ·have dv:ci.heap.size<=bp.heap.size:=eb.o
         have bh:=ez 0 0 bp (.cells #[.slice R Z aH,.slice bN p.length n,.slice aa ab Y] 26)
         have cX:w.heap.size<bp.heap.size:=hJ I.o
         have R2:E (RB (bp.alloc (.cells #[.slice R Z aH,.slice bN p.length n,.slice aa ab Y] 26)) bp.heap.size (.slice R Z aH) (.slice bN p.length n) (.slice aa ab Y)/\((∃u,(bp.alloc _).cell? _=some u)/\(∃u,(bp.alloc _).cell? _=some u)/\(∃u,(bp.alloc _).cell? _=some u))/\(∀o,(bp.alloc _).frozen? _=false)):=
          ⟨⟨by simp,by simp,by simp,by simp,by simp,by simp,by simp⟩,⟨⟨_,(bh.cell cX xaa).trans b0⟩,⟨_,(bh.cell cX xaa).trans a1⟩,⟨_,(bh.cell cX xaa).trans U⟩⟩,λo=>(bh.frozen cX xaa).trans ((cQ.o _ o I.o.1 I.o.2.2.1).trans (ev o))⟩
         have R3:E _:=ai.o _ bp.heap.size _ (ez _ _ _ (.cells #[.slice R Z aH,.slice bN p.length n,.slice aa ab Y] 26)) dv yab (.inl (hJ I.o))
         exact xik
        ·have dv:=yao (ez 0 0 _ _).size eb.o
         have S:=ft bp ci.heap.size (.slice R Z aH) (.slice bN p.length n) (.slice aa ab Y)
         have cX:w.heap.size<bp.heap.size:=hJ I.o
         have gs:ci.heap.size<bp.heap.size:=yak xac eb.o
         have fu:bp.cell? _=some (.slice none 0 0):=bD.trans xac
         have fv:bp.cell? _=some (.slice none 0 0):=aQ.trans xac
         have fz:bp.cell? _=some (.slice none 0 0):=a8.trans xac
         obtain⟨ba,aP,y2⟩:=fp _ _ _ _ _ fu fv fz (.slice R Z aH) (.slice bN p.length n) (.slice aa ab Y)
         have ef:∀o,bp.frozen? _=false:=λo=>(cQ.o ci.heap.size o xac (hJ I.o)).trans xac
         have cu:∀o,_:=λo=>(cQ.o _ o (by have:=I.o;simp;omega) I.o.2.2.1).trans (((ez 0 0 _ _).frozen I.o.1 xaa).trans (ev o))
         have R2:E (RB _ _ _ _ _/\((∃u,(((bp.setCell _ (.slice R Z aH)).setCell _ (.slice bN p.length n)).setCell _ (.slice aa ab Y)).cell? _=some u)/\(∃u,(((bp.setCell _ (.slice R Z aH)).setCell _ (.slice bN p.length n)).setCell _ (.slice aa ab Y)).cell? _=some u)/\(∃u,(((bp.setCell _ (.slice R Z aH)).setCell _ (.slice bN p.length n)).setCell _ (.slice aa ab Y)).cell? _=some u))/\(∀o,(((bp.setCell ⟨ci.heap.size,0,none⟩ (.slice R Z aH)).setCell ⟨ci.heap.size,1,none⟩ (.slice bN p.length n)).setCell ⟨ci.heap.size,2,none⟩ (.slice aa ab Y)).frozen? ⟨w.heap.size,o,none⟩=false)):=
          ⟨⟨yak gs S.size,ba,aP,y2,by simp[ef 0],by simp[ef 1],by simp[ef 2]⟩,⟨⟨_,(jD _ _ _ _ _ _ _ ee).trans b0⟩,⟨_,(jD _ _ _ _ _ _ _ ee).trans a1⟩,⟨_,(jD _ _ _ _ _ _ _ ee).trans U⟩⟩,λo=>by simp[cu o]⟩
         have R3:E _:=ai.o _ _ _ S yad (.inl xac) (.inl I.o.2.2.2.2)
         clear S fu fv fz ef cu ba aP y2 bD aQ a8 en ep er
         exact xik
       case rest=>
        clear aZ ax aU cV df ev
        obtain⟨X,p,r,bN,n,ce,rfl,rfl,rfl,cM,bF,ai⟩:=hcut
        obtain⟨⟨_,bn,aX,bb,bz,bo,bw⟩,⟨⟨_,bK⟩,⟨_,bu⟩,⟨_,p2⟩⟩,cu⟩:=bF.o
        have gA:=cu 0
        have gB:=cu 1
        have gE:=cu 2
        clear cu bF
        go_upto_region 24 with fail
        clear bn aX bb bz bo bw bK bu p2 gA gB gE
        unfold fw at ai
        generalize ((wc.setCell _ _).setCell ⟨_,1,_⟩ _).setCell _ _=c6 at ai⊢
        cases el:ph v k
        ·have R3:E (∃H U cap,LG w _ _ A _ _ _ _ _ _ _ _ (jI _ _ i _ _).1 ((jI _ _ i _ _).2.take _) _ _ H U cap):=⟨_,_,_,by
          have e:p=y.1:=by rw[cM.o.1];unfold ptM;rw[hC (by rw[el];simp)];simp
          rw[fS.o,gb.o,hC (by rw[el];simp),<-e]
          exact ai.o⟩
         clear ai cM el
         exact xee
        ·have ds:p=y.1++(nd i v (laM vs i) k d y.1.length).1/\r=(nd i v (laM vs i) k d y.1.length).2:=by
          have e:=cM.o
          unfold ptM at e
          rw[hD el]at e
          exact e
         have gc:E (jI vs act i st (k+1)=ms vs o r (p,y.2)):=by
          show _=_
          rw[fS.o,gb.o,hD el,ds.1,ds.2]
         have eT:o<vs.length:=hJ bB.o
         have hc:p.length<=810000/\o<p.length/\(p.getD o hF).len=(vs.getD o hF).len:=by
          have d5:=zH i v (laM _ i) k d y.1.length (by rw[bH.o];exact(ro (hL bB.o et.o) i).1) (by rw[bH.o];exact(ro (hL bB.o et.o) i).2) (ro (hL bB.o et.o) _).1 (ro (hL bB.o et.o) _).2
          have fs:Pre vs p:=by rw[ds.1];exact Pre.app cF.o
          refine⟨?_,(Pre.at_ fs eT).2,by rw[(Pre.at_ fs eT).1]⟩
          rw[ds.1,yal]
          have:=d5.1
          omega
         obtain⟨hc,f4,cK⟩:=hc
         have eS:(y.2.take (s+1)).length=s+1:=by rw[List.length_take,eu.o];omega
         have e5:=IR.cell ai.o.m o (hN eS)
         rw[mO xaa]at e5
         have he:=IR.free ai.o.m o
         have bY:E _:=(hl.o o xaa).imp (λc=>c) (λc=>c.1)
         have fT:E ((y.2.take (s+1)).getD o 0=y.2.getD o 0):=mO xaa
         clear cM ds eT el
         by_cases ap:y.2.getD o 0=-1
         ·rw[ap]at e5
          have R3:E (∃H U cap,LG w _ _ A _ _ _ _ _ _ _ _ (jI _ _ i _ _).1 ((jI _ _ i _ _).2.take _) _ _ H U cap):=⟨_,_,_,by
           have h:=ai.o.set o r
           rw[gc.o]
           unfold ms
           rw[hD ap]
           rw[rp]at h
           exact h⟩
          clear ai ap bY fT
          exact xee
         ·have ga:E (jI vs act i st (k+1)=(p++[eK 2 (vs.getD o hF).len (y.2.getD o 0) r 0],y.2.set o (p.length:Nat))):=by
           show _=_
           rw[gc.o]
           unfold ms
           rw[hC ap]
          have ha:¬(y.2.getD o 0<0):=by rcases bY.o with c|c;exact absurd c ap;omega
          generalize y.2.getD o 0=q at e5 ha ga fT
          obtain⟨gi,rfl,rfl,_,_⟩:=ai.o.l.read xaa
          clear ap bY gc gb fG
          go_upto_region 27 with fail
          clear e5 he
          refine fk (N8 ai xaa f4 xaa eS cK fT.o ?_)
          intro hs aq cap' _ _ _ _ _ _ _ _ _ _ _ _ _ _ bL
          unfold hy
          have g6:(p++[eK 2 (vs.getD o hF).len q r 0]).length=p.length+1:=by simp
          generalize p++[eK 2 _ q r 0]=gR at bL ga g6
          have aZ:=bL.o.l.g.c0
          have ax:=bL.o.l.g.c1
          have aU:=bL.o.l.g.c2
          have G:E _:=λW=>jO W R (some ⟨aq,0,none⟩) aa Z aH _ cap' ab Y (show gR.length<=1000000 by omega)
          rw[show(gR.length:Int)-1=(p.length:Nat) by omega]at G
          clear ai g6 fT ha
          go_wp2_with fail
          refine yaj (G.o _) ?_
          rintro e hw ⟨rfl,hd⟩
          have cr:E _:=bL.o.keep hd
          have e5:=IR.cell cr.o.m o (hN eS)
          have he:=IR.free cr.o.m o
          generalize (y.2.take _).getD o 0=hf at e5
          have R3:E (∃H U cap,LG w _ _ A _ _ _ _ _ _ _ _ (jI _ _ i _ _).1 ((jI _ _ i _ _).2.take _) _ _ H U cap):=⟨_,_,_,by
           have h:=cr.o.set o ((p.length:Nat):Int)
           rw[ga.o]
           rw[rp]at h
           exact h⟩
          clear bL cr G aZ ax aU hd
          exact xee
     ·have bP:¬(k<(cnt v.op:Int)):=xaa
      have d2:k=cnt v.op:=xaa
      have R2:E (∃H U cap,LG w _ _ A _ _ _ _ _ _ _ _ (gdn _ _ s _).1 ((gdn _ _ s _).2.take _) _ _ H U cap):=⟨_,_,_,by rw[g0.o d2];exact ao.o⟩
      clear d2 ao ec
      exact xdq
   have ew:¬((x:Int)<i):=xaa
   have d1:j=s-x:=xaa
   subst d1
   have cV:=IR.cell m.m x (by rw[List.length_take,aM.l];omega)
   rw[mO xaa]at cV
   have f5:=aM.i x an
   have gy:=aM.z.1
   have hq:(gdn vs act s (s-x)).1.length<=800000:=xaa
   have e0:0<(gdn vs act s (s-x)).1.length:=by
    obtain⟨r,e⟩:=aM.p
    rw[e,yal,bB.o]
    omega
   have eC:E (grM vs s x=if (gdn vs act s (s-x)).2.getD x 0=-1 then ((gdn vs act s (s-x)).1++[eK 1 co 0 0 0],(((gdn vs act s (s-x)).1.length:Nat):Int))else ((gdn vs act s (s-x)).1,(gdn vs act s (s-x)).2.getD x 0)):=by
    show _=_
    rw[be.o,<-gd.o]
    rfl
   obtain⟨bJ,rfl,rfl,_,_⟩:=m.l.read e0
   have HL:E _:=m.l
   have hg:E (a6≠w.heap.size+1/\a6≠w.heap.size):=⟨hJ m.fm.p,hJ m.fm.p⟩
   have cz:(x:Int)<s+1:=xaa
   generalize (gdn _ _ s _).2.getD x 0=mm at cV f5 eC
   clear aM m gy be
   generalize (gdn _ _ s _).1=us at HL eC hq e0
   have aZ:=HL.o.g.c0
   have ax:=HL.o.g.c1
   have aU:=HL.o.g.c2
   obtain⟨_,bn,aX,bb,bz,bo,bw⟩:=HL.o.b
   by_cases ap:mm=-1
   ·subst ap
    have bM:E (grM vs s x=(us++[eK 1 co 0 0 0],(us.length:Int))):=by
     show _=_
     rw[eC.o,hD rfl]
    clear eC f5 bn aX bb bz bo bw
    go_upto_region 30 with fail
    clear cV
    go_cut [] (λcd=>∃aq cap',E (LK w cd R Z aH aa ab Y ins outs (us++[eK 1 co 0 0 0]) base (some aq) (some ⟨aq,0,none⟩) cap'))
    case first=>
     go_region_with (first
      |(go_at_call 44;refine yaj (LK.call HL.o ((eG _).trans aw) _ xaa) ?_;rintro e ag ⟨aq,cap',rfl,⟨_,br⟩,⟨_,ay⟩,⟨_,a0⟩,al,aS⟩;have bZ:=al 0;have b5:=al 1;have b6:=al 2;have cp:E _:=aS.o.1;clear al aS)
      |(go_at_call 71;refine yaj (oT _ _) ?_;rintro e aA ⟨rfl,aw⟩;have bK:=(LK.keep HL.o ((eG _).trans aw)).g.c0;have bu:=(LK.keep HL.o ((eG _).trans aw)).g.c1;have p2:=(LK.keep HL.o ((eG _).trans aw)).g.c2))
     all_goals (go_wp2_with fail;go_meet;exact⟨_,_,cp⟩)
    case rest=>
     obtain⟨aq,cap',aS⟩:=hcut
     have cf:(us++[eK 1 co 0 0 0]).length=us.length+1:=by simp
     generalize aB:us++[eK 1 _ 0 0 0]=p at aS bM cf
     clear aZ ax aU aB HL
     have aZ:=aS.o.g.c0
     have ax:=aS.o.g.c1
     have aU:=aS.o.g.c2
     obtain⟨_,bn,aX,bb,bz,bo,bw⟩:=aS.o.b
     have G:E _:=λW=>jO W R (some ⟨aq,0,none⟩) aa Z aH _ cap' ab Y (show p.length<=1000000 by have:=cf;omega)
     rw[show(p.length:Int)-1=(us.length:Nat) by omega]at G
     clear cf
     go_wp2_with fail
     go_region_with (first
      |(go_at_call 47;refine yaj (G.o _) ?_;rintro e aF ⟨rfl,aR⟩;clear bn aX bb bz bo bw;have aY:=(aS.o.keep ((eG _).trans aR)).g.c0;have aC:=(aS.o.keep ((eG _).trans aR)).g.c1;have aL:=(aS.o.keep ((eG _).trans aR)).g.c2;obtain⟨_,bn,aX,bb,bz,bo,bw⟩:=(aS.o.keep ((eG _).trans aR)).b))
     all_goals
      have ea:E _:=aS.o.a4
      have R1:E _:=aS.o.fin ((eG _).trans aR)
      obtain⟨ba,aP,y2⟩:=fp _ _ _ _ _ bn aX bb (.slice R Z aH) (hz aq p.length cap') (.slice aa ab Y)
      go_wp2_with fail
      refine yaz (v:=.tuple #[eZ R Z aH (some ⟨aq,0,none⟩) p.length cap' aa ab Y,hA us.length]) (by simp[results,results134,go_sem,ba,aP,y2]) rfl ⟨?_,R1.o.2⟩
      rw[bM.o]
      exact⟨_,_,_,_,_,_,rfl,R1.o.1.1,R1.o.1.2.1,R1.o.1.2.2,ea.o⟩
   have bM:E (grM vs s x=(us,mm)):=by
    show _=_
    rw[eC.o,hC ap]
   have g8:¬(mm<0):=by rcases f5 with c|c;exact absurd c ap;omega
   obtain⟨ba,aP,y2⟩:=fp _ _ _ _ _ bn aX bb (.slice R Z aH) (hz bJ us.length fj) (.slice aa ab Y)
   have gr:w.heap.size≠w.heap.size+1:=xaa
   have fm:=hg.o.1
   have hn:=Ne.symm fm
   have cx:E (∀X bS a9:Value,(((wr.setCell _ X).setCell _ bS).setCell _ a9).drew.cell? _=some _):=λX bS a9=>(jD _ _ _ _ X bS a9 fm).trans cV
   exact qfr):Zp:=h
theorem h.qfs(h:Zp:=by
 clear eC f5 ap;go_upto_region 32 with fail;go_region_held3 (λW:World=>W.cell? ⟨w.heap.size,0,none⟩=some (.slice R Z aH)/\W.cell? ⟨w.heap.size,1,none⟩=some (hz bJ us.length fj)/\W.cell? ⟨w.heap.size,2,none⟩=some (.slice aa ab Y)/\W.cell? ⟨a6,x,none⟩=some (hA mm)) (first|go_keep|(exact⟨(cw.o _ _ _ _).trans aZ,(cw.o _ _ _ _).trans ax,(cw.o _ _ _ _).trans aU,cx.o _ _ _⟩)) (fail)
 all_goals
  go_wp2_with fail
  refine yaz (v:=.tuple #[eZ R Z aH (some ⟨bJ,0,none⟩) us.length fj aa ab Y,hA mm]) (by simp[results,results134,go_sem,ba,aP,y2]) rfl ⟨?_,R1.o.2⟩
  rw[bM.o]
  exact⟨_,_,_,_,_,_,rfl,R1.o.1.1,R1.o.1.2.1,R1.o.1.2.2,ea.o⟩):Zp:=h
open h in
theorem Al(w Q ae aN Z c1 n2 c2 ab c3 s x ins vs outs)(f:GS w Q Z (some ⟨aN,0,none⟩) n2 ae ab ins vs outs)(cW:VA w aN n2 vs)(b8:Z<=1000000)(cg:n2<=2000)(cO:ab<=1000000)(bV:(List.range n2).all (okV ins vs)=true)(cT:eU vs<=50000)(au:s<n2)(an:x<n2)(ar:(jg vs x (s-x)).getD s false=true):
  Calls prog 134 #[eZ Q Z c1 (some ⟨aN,0,none⟩) n2 c2 ae ab c3,hA s,hA x] w λe B=>vD w B Z ab ins outs (grM vs s x) e/\Kept 0 0 w B:=by
 have be:E (grM vs s x=N2 vs x (gdn vs (jg vs x (s-x)) s (s-x))):=by
  show _=_;unfold grM G3;rw[hD ar,tZ _ _ _ _ _ yad]
 have gw:¬s<x:=λc=>by
  rw[show s-x=0 by omega,jg,sE xaa,yai,List.getElem?_replicate]at ar
  split at ar<;>simp at ar
 exact qdj
