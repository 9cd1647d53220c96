import Derived.Test.YtiacbhjphaldlaaGreatDoorP42
import Derived.Test.YtiacbhjphaldlaaGreatDoorP23
import Derived.Test.YtiacbhjphaldlaaGreatDoorP37
import Derived.Test.YtiacbhjphaldlaaGreatDoorP40
namespace Go.Proofs.Z
variable{k loc B P am ap st u1 u3 u4}
variable{Zp:Prop}
open Tryz Go.RowKit Flt
set_option maxRecDepth 1000000
set_option maxHeartbeats 0
section
attribute[local go_sem] dI dG dF
theorem g.qad(h:Zp:=by
 exact qec):Zp:=h
theorem g.qed(h:Zp:=by
 have bv:¬((s:Int)<x):=xaa;go_upto_region 7 with fail;clear b1 bw p2 bZ aS bO aj;generalize ((Z.setCell _ _).setCell _ _).setCell _ _=er at bf ew⊢;rw[<-O.o]at bf ga;generalize (Value.slice a2 _ _).ownBlock=bi at bf ga;have hu:M _:=Aw O.o ai cz.o (mw (it O.o T.o)) F (λi hi q an=>ih (e7.o i hi q an));have fk:M ((gL vs x (s-x)).length=aI):=by show _=_;rw[mR,O.o]
 generalize gL _ x _=act at ew br hu fk F;clear F;have aR:=yP (s+1) er xaa;rw[show(s+1:Nat)=(s:Int)+1 from rfl]at aR;have hW:IntKind.i64.wrap (s+1)=s+1:=by rw[IntKind.wrap_i64];omega
 have hV:(0:Int)<=s+1:=xaa
 have c9:M (LG w (er.alloc (.cells (madeCells #[h0 0] (s+1)) 3)) er.heap.size aH L n1 aW U aE bs ins outs vs (jV 0 (s+1)) act aa.heap.size bi a2 bA):=by
  have aL:=dE 0 0 er (.cells (madeCells #[h0 0] (s+1)) 3);have e:jV 0 (s+1)=List.replicate (s+1) 0:=by simp[jV]
  rw[e];exact⟨bf.o.keep aL,IR.made er _,BR.keep ew.o aL yaa,bf.o.far yac,ga.o,ih (BR.lt ew.o)⟩
 generalize er.alloc _=ao at aR c9;generalize er.heap.size=aM at aR c9;clear bf ew ga;go_wp2_with fail;clear aR;generalize aa.heap.size=base at c9 bN;go_loopw [11] (λv W=>∃k:Nat,k<=s+1/\v=h0 k/\M (LG w W aM aH L n1 aW U aE bs ins outs vs (jV k (s+1)) act base bi a2 bA)) (λv _=>s+1-(intOf v).toNat)
 case atStart=>exact⟨0,yad,rfl,c9⟩
 case round=>
  obtain⟨k,H,rfl,m⟩:=hrel
  clear c9
  by_cases aV:k<s+1
  ·have c1:=IR.cell m.o.m k (by rw[pO k _ H];exact aV)
   have c2:=IR.free m.o.m k
   have bm:M (LG w (wr.setCell ⟨aM,k,none⟩ (h0 (-1))) aM aH L n1 aW U aE bs ins outs vs (jV (k+1) (s+1)) act base bi a2 bA):=by
    have:=m.o.set k (-1)
    rw[pQ aV]at this
    exact this
   clear m
   generalize (jV k _).getD k 0=aX at c1
   have bx:(0:Int)<=k:=xaa
   have af:(k:Int)<s+1:=xaa
   have ad:(k:Int)<=s:=xaa
   exact xgr
  obtain rfl:k=s+1:=xaa
  have d1:=m.o
  rw[pP]at d1
  have fs:=Q d1
  have bq:=d1.l.g.c0
  have ak:=d1.l.g.c1
  have az:=d1.l.g.c2
  have ad:¬((s+1:Nat)<=(s:Int)):=xaa
  have e9:vs.length<=1000000:=ih O.o
  clear m d1
  go_wp2_with fail
  refine yai (LK.call fs.o.l ib ⟨1,1,0,0,0,_⟩ e9) ?_
  rintro e a7 ⟨aY,cap',rfl,⟨_,b2⟩,⟨_,r1⟩,⟨_,bp⟩,au,bl⟩
  have a6:=au 0
  have bn:=au 1
  have cc:=au 2
  have ch:M (LG w _ _ aH _ _ _ _ _ _ _ _ (oc _ s).1 _ _ _ _ _ _):=fs.o.stq bl.o.1 bl.o.2
  clear au bl fs bq ak az
  unfold eY at ch
  have b:M _:=λW=>jg W L (some ⟨aY,0,none⟩) U n1 aW _ cap' aE bs (show vs.length+1<=1000000 by have:=O.o;omega)
  rw[show(vs.length+1:Nat)-1=(vs.length:Int) by omega]at b
  go_upto_region 13 with fail
  generalize ((a7.setCell _ _).setCell ⟨_,1,_⟩ _).setCell _ _=aA at ch⊢
  clear b2 r1 bp a6 bn cc
  have bq:=ch.o.l.g.c0
  have ak:=ch.o.l.g.c1
  rw[show(oc _ s).1.length=vs.length+1 by simp[oc]]at ak
  have az:=ch.o.l.g.c2
  go_wp2_with fail
  refine yai (b.o _) ?_
  rintro e b7 ⟨rfl,b3⟩
  have bk:M _:=ch.o.keep b3
  have c1:=IR.cell bk.o.m s xac
  have c2:=IR.free bk.o.m s
  generalize (List.replicate _ (-1:Int)).getD s 0=aX at c1
  have fl:M (∃R a2 cap,LG w _ _ aH _ _ _ _ _ _ _ _ (gdn _ act s 0).1 ((gdn _ act s 0).2.take _) _ _ R a2 cap):=⟨_,_,_,by
   have:=bk.o.set s ((vs.length:Nat):Int)
   rw[BO vs s (it O.o ai)]at this
   exact this⟩
  clear ch bk b bq ak az b3
  have ci:(s:Int)<s+1:=xaa
  go_wp2_with fail
  clear c1 c2
  generalize b7.setCell ⟨_,s,_⟩ _=cf at fl⊢
  go_loopw [12] (λv W=>∃(i j:Nat),v=h0 i/\i+j=s/\j<=s-x/\M (∃R a2 cap,LG w W aM aH L n1 aW U aE bs ins outs (gdn vs act s j).1 ((gdn vs act s j).2.take (s+1)) act base R a2 cap)) (λv _=>(intOf v).toNat)
  case atStart=>exact⟨s,0,rfl,rfl,yad,fl⟩
  case round=>
   obtain⟨i,j,rfl,hC,aK,m⟩:=hrel
   clear fl
   obtain⟨R,a4,gm,m⟩:=m.o
   have bh:=hu.o j xaa
   by_cases aV:j<s-x
   ·have g0:(x:Int)<i:=xaa
    have K:i<aI:=xaa
    have fw:i<=s:=xaa
    have bS:(0:Int)<=i:=xaa
    have i1:(i:Int)<aI:=xaa
    have t:(i:Int)<s+1:=xaa
    have cT:M (gdn vs act s (j+1)=giM vs act i (gdn vs act s j)):=by
     show _=_
     rw[gdn,show s-j=i by omega]
    have hD:IntKind.i64.wrap (i-1)=i-1:=by rw[IntKind.wrap_i64];omega
    have gA:M (i+j=s/\j<s-x):=⟨hC,aV⟩
    have eb:M (2001+12*j<=700000/\51000+12000*(j:Int)<=700000000):=by constructor<;>omega
    obtain⟨v,aD⟩:∃v,v=vs.getD i h7:=⟨_,rfl⟩
    have cd:=Q aD
    have e3:=am.o i K
    have fG:=e7.o i K
    rw[<-aD]at e3 fG
    have gc:=Q fG
    have bM:M _:=KC _ e3.1 e3.2
    generalize gdn _ _ s j=st at m bh cT
    generalize 2001+12*j=hT at bh eb
    generalize 51000+12000*(j:Int)=hS at bh eb
    clear aD fG hC aV aK
    have cb:=Q bh
    have gP:=Q m
    have fm:i<st.1.length:=by have:=(bh.p.at_ (show i<vs.length by rw[O.o];exact K)).2;exact this
    have fO:st.1.getD i h7=v:=by rw[cd.o];exact(bh.p.at_ (show i<vs.length by rw[O.o];exact K)).1
    have dp:=kN v.op
    obtain⟨bW,rfl,rfl,_,_⟩:=m.l.read xaa
    have hQ:i<(st.1.length:Int):=xaa
    clear bh m
    by_cases aT:st.2.getD i 0=-1
    ·
     have hB:giM vs act i st=st:=by unfold giM;rw[h3 aT]
     have bm:M (∀W,LG w W aM aH _ n1 aW U aE bs _ outs _ _ _ _ (some bW) (some ⟨bW,0,none⟩) gm->∃R a2 cap,LG w W _ aH L _ _ _ _ _ ins _ (gdn _ _ s _).1 ((gdn _ _ s _).2.take (s+1)) act base R a2 cap):=λW h=>⟨_,_,_,by rw[cT.o,hB];exact h⟩
     clear hB
     go_wp2_with fail
     go_loopw [13] (λu W=>∃k:Nat,k<=cnt v.op/\u=h0 k/\M (LG w W aM aH L n1 aW U aE bs ins outs st.1 (st.2.take (s+1)) act base (some bW) (some ⟨bW,0,none⟩) gm)) (λu _=>cnt v.op-(intOf u).toNat)
     case atStart=>exact⟨0,yad,rfl,gP⟩
     case round=>
      obtain⟨k,H,rfl,aZ⟩:=hrel
      clear gP
      have aQ:=aZ.o.l.g.c1
      obtain⟨e1,f0,_,_,bo⟩:=aZ.o.l.read xaa
      cases f0
      have ce:=bo i fm
      rw[fO]at ce
      obtain⟨bK,a9,bj,bI,bR,bH⟩:=ce
      clear bo
      by_cases e2:k<cnt v.op
      ·obtain⟨o,av,g2⟩:∃o:Nat,fld v k=o/\o<i:=by
        exact xhw
       have ex:M (∀W,Calls _ _ _ W λe D=>e=.returned (.int _ o)/\Kept 0 0 W _):=λW=>by rw[<-av];exact oU W v k xaa
       have bc:k<(cnt v.op:Int):=xaa
       have gr:IntKind.i64.wrap (k+1)=k+1:=by rw[IntKind.wrap_i64];omega
       clear av
       go_wp2_with (first|(go_at_call 111;refine yai (bM.o _) ?_;rintro e b7 ⟨rfl,rfl⟩)|fail)
       refine yai (ex.o _) ?_
       rintro e cf ⟨rfl,ci⟩
       have p:M _:=aZ.o.keep ci
       have aj:=BR.cell p.o.a i (it fk.o K)
       have c8:=IR.cell p.o.m i (by rw[List.length_take,cb.o.l];omega)
       rw[l4 fw,aT]at c8
       clear aQ bK a9 bj bI bR bH ci ex aZ
       cases I:act.getD i false
       all_goals
        rw[I]at aj
        clear I
        go_wp2_with fail
        clear aj c8
        go_roundw
        case rel=>exact⟨k+1,by omega,by go_num,p⟩
        case measure=>simp[intOf];omega
      ·have bc:¬(k<(cnt v.op:Int)):=xaa
       have bP:M _:=bm.o _ aZ.o
       clear aZ
       exact xdv
    
    have fu:0<=st.2.getD i 0:=by obtain c|c:=cb.o.i i K;exact absurd c aT;exact c.1
    have hz:act.getD i false=true:=by obtain c|c:=cb.o.i i K;exact absurd c aT;exact c.2
    have e6:M (giM vs act i st=iX vs act i st (cnt v.op)):=by
     show _=_
     unfold giM
     rw[h2 aT,<-cd.o]
    have gb:M (∀q,q<cnt _->(fld (vs.getD i _) q).toNat≠i):=λq an=>by rw[<-cd.o];have:=gc.o q an;omega
    have hw:M (∃R a2 cap,LG w _ _ aH _ _ _ _ _ _ _ _ (iX vs act i _ 0).1 ((iX vs act i _ 0).2.take _) _ _ R a2 cap):=⟨_,_,_,gP.o⟩
    have eT:=Q fu
    have hK:=Q hz
    clear aT fu hz gP fm fO
    go_wp2_with fail
    go_loopw [13] (λu W=>∃k:Nat,k<=cnt v.op/\u=h0 k/\M (∃R a2 cap,LG w W aM aH L n1 aW U aE bs ins outs (iX vs act i st k).1 ((iX vs act i st k).2.take (s+1)) act base R a2 cap)) (λu _=>cnt v.op-(intOf u).toNat)
    case atStart=>exact⟨0,yad,rfl,hw⟩
    case round=>
     obtain⟨k,H,rfl,aZ⟩:=hrel
     clear hw
     obtain⟨R,bX,cx,aZ⟩:=aZ.o
     have d2:Pre _ (iX _ act i _ k).1:=oY cb.o.p k
     have hm:=qW (mw (it O.o T.o)) (act:=act) (i:=i) cb.o.z k
     have hj:=r6 cb.o.i cb.o.l eT.o k (λq an=>gb.o q xaa)
     have hk:(iX vs act i st k).2.length=aI:=by rw[oZ];exact cb.o.l
     have hA:0<=(iX vs act i st k).2.getD i 0:=by rw[rZ k (λq an=>gb.o q xaa)];exact eT.o
     have gR:M (iX vs act i st (k+1)=gkM _ _ i k _):=rfl
     have hv:M (k=cnt _->gdn _ _ s _=iX _ _ i _ k):=λe=>by rw[cT.o,e6.o,e]
     generalize iX _ _ i _ k=y at aZ d2 hm hj hk hA gR hv
     have ef:i<vs.length:=it O.o K
     have fm:=(d2.at_ ef).2
     have fO:y.1.getD i h7=v:=by rw[cd.o];exact(d2.at_ ef).1
     obtain⟨bW,rfl,rfl,cr,bo⟩:=aZ.l.read xaa
     have hH:y.1.length<=800000/\aI<=y.1.length:=⟨ip hm.1 eb.o,by obtain⟨r,e⟩:=d2;rw[e,yak,O.o];omega⟩
     have ce:=bo i fm
     rw[fO]at ce
     have ha:=Q ce
     obtain⟨bK,a9,bj,bI,bR,bH⟩:=ce
     have aQ:=aZ.l.g.c1
     have hQ:i<(y.1.length:Int):=xaa
     have bY:=Q aZ
     have hy:=Q d2
     have hL:=Q hj
     have hx:=Q hk
     clear bo aZ d2 hm hj hk
     by_cases e2:k<cnt v.op
     ·obtain⟨o,av,g2⟩:∃o:Nat,fld v k=o/\o<i:=by
       exact xhw
      have ex:M (∀W,Calls _ _ _ W λe D=>e=.returned (.int _ o)/\Kept 0 0 W _):=λW=>by rw[<-av];exact oU W v k xaa
      have ej:M (gkM vs act i k y=if act.getD o false=true/\i8 v k=true then jN vs o (iR (i:Int) v (laM vs i) k (y.2.getD i 0) y.1.length).2 (y.1++(iR (i:Int) v (laM vs i) k (y.2.getD i 0) y.1.length).1,y.2)else y):=by
       show _=_
       unfold gkM
       rw[<-cd.o,av]
       rfl
      have bc:k<(cnt v.op:Int):=xaa
      have gr:IntKind.i64.wrap (k+1)=k+1:=by rw[IntKind.wrap_i64];omega
      have hn:(0:Int)<=o:=xaa
      have ca:(o:Int)<aI:=xaa
      have b6:(o:Int)<s+1:=xaa
      clear av
      go_wp2_with (first|(go_at_call 111;refine yai (bM.o _) ?_;rintro e b7 ⟨rfl,rfl⟩)|fail)
      refine yai (ex.o _) ?_
      rintro e cf ⟨rfl,ci⟩
      have p:M _:=bY.o.keep ci
      have hb:M _:=ha.o.keep cr ci yaa
      have aj:=BR.cell p.o.a i (it fk.o K)
      rw[hK.o]at aj
      have c8:=IR.cell p.o.m i (by rw[List.length_take,hx.o];omega)
      rw[l4 fw]at c8
      have g7:=BR.cell p.o.a o (ix fk.o)
      generalize gT:y.2.getD i 0=d at c8 ej hA
      have hU:¬(d<0):=xaa
      clear aQ bK a9 bj bI bR bH ci ex bY ha cr gT
      cases I:act.getD o false
      ·rw[I]at g7
       have R3:M (∃R a2 cap,LG w _ _ aH _ _ _ _ _ _ _ _ (iX _ _ i _ _).1 ((iX _ _ i _ _).2.take _) _ _ R a2 cap):=⟨_,_,_,by
        rw[gR.o,ej.o,h2 (by rw[I];simp)]
        exact p.o⟩
       clear I p hb
       go_wp2_with fail
       clear aj c8 g7
       exact xdq
      ·rw[I]at g7
       have hd:M (gkM vs act i k y=if i8 v k=true then jN vs o (iR (i:Int) v (laM vs i) k d y.1.length).2 (y.1++(iR (i:Int) v (laM vs i) k d y.1.length).1,y.2)else y):=by
        show _=_
        rw[ej.o,I]
        simp
       have bq:=p.o.l.g.c0
       have ak:=p.o.l.g.c1
       have az:=p.o.l.g.c2
       have ey:M (∀aq,Kept 0 0 cf aq->Calls prog 113 #[fj L n1 aW (some ⟨bW,0,none⟩) y.1.length cx U aE bs,h0 i,h0 k,h0 d] aq λe aA=>∃(P:List Vl) (r:Int) (bX:Option Addr) (n:Nat) (cX:Option Nat),e=.returned (.tuple #[fj L n1 aW bX P.length n U aE bs,h0 r,.bool (i8 v k)])/\(∀B o,B<aq.heap.size->B≠bW->aA.cell? ⟨B,o,none⟩=aq.cell? ⟨B,o,none⟩)/\(∀B o,B<aq.heap.size->B≠bW->aA.frozen? ⟨B,o,none⟩=aq.frozen? ⟨B,o,none⟩)/\aq.heap.size<=aA.heap.size/\M (P=y.1++(ptM (i:Int) v (laM vs i) k d y.1.length).1/\r=(ptM (i:Int) v (laM vs i) k d y.1.length).2)/\
         M (∀(l h':Nat) (b7:World),Kept l h' aA b7->cf.heap.size<=l->(h'<=aq.heap.size\/aA.heap.size<=l)->(bW<l\/h'<=bW)->LG w (eY b7 w.heap.size (.slice L n1 aW) (.slice bX P.length n) (.slice U aE bs)) aM aH L n1 aW U aE bs ins outs P (y.2.take (s+1)) act base cX bX n)):=λaq ae=>by
        refine(Ma aq L U n1 aW cx aE bs base bW i y.1 v (laM vs i) k d (p.o.keep ae).l.g.own (p.o.keep ae).l.g.sz hH.1 fm (hb.o.keep (dO p.o.l.g.own (k:=bW) rfl).2 ae yaa) e3 e2 (λhM=>by
         obtain⟨g6,z,J,al,_⟩:=KH (it O.o em.o) i (it O.o K) (iv cd.o hM)
         exact⟨_,it cd.o z,ip hH.2 O.o,by rw[(Pre.at_ hy.o J).1];exact al⟩)).mono ?_
        rintro e aA ⟨bX,n,cX,rfl,f2,f3,A⟩
        have V:∀B,B≠bW->¬((λ_=>False) B\/some bW=some B):=λB ax=>by rintro (c|c);exact c;cases c;exact ax rfl
        refine⟨_,_,_,_,cX,rfl,λB o ax aG=>A.chg.cell ax (V B aG),λB o ax aG=>A.chg.frozen ax (V B aG),A.chg.size,⟨rfl,rfl⟩,λl h' b7 b3 ab aN cr=>?_⟩
        have d4:=p.o.l.step ae f2 f3 A b3 ab (λg aG=>by
         obtain c|⟨r,c,ah⟩:=A.row
         ·rw[c]at aG;cases aG;exact cr
         ·rw[c]at aG;cases aG
          have:=(dO f2 (f3.trans c)).2
          omega)
        exact p.o.stq d4.1 d4.2
       have a:M (w.heap.size<cf.heap.size/\aM<cf.heap.size/\w.heap.size≠bW/\aM≠bW/\bW<cf.heap.size):=⟨p.o.l.g.lt,IR.lt p.o.m,λc=>p.o.l.g.ne (by rw[c]),λc=>p.o.fm.r (by rw[c]),(dO p.o.l.g.own rfl).2⟩
       have fv:=p.o.l.g.free
       clear I hb p
       go_upto_region 22 with fail
       clear aj g7
       go_cut [15,16,17] (λcP ag e0 b4=>∃(X:Nat) (P:List Vl) (r:Int) (bX:Option Addr) (n:Nat) (cX:Option Nat),cP=ge X/\ag=h0 r/\e0=.bool (i8 v k)/\M (P=y.1++(ptM (i:Int) v (laM vs i) k d y.1.length).1/\r=(ptM (i:Int) v (laM vs i) k d y.1.length).2)/\M (RB b4 X (.slice L n1 aW) (.slice bX P.length n) (.slice U aE bs)/\((∃u,b4.cell? ⟨w.heap.size,0,none⟩=some u)/\(∃u,b4.cell? ⟨w.heap.size,1,none⟩=some u)/\(∃u,b4.cell? ⟨w.heap.size,2,none⟩=some u))/\(∀o,b4.frozen? ⟨w.heap.size,o,none⟩=false))/\M (LG w (eY b4 w.heap.size (.slice L n1 aW) (.slice bX P.length n) (.slice U aE bs)) aM aH L n1 aW U aE bs ins outs P (y.2.take (s+1)) act base cX bX n))
       case first=>
        have ep:w.heap.size≠cf.heap.size:=ih a.o
        have hf:aM≠cf.heap.size:=ih a.o
        have S:M (∀B o,B<cf.heap.size->(cf.alloc _).drew.cell? ⟨B,o,none⟩=cf.cell? _):=λB o ax=>(dE 0 0 _ io).cell ax xaa
        go_region_held3 (λW:World=>W.cell? ⟨w.heap.size,0,none⟩=some (.slice L n1 aW)/\W.cell? ⟨w.heap.size,1,none⟩=some (hZ bW y.1.length cx)/\W.cell? ⟨w.heap.size,2,none⟩=some (.slice U aE bs)/\W.cell? ⟨aM,i,none⟩=some (h0 d)) (first|go_keep|(simp only[lq ep,lq hf];exact⟨cg,a1,a2,a3⟩)) (first
         |(go_at_call 113;refine yai (ey.o _ ((dE 0 0 _ _).trans (dH _))) ?_;rintro e aA ⟨P,r,bX,n,cX,rfl,bU,d0,ec,ds,bF⟩;have cg:=(bU _ 0 (by have:=a.o;simp;omega) a.o.2.2.1).trans ((S.o _ 0 a.o.1).trans bq);have a1:=(bU _ 1 (by have:=a.o;simp;omega) a.o.2.2.1).trans ((S.o _ 1 a.o.1).trans ak);have a2:=(bU _ 2 (by have:=a.o;simp;omega) a.o.2.2.1).trans ((S.o _ 2 a.o.1).trans az);have a3:=(bU _ i (by have:=a.o;simp;omega) a.o.2.2.2.1).trans ((S.o _ i a.o.2.1).trans c8);have cS:=Q d0;have bK:=bU cf.heap.size 0 xac (ih a.o);have a9:=bU cf.heap.size 1 xac (ih a.o);have bj:=bU cf.heap.size 2 xac (ih a.o);have hr:=d0 cf.heap.size 0 xac (ih a.o);have hs:=d0 cf.heap.size 1 xac (ih a.o);have ht:=d0 cf.heap.size 2 xac (ih a.o);have e5:=Q ec;clear bU d0 ec)
         |(go_at_call 113;refine yai (ey.o _ (dH _)) ?_;rintro e aA ⟨P,r,bX,n,cX,rfl,bU,d0,ec,ds,bF⟩;have cg:=(bU _ 0 a.o.1 a.o.2.2.1).trans bq;have a1:=(bU _ 1 a.o.1 a.o.2.2.1).trans ak;have a2:=(bU _ 2 a.o.1 a.o.2.2.1).trans az;have a3:=(bU _ i a.o.2.1 a.o.2.2.2.1).trans c8;have cS:=Q d0;have cI:w.heap.size≠aA.heap.size:=(by have:=a.o;have:cf.heap.size<=aA.heap.size:=ec;omega);have ff:aM≠aA.heap.size:=(by have:=a.o;have:cf.heap.size<=aA.heap.size:=ec;omega);have e5:=Q ec;clear bU d0 ec))
        ·have eN:cf.heap.size<=aA.heap.size:=e5.o
         have aL:=dE 0 0 aA (.cells #[.slice L n1 aW,.slice bX P.length n,.slice U aE bs] 26)
         have ee:w.heap.size<aA.heap.size:=ih a.o
         have bP:M (RB (aA.alloc (.cells #[.slice L n1 aW,.slice bX P.length n,.slice U aE bs] 26)) aA.heap.size (.slice L n1 aW) (.slice bX P.length n) (.slice U aE bs)/\((∃u,(aA.alloc _).cell? _=some u)/\(∃u,(aA.alloc _).cell? _=some u)/\(∃u,(aA.alloc _).cell? _=some u))/\(∀o,(aA.alloc _).frozen? _=false)):=
          ⟨⟨by simp,by simp,by simp,by simp,by simp,by simp,by simp⟩,⟨⟨_,(aL.cell ee xaa).trans cg⟩,⟨_,(aL.cell ee xaa).trans a1⟩,⟨_,(aL.cell ee xaa).trans a2⟩⟩,λo=>(aL.frozen ee xaa).trans ((cS.o _ o a.o.1 a.o.2.2.1).trans (fv o))⟩
         have R3:M _:=bF.o _ aA.heap.size _ (dE _ _ _ (.cells #[.slice L n1 aW,.slice bX P.length n,.slice U aE bs] 26)) eN (.inr yac) (.inl (ih a.o))
         exact xhn
        ·have eN:=yan (dE 0 0 _ _).size e5.o
         have a0:=fN aA cf.heap.size (.slice L n1 aW) (.slice bX P.length n) (.slice U aE bs)
         have ee:w.heap.size<aA.heap.size:=ih a.o
         have hh:cf.heap.size<aA.heap.size:=yaj xac e5.o
         have f5:aA.cell? _=some (.slice none 0 0):=bK.trans xac
         have f6:aA.cell? _=some (.slice none 0 0):=a9.trans xac
         have f7:aA.cell? _=some (.slice none 0 0):=bj.trans xac
         obtain⟨aP,aQ,aU⟩:=fQ _ _ f5 f6 f7 (.slice L n1 aW) (.slice bX P.length n) (.slice U aE bs)
         have eS:∀o,aA.frozen? _=false:=λo=>(cS.o cf.heap.size o xac (ih a.o)).trans xac
         have c7:∀o,_:=λo=>(cS.o _ o (by have:=a.o;simp;omega) a.o.2.2.1).trans (((dE 0 0 _ _).frozen a.o.1 xaa).trans (fv o))
         have bP:M (RB _ _ _ _ _/\((∃u,(((aA.setCell _ (.slice L n1 aW)).setCell _ (.slice bX P.length n)).setCell _ (.slice U aE bs)).cell? _=some u)/\(∃u,(((aA.setCell _ (.slice L n1 aW)).setCell _ (.slice bX P.length n)).setCell _ (.slice U aE bs)).cell? _=some u)/\(∃u,(((aA.setCell _ (.slice L n1 aW)).setCell _ (.slice bX P.length n)).setCell _ (.slice U aE bs)).cell? _=some u))/\(∀o,(((aA.setCell ⟨cf.heap.size,0,none⟩ (.slice L n1 aW)).setCell ⟨cf.heap.size,1,none⟩ (.slice bX P.length n)).setCell ⟨cf.heap.size,2,none⟩ (.slice U aE bs)).frozen? ⟨w.heap.size,o,none⟩=false)):=
          ⟨⟨yaj hh a0.size,aP,aQ,aU,by simp[eS 0],by simp[eS 1],by simp[eS 2]⟩,⟨⟨_,(lq ep).trans cg⟩,⟨_,(lq ep).trans a1⟩,⟨_,(lq ep).trans a2⟩⟩,λo=>by simp[c7 o]⟩
         have R3:M _:=bF.o _ _ _ a0 yac (.inl xac) (.inl a.o.2.2.2.2)
         clear a0 f5 f6 f7 eS c7 aP aQ aU bK a9 bj hr hs ht
         exact xhn
       case rest=>
        clear bq ak az c8 ey fv
        obtain⟨X,P,r,bX,n,cX,rfl,rfl,rfl,ds,bL,bF⟩:=hcut
        obtain⟨⟨_,bJ,ba,bu,bG,bB,bQ⟩,⟨⟨_,b1⟩,⟨_,bw⟩,⟨_,p2⟩⟩,c7⟩:=bL.o
        have ho:=c7 0
        have hp:=c7 1
        have hq:=c7 2
        clear c7 bL
        go_upto_region 24 with fail
        clear bJ ba bu bG bB bQ b1 bw p2 ho hp hq
        unfold eY at bF
        generalize ((wc.setCell _ _).setCell ⟨_,1,_⟩ _).setCell _ _=bz at bF⊢
        cases f1:i8 v k
        ·have R3:M (∃R a2 cap,LG w _ _ aH _ _ _ _ _ _ _ _ (iX _ _ i _ _).1 ((iX _ _ i _ _).2.take _) _ _ R a2 cap):=⟨_,_,_,by
          have e:P=y.1:=by rw[ds.o.1];unfold ptM;rw[h2 (by rw[f1];simp)];simp
          rw[gR.o,hd.o,h2 (by rw[f1];simp),<-e]
          exact bF.o⟩
         clear bF ds f1
         exact xef
        ·have fc:P=y.1++(iR i v (laM vs i) k d y.1.length).1/\r=(iR i v (laM vs i) k d y.1.length).2:=by
          have e:=ds.o
          unfold ptM at e
          rw[h3 f1]at e
          exact e
         have he:M (iX vs act i st (k+1)=jN vs o r (P,y.2)):=by
          show _=_
          rw[gR.o,hd.o,h3 f1,fc.1,fc.2]
         have fM:o<vs.length:=ih O.o
         have hG:P.length<=810000/\o<P.length/\(P.getD o h7).len=(vs.getD o h7).len:=by
          have gv:=rU i v (laM _ i) k d y.1.length (by rw[cd.o];exact(mw (it O.o T.o) i).1) (by rw[cd.o];exact(mw (it O.o T.o) i).2) (mw (it O.o T.o) _).1 (mw (it O.o T.o) _).2
          have d3:Pre vs P:=by rw[fc.1];exact Pre.app hy.o
          refine⟨?_,(Pre.at_ d3 fM).2,by rw[(Pre.at_ d3 fM).1]⟩
          rw[fc.1,yak]
          have:=gv.1
          omega
         obtain⟨hG,hO,g3⟩:=hG
         have hl:(y.2.take (s+1)).length=s+1:=by rw[List.length_take,hx.o];omega
         have f4:=IR.cell bF.o.m o (ix hl)
         rw[l4 xaa]at f4
         have gx:=IR.free bF.o.m o
         have b5:M _:=(hL.o o xaa).imp (λc=>c) (λc=>c.1)
         have gS:M ((y.2.take (s+1)).getD o 0=y.2.getD o 0):=l4 xaa
         clear ds fc fM f1
         by_cases an:y.2.getD o 0=-1
         ·rw[an]at f4
          have R3:M (∃R a2 cap,LG w _ _ aH _ _ _ _ _ _ _ _ (iX _ _ i _ _).1 ((iX _ _ i _ _).2.take _) _ _ R a2 cap):=⟨_,_,_,by
           have h:=bF.o.set o r
           rw[he.o]
           unfold jN
           rw[h3 an]
           rw[pS]at h
           exact h⟩
          clear bF an b5 gS
          exact xef
         ·have hc:M (iX vs act i st (k+1)=(P++[dL 2 (vs.getD o h7).len (y.2.getD o 0) r 0],y.2.set o (P.length:Nat))):=by
           show _=_
           rw[he.o]
           unfold jN
           rw[h2 an]
          have hF:¬(y.2.getD o 0<0):=by obtain c|c:=b5.o;exact absurd c an;omega
          generalize y.2.getD o 0=q at f4 hF hc gS
          obtain⟨e8,rfl,rfl,_,_⟩:=bF.o.l.read xaa
          clear an b5 he hd ej
          go_upto_region 27 with fail
          clear f4 gx
          refine eG (M8 bF xaa hO xaa hl g3 gS.o ?_)
          intro hR aY cap' _ _ _ _ _ _ _ _ _ _ _ _ _ _ bk
          unfold ge
          have hE:(P++[dL 2 (vs.getD o h7).len q r 0]).length=P.length+1:=by simp
          generalize P++[dL 2 _ q r 0]=cM at bk hc hE
          have bq:=bk.o.l.g.c0
          have ak:=bk.o.l.g.c1
          have az:=bk.o.l.g.c2
          have b:M _:=λW=>jg W L (some ⟨aY,0,none⟩) U n1 aW _ cap' aE bs (show cM.length<=1000000 by omega)
          rw[show(cM.length:Int)-1=(P.length:Nat) by omega]at b
          clear bF hE gS hF
          go_wp2_with fail
          refine yai (b.o _) ?_
          rintro e hX ⟨rfl,hI⟩
          have cF:M _:=bk.o.keep hI
          have f4:=IR.cell cF.o.m o (ix hl)
          have gx:=IR.free cF.o.m o
          generalize (y.2.take _).getD o 0=hY at f4
          have R3:M (∃R a2 cap,LG w _ _ aH _ _ _ _ _ _ _ _ (iX _ _ i _ _).1 ((iX _ _ i _ _).2.take _) _ _ R a2 cap):=⟨_,_,_,by
           have h:=cF.o.set o ((P.length:Nat):Int)
           rw[hc.o]
           rw[pS]at h
           exact h⟩
          clear bk cF b bq ak az hI
          exact xef
     ·have bc:¬(k<(cnt v.op:Int)):=xaa
      have C:k=cnt v.op:=xaa
      have bP:M (∃R a2 cap,LG w _ _ aH _ _ _ _ _ _ _ _ (gdn _ _ s _).1 ((gdn _ _ s _).2.take _) _ _ R a2 cap):=⟨_,_,_,by rw[hv.o C];exact bY.o⟩
      clear C bY ha
      exact xdv
   have g0:¬((x:Int)<i):=xaa
   have c6:j=s-x:=xaa
   subst c6
   have c8:=IR.cell m.m x (by rw[List.length_take,bh.l];omega)
   rw[l4 xaa]at c8
   have g4:=bh.i x ar
   have hP:=bh.z.1
   have g5:(gdn vs act s (s-x)).1.length<=800000:=xaa
   have fa:0<(gdn vs act s (s-x)).1.length:=by
    obtain⟨r,e⟩:=bh.p
    rw[e,yak,O.o]
    omega
   have fP:M (grM vs s x=if (gdn vs act s (s-x)).2.getD x 0=-1 then ((gdn vs act s (s-x)).1++[dL 1 d5 0 0 0],(((gdn vs act s (s-x)).1.length:Nat):Int))else ((gdn vs act s (s-x)).1,(gdn vs act s (s-x)).2.getD x 0)):=by
    show _=_
    rw[br.o,<-fT.o]
    rfl
   obtain⟨bW,rfl,rfl,_,_⟩:=m.l.read fa
   have bf:=Q m.l
   have hJ:M (aM≠w.heap.size+1/\aM≠w.heap.size):=⟨ih m.fm.p,ih m.fm.p⟩
   have ei:(x:Int)<s+1:=xaa
   generalize (gdn _ _ s _).2.getD x 0=ea at c8 g4 fP
   clear bh m hP br
   generalize (gdn _ _ s _).1=us at bf fP g5 fa
   have bq:=bf.o.g.c0
   have ak:=bf.o.g.c1
   have az:=bf.o.g.c2
   obtain⟨_,bJ,ba,bu,bG,bB,bQ⟩:=bf.o.b
   by_cases an:ea=-1
   ·subst an
    have ct:M (grM vs s x=(us++[dL 1 d5 0 0 0],(us.length:Int))):=by
     show _=_
     rw[fP.o,h3 rfl]
    clear fP g4 bJ ba bu bG bB bQ
    go_upto_region 30 with fail
    clear c8
    go_cut [] (λb4=>∃aY cap',M (LK w b4 L n1 aW U aE bs ins outs (us++[dL 1 d5 0 0 0]) base (some aY) (some ⟨aY,0,none⟩) cap'))
    case first=>
     go_region_with (first
      |(go_at_call 109;refine yai (LK.call bf.o ((dH _).trans af) _ xaa) ?_;rintro e Z ⟨aY,cap',rfl,⟨_,b2⟩,⟨_,r1⟩,⟨_,bp⟩,au,aC⟩;have a6:=au 0;have bn:=au 1;have cc:=au 2;have en:=Q aC.o.1;clear au aC)
      |(go_at_call 110;refine yai oX ?_;rintro e aa ⟨rfl,af⟩;have b1:=(LK.keep bf.o ((dH _).trans af)).g.c0;have bw:=(LK.keep bf.o ((dH _).trans af)).g.c1;have p2:=(LK.keep bf.o ((dH _).trans af)).g.c2))
     all_goals (go_wp2_with fail;go_meet;exact⟨_,_,en⟩)
    case rest=>
     obtain⟨aY,cap',aC⟩:=hcut
     have co:(us++[dL 1 d5 0 0 0]).length=us.length+1:=by simp
     generalize bd:us++[dL 1 _ 0 0 0]=P at aC ct co
     clear bq ak az bd bf
     have bq:=aC.o.g.c0
     have ak:=aC.o.g.c1
     have az:=aC.o.g.c2
     obtain⟨_,bJ,ba,bu,bG,bB,bQ⟩:=aC.o.b
     have b:M _:=λW=>jg W L (some ⟨aY,0,none⟩) U n1 aW _ cap' aE bs (show P.length<=1000000 by have:=co;omega)
     rw[show(P.length:Int)-1=(us.length:Nat) by omega]at b
     clear co
     go_wp2_with fail
     go_region_with (first
      |(go_at_call 67;refine yai (b.o _) ?_;rintro e ao ⟨rfl,a5⟩;clear bJ ba bu bG bB bQ;have bT:=(aC.o.keep ((dH _).trans a5)).g.c0;have bg:=(aC.o.keep ((dH _).trans a5)).g.c1;have a8:=(aC.o.keep ((dH _).trans a5)).g.c2;obtain⟨_,bJ,ba,bu,bG,bB,bQ⟩:=(aC.o.keep ((dH _).trans a5)).b))
     all_goals
      have e4:=Q aC.o.a4
      have bm:M _:=aC.o.fin ((dH _).trans a5)
      obtain⟨aP,aQ,aU⟩:=fQ _ _ bJ ba bu (.slice L n1 aW) (hZ aY P.length cap') (.slice U aE bs)
      go_wp2_with fail
      refine yax (v:=.tuple #[fj L n1 aW (some ⟨aY,0,none⟩) P.length cap' U aE bs,h0 us.length]) (by simp[results,results88,go_sem,aP,aQ,aU]) rfl ⟨?_,bm.o.2⟩
      rw[ct.o]
      exact⟨_,_,_,_,_,_,rfl,bm.o.1.1,bm.o.1.2.1,bm.o.1.2.2,e4.o⟩
   have ct:M (grM vs s x=(us,ea)):=by
    show _=_
    rw[fP.o,h2 an]
   have g1:¬(ea<0):=by obtain c|c:=g4;exact absurd c an;omega
   obtain⟨aP,aQ,aU⟩:=fQ _ _ bJ ba bu (.slice L n1 aW) (hZ bW us.length gm) (.slice U aE bs)
   have hg:w.heap.size≠w.heap.size+1:=xaa
   have gp:=hJ.o.1
   have hN:=Ne.symm gp
   have cA:M (∀X dd dg:Value,(((wr.setCell _ X).setCell _ dd).setCell _ dg).drew.cell? _=some _):=λX dd dg=>(lq (x:=X) (y:=dd) (aX:=dg) gp).trans c8
   exact qgo):Zp:=h
theorem g.qgp(h:Zp:=by
 clear fP g4 an;go_upto_region 32 with fail;go_region_held3 (λW:World=>W.cell? ⟨w.heap.size,0,none⟩=some (.slice L n1 aW)/\W.cell? ⟨w.heap.size,1,none⟩=some (hZ bW us.length gm)/\W.cell? ⟨w.heap.size,2,none⟩=some (.slice U aE bs)/\W.cell? ⟨aM,x,none⟩=some (h0 ea)) (first|go_keep|(exact⟨(fq.o _ _ _ _).trans bq,(fq.o _ _ _ _).trans ak,(fq.o _ _ _ _).trans az,cA.o _ _ _⟩)) (fail)
 all_goals
  go_wp2_with fail
  refine yax (v:=.tuple #[fj L n1 aW (some ⟨bW,0,none⟩) us.length gm U aE bs,h0 ea]) (by simp[results,results88,go_sem,aP,aQ,aU]) rfl ⟨?_,bm.o.2⟩
  rw[ct.o]
  exact⟨_,_,_,_,_,_,rfl,bm.o.1.1,bm.o.1.2.1,bm.o.1.2.2,e4.o⟩):Zp:=h
open g in
theorem ym(w){G Y aJ n1 c1 aI c2 aE c3}(s x){ins vs outs}(f:GS w G n1 (some ⟨aJ,0,none⟩) aI Y aE ins vs outs)(bC:VA w aJ aI vs)(b9:n1<=1000000)(cl:aI<=2000)(el:aE<=1000000)(ap:(List.range aI).all (okV ins vs)=true)(cO:dK vs<=50000)(ai:s<aI)(ar:x<aI)(F:(gL vs x (s-x)).getD s false=true):
  Calls prog 88 #[fj G n1 c1 (some ⟨aJ,0,none⟩) aI c2 Y aE c3,h0 s,h0 x] w λe D=>uA w D n1 aE ins outs (grM vs s x) e/\Kept 0 0 w D:=by
 have br:M (grM vs s x=BI vs x (gdn vs (gL vs x (s-x)) s (s-x))):=by
  show _=_;unfold grM qA;rw[h3 F,rY _ _ _ _ _ yac]
 have gw:¬s<x:=λc=>by
  rw[show s-x=0 by omega,gL,qX xaa,yah,List.getElem?_replicate]at F
  split at F<;>simp at F
 exact qdt
end
section
theorem JH(w){G Y aJ n1 c1 aI c2 aE c3}(s x){ins vs outs}(f:GS w G n1 (some ⟨aJ,0,none⟩) aI Y aE ins vs outs)(bC:VA w aJ aI vs)(b9:n1<=1000000)(cl:aI<=2000)(el:aE<=1000000)(ap:(List.range aI).all (okV ins vs)=true)(cO:dK vs<=50000)(ai:s<aI)(ar:x<aI):
  Calls prog 88 #[fj G n1 c1 (some ⟨aJ,0,none⟩) aI c2 Y aE c3,h0 s,h0 x] w λe D=>uA w D n1 aE ins outs (grM vs s x) e/\Kept 0 0 w D:=by
 cases F:(gL vs x (s-x)).getD s false with
 |false=>exact wg w s x f bC b9 cl el ap cO ai ar F
 |true=>exact ym w s x f bC b9 cl el ap cO ai ar F
theorem WS.grad{W}(h:WS W P B u1 ap u3 u4 am st)(g:Gd st){s x}(ai:s<st.vs.length)(ar:x<st.vs.length):
  ∃a1 bB aJ bQ a3 X,u1=.slice a1 st.ins.length bB/\ap=hZ aJ st.vs.length bQ/\u3=.slice a3 st.outs.length X/\
   (Calls prog 88 #[fj a1 st.ins.length bB (some ⟨aJ,0,none⟩) st.vs.length bQ a3 st.outs.length X,h0 s,h0 x] W λe D=>uA W D st.ins.length st.outs.length st.ins st.outs (grM st.vs s x) e/\Kept 0 0 W D)/\
   ∀t:Nat,Calls prog 90 #[fj a1 st.ins.length bB (some ⟨aJ,0,none⟩) st.vs.length bQ a3 st.outs.length X,h0 s,h0 x,h0 t] W λe D=>uA W D st.ins.length st.outs.length st.ins st.outs (i9 st.vs s x t) e/\Kept 0 0 W D:=by
 obtain⟨aJ,bQ,a6,_,_,_,bw⟩:=jX h.r2 xaa rfl;obtain⟨a1,bB,a2,aU,a3,X,K,aL,ag,ad⟩:=h.gs g.k;rw[a6]at aL;cases aL;have hi:=g.i;have av:=g.o;exact⟨_,_,_,_,_,_,K,a6,ag,JH W s x ad bw xaa g.n xaa g.ok g.c ai ar,λt=>MX W s x t ad bw xaa g.n xaa g.ok g.c ai ar⟩
end
section
attribute[local go_sem] dI dG dF
def FC(k:Tok)(q:Rs Nat)(r1:Rs (LSt×Nat)):Rs (LSt×Nat):=match q with
 |.error f=>.error f
 |.ok v=>match r1 with
  |.error f=>.error f
  |.ok (s,a)=>mg s k a v
theorem aW.qbt(h:Zp:=by
 have ce:M _:=cz.o.keepC aT.chg bk.o;obtain⟨bW,T,a6,cr,cb⟩:=aX.lenc F;have O:M _:=(Mv.of bJ.o).trans aT;have y:=Q aX;have cc:=ce.o.c0;have aW:=ce.o.c1;have bb:=w.g.n;have bw:=aX.c1;rw[a6]at bw;have bM:M (r=mg s ⟨[103,114,97,100],a0,i1⟩ a v):=aF.o;clear aF bP cz bq aT;by_cases z:dS s a=1
 ·obtain⟨a1,bB,aJ,bQ,a3,X,K,aL,ag,bS,_⟩:=aX.grad w.g F ar;obtain⟨aG,bO,c8⟩:=sK w.g.v F ar z;obtain⟨j,aK⟩:∃j:Nat,(grM s.vs a v).2=(j:Int):=⟨_,(Int.toNat_of_nonneg bO.1).symm⟩
  have i:M (r=if jf (grM s.vs a v).1=true then .error (5,a0)else .ok ({s with vs:=(grM s.vs a v).1},j)):=by
   show r=_;rw[bM.o];unfold mg;rw[h2 (by simpa using z)];unfold ft;rw[aK,Int.toNat_natCast]
  have bD:∀k,k<(grM s.vs a v).1.length->_:=λk H=>iA (aG.1 k H);rw[a6]at aL;cases aL;subst K a6 ag;have b1:=aX.c0;have p2:=aX.c2;have S:=Q bS;have bc:=aG.2;generalize grM s.vs a v=Maa at*;obtain⟨g,dd⟩:=Maa;simp only at aK bD bc i;subst aK
  have be:M (∀A L aW a2 cap U bs,Kept 0 0 ao A->A.ownsRow ao.heap.size 3 1 (.slice L s.ins.length aW) s.ins.length (s.ins.map (Value.int .i64))->A.ownsRow ao.heap.size 74 6 (.slice a2 g.length cap) g.length (f9 g)->A.ownsRow ao.heap.size 3 1 (.slice U s.outs.length bs) s.outs.length (s.outs.map (Value.int .i64))->Apart (.slice L s.ins.length aW) (.slice U s.outs.length bs)->Calls prog 89 #[ge P,fj L s.ins.length aW a2 g.length cap U s.outs.length bs,h0 j,h0 a0] A λe bx=>(∃x:Int,e=.returned (h0 x))/\M (TrO W P B u1 ap u3 u4 am r e bx)):=λA L aW a2 cap U bs ae bg a8 bE m=>yai (pD aX ae bg a8 bE m bc bD j a0) (λe bx t=>⟨t.ret,by
   show TrO W P B u1 ap u3 u4 am r e bx
   rw[i.o]
   exact TrO.after O.o t⟩)
  clear bS aX bM i br cT bC y aG bO c8 bD bc w O bk bJ;rw[z]at cb;generalize s.vs.length=N at*;generalize s.ins.length=bT at*;generalize s.outs.length=ci at*;go_upto_region 20 with (go_at_call 88;refine yai S.o ?_;rintro e a7 ⟨⟨L,Y,U,al,a2,ax,rfl,bg,a8,bE,m⟩,b0⟩);have f:=(ce.o.keep b0).c1;have cx:M (∀A,Kept 0 0 a7 A->_):=λA ae=>be.o A L Y a2 ax U al (b0.trans ae) (dW bg ae) (dW a8 ae) (dW bE ae) m;have c7:M (∀A,Kept 0 0 a7 A->_):=λA ae=>(ce.o.keep (b0.trans ae)).c1;clear bg a8 bE m be S cb b1 bw p2 cc aW;have bA:=c7.o _ (dE 0 0 a7 (eZ L bT Y a2 g.length ax U ci al));have aO:M _:=cx.o _ (dE 0 0 a7 (eZ L bT Y a2 g.length ax U ci al));go_wp2_with (go_at_call 89;refine yai aO.o ?_;rintro e b7 ⟨⟨x,rfl⟩,C⟩);go_ret;exact C.o
 have R:M (r=.error (4,a0)):=bM.o.trans (h3 z);have bl:=yav z;have bX:M _:=jC aX.c5 aX.c6 aX.fr 4 a0 (Mst P aH aN aM aS) (.inl rfl);clear aX bM br cT bC y;generalize dS s a=l at cb z bl;generalize s.vs.length=N at*;go_wp2_with (go_at_call 32;refine yai bX.o ?_;rintro e a7 ⟨rfl,u⟩);go_ret;rw[R.o];exact⟨rfl,u.c5,u.c6,O.o.bad u.chg⟩):Zp:=h
theorem aW.qew(h:Zp:=by
 obtain⟨c,p⟩|⟨s,a⟩:=r1
 ·exact xfm
 exact qhc):Zp:=h
open aW in
theorem zM{W bG aP cL}(h:WS W P B u1 ap u3 u4 am st)(aR:st.names.length<=5000)(I:LcR (Mst P u1 ap u3 u4) W bG aP loc)(V:aP<=5000)(a0 i1){bV ab bZ q o bH c0 bg ca c1}(n)(b9:2<=ab)(ch:bV<W.heap.size)(aZ:W.cell? ⟨bV,0,none⟩=some (.slice (some ⟨q,o,none⟩) bH c0))(bm:Sg1 W bV 1 bg ca c1 n)(r1)(bL:(∃v,dX st loc n=.ok v)->RsG st r1)(aD:∀v,dX st loc n=.ok v->v<st.vs.length)(aE:(∃v,dX st loc n=.ok v)->∀A,Kept 0 0 W A->Calls prog 33 #[ge P,.slice bG aP cL,.slice (some ⟨q,o,none⟩) bH c0] A (TrO A P B u1 ap u3 u4 am r1)):
  Calls prog 65 #[ge P,.slice bG aP cL,iU ⟨[103,114,97,100],a0,i1⟩,hZ bV ab bZ] W (TrO W P B u1 ap u3 u4 am (FC ⟨[103,114,97,100],a0,i1⟩ (dX st loc n) r1)):=by
 have aw:M _:=gK W [103,114,97,100] a0 i1;have ay:M _:=dE 0 0 W (.cells #[dJ [103,114,97,100],h0 a0,dJ i1] 39);have bk:=Q h.far;have cO:M (∀A,Kept 0 0 W A->_):=λA ae=>(ae.cell (p:=⟨bV,0,none⟩) ch xaa).trans aZ;have aV:=Q bm;have cd:M (∀A,Kept 0 0 W A->_):=λA ae=>v8 (h.keep ae) aR bG aP cL loc (I.keep ae) V n;have ai:=Q aE;have br:=Q bL;have cT:=Q aD;have bC:=Q h;obtain⟨r,ah⟩:∃r,r=FC ⟨[103,114,97,100],a0,i1⟩ (dX st loc n) r1:=⟨_,rfl⟩
 rw[<-ah];have aF:=Q ah;clear ah h bL aE aZ bm aD I aR;unfold iU at cd⊢;obtain⟨G,b5,ex⟩:=n;simp only at cd⊢;go_enter func65,ntmps65;go_upto_region 2 with fail;change Code.wp _ _ _ _ (W.alloc (.cells #[dJ [103,114,97,100],h0 a0,dJ i1] 39));generalize W.alloc (.cells #[dJ [103,114,97,100],h0 a0,dJ i1] 39)=aq at aw ay⊢;generalize W.heap.size=bh at aw bk⊢;have b:M _:=cd.o aq ay.o;obtain⟨ak,az,bF,cg⟩:=(aV.o.keep ay.o).cells;simp only at az bF cg;have bK:=aw.o.c0;clear cd aV;generalize dX st loc ⟨G,b5,ex⟩=ee at b aF cT ai br;obtain⟨c,p⟩|v:=ee
 ·exact xdh
 exact qev
end
section
theorem zN{f x a r}(h:dQ (f+1) st loc (.grad k a x)=some r):∃r1,r=FC k (dX st loc x) r1/\(∀v,dX st loc x=.ok v->dQ f st loc a=some r1):=by
 rw[dQ]at h;cases aD:dX st loc x with
 |error q=>rw[aD]at h;cases h;exact⟨.error q,rfl,λv e=>by cases e⟩
 |ok v=>
  rw[aD]at h;simp only at h;cases z:dQ f st loc a with
  |none=>rw[z]at h;cases h
  |some r1=>
   rw[z]at h;obtain⟨c,p⟩|⟨ak,y⟩:=r1
   ·cases h;exact⟨_,rfl,λ_ _=>rfl⟩
   cases h;exact⟨_,rfl,λ_ _=>rfl⟩
section
variable{f:Nat}{W:World}{P B:Nat}{u1 ap u3 u4:Value}{am:List Bc}{st:LSt}{bG:Option Addr}{aP cL:Nat}{loc:Loc}{g aO m cap:Nat}{ts:List Tok}{a:Ex}{r:Rs (LSt×Nat)}
theorem dA.qem(h:Zp:=by
 have aE:(∃v,dX st loc n=.ok v)->∀bx,Kept 0 0 A bx->_:=λev bx ad=>
  D bx P B u1 ap u3 u4 am st bG aP cL loc g o ts.length c0 ts ⟨Y.ws.keep (ae.trans ad),Y.gd,Y.nm,Y.lc.keep (ae.trans ad),Y.ln,Y.lo,c2.keep ad,Y.tg,ih Y.m5,c3,λt az=>Y.ti t (by simp[az]),λt az=>Y.tn t (by simp[az])⟩ 2 a F yac r1 (ev.elim K)
 have bL:(∃v,dX st loc n=.ok v)->_:=λev=>fE f st loc a Y.gd Y.nm Y.lo bD r1 (ev.elim K);obtain⟨O,a0,i1⟩:=k;simp only at H;subst H;exact zM (Y.ws.keep ae) Y.gd.m (Y.lc.keep ae) Y.ln a0 i1 n yac ch c1 ⟨ch,p,u⟩ r1 bL (λv aD=>jP Y.nm Y.lo aD) aE):Zp:=h
theorem dA.qgk(h:Zp:=by
 exact qhp):Zp:=h
theorem dA.qhq(h:Zp:=by
 have ba:∀x:List UInt8,x≠sb->(k.sym==x)=false:=λx z=>by
  rw[beq_eq_false_iff_ne]
  rintro rfl
  exact z H
 refine kx Y (Pr.grad H ab F aj V an) (ba _ xab) (ba _ xab) (ba _ xab) (ba _ xab) (ba _ xab) xaa (ts++c::[n]) bd (by rw[nV (X:=[ts]) (y:=[n]) xac af yaf];simp) (λA aL bu ae aZ=>?_);exact qel):Zp:=h
open dA in
theorem CF{l c n q}(D:TrC f)(Y:TrIn W P B u1 ap u3 u4 am st bG aP loc g aO m cap (k::l::(ts++[c,n,q])))(H:k.sym=sb)(ab:l.sym=[40])(F:Pr 2 [a] ts)(aj:c.sym=[44])(V:n.sym=eu)(an:q.sym=[41])(h:dQ (f+1) st loc (.grad k a n)=some r):
  Calls prog 33 #[ge P,.slice bG aP cL,.slice (some ⟨g,aO,none⟩) m cap] W (TrO W P B u1 ap u3 u4 am r):=by
 obtain⟨r1,rfl,K⟩:=zN h;exact qgj
end
end
section
attribute[local go_sem] dI dG dF
variable{k:Tok}{st:LSt}{a x d:Nat}
def OY(k:Tok)(a v:Nat)(r2:Rs (LSt×Nat)):Rs (LSt×Nat):=match r2 with
 |.error f=>.error f
 |.ok (s2,y)=>lX s2 k a v y
def Na(k:Tok)(q:Rs Nat)(r1 r2:Rs (LSt×Nat)):Rs (LSt×Nat):=match q with
 |.error f=>.error f
 |.ok v=>match r1 with
  |.error f=>.error f
  |.ok (_,a)=>OY k a v r2
def OZ(k:Tok)(a v:Nat)(r3:Rs (LSt×Nat)):Rs (LSt×Nat):=match r3 with
 |.error f=>.error f
 |.ok (s3,d)=>ft s3 (i9 s3.vs a v d) k.pos
theorem CG(z:dS st d=1)(J:1<dS st x):lX st k a x d=OZ k a x (eg st (dL 10 (dS st x) (d:Int) 0 0) k.pos):=by
 unfold lX;rw[h3 ⟨z,J⟩];rfl
theorem FD(z:dS st d≠1)(J:dS st d≠dS st x):lX st k a x d=.error (4,k.pos):=by
 unfold lX;rw[h2 (λc=>z c.1),h3 J]
theorem uH(z:¬(dS st d=1/\1<dS st x))(J:dS st d=dS st x):lX st k a x d=ft st (i9 st.vs a x d) k.pos:=by
 unfold lX;rw[h2 z,h2 (λc=>c J)]
theorem aX.qbt(h:Zp:=by
 have ce:M _:=cz.o.keepC aT.chg bk.o;have c9:M (¬Mst P aH aN aM aS bh):=λc=>(aT.new bh c).elim bk.o (λc=>ih cz.o.lt);obtain⟨bW,T,a6,cr,cb⟩:=aX.lenc F;have O:M _:=(Mv.of bJ.o).trans aT;have cc:=ce.o.c0;have bb:=w.g.n;have bw:=aX.c1;rw[a6]at bw;have az:=en.o ao _ O.o;have bM:M (r=OY ⟨[106,118,112],a0,i1⟩ a v bp):=aF.o;have cA:M _:=b0.o ⟨v,rfl⟩ s a rfl ao aH aN aM aS aX O.o;have ei:M _:=ct.o ⟨v,rfl⟩ s a rfl;clear aF bP cz bq aT aX b0 ct br cT bk bJ a6 cr en;generalize dS s a=l at cb;generalize er:s.vs.length=N at*;go_upto_region 22 with fail;clear cb bw;obtain⟨c,p⟩|⟨f,y⟩:=bp
 ·go_wp2_with (go_at_call 33;refine yai cA.o ?_;rintro e a7 ⟨rfl,C⟩);go_ret;rw[bM.o];exact TrO.after O.o ⟨rfl,C⟩
 obtain⟨a5,aY⟩:=ei.o f y rfl;subst er;have cv:=yaj ar a5.n;have em:=yaj F a5.n;have eS:¬((y:Int)<0):=xaa;clear bb;generalize s.vs.length=N at*;go_upto_region 25 with (go_at_call 33;refine yai cA.o ?_;rintro e a7 ⟨rfl,a9,bj,bI,bR,av,bi⟩);have af:M _:=ce.o.keepC bi.chg c9.o;have ef:M (¬Mst P a9 bj bI bR bh):=λc=>(bi.new bh c).elim c9.o (λc=>ih ce.o.lt);have cF:M _:=O.o.trans bi;have bY:M (r=lX f ⟨[106,118,112],a0,i1⟩ a v y):=bM.o;have cn:=a5.g;have d3:=cn.lenB cv;obtain⟨e4,e1,b2,eT,d4⟩:=av.lenc cv;obtain⟨e5,e3,bU,_,ea⟩:=av.lenc aY;rw[b2]at bU;cases bU;have bw:=av.c1;rw[b2]at bw;have bb:=cn.n;have L:=af.o.c1;clear cA bM bi O ce c9 ei cc az a5 eT;by_cases z:dS f y=1
 ·by_cases J:1<dS f v
  ·have bu:M _:=CG (k:=⟨[106,118,112],a0,i1⟩) (a:=a) z J;have i:M (r=OZ ⟨[106,118,112],a0,i1⟩ a v (eg f (dL 10 (dS f v) (y:Int) 0 0) a0)):=bY.o.trans bu.o;have cM:M _:=λbF bA (aB:eg f (dL 10 (dS f v) (y:Int) 0 0) a0=.ok (bF,bA))=>lZ cn (cn.v.p10 d3 (by have bd:=iP aY;rw[z]at bd;exact bd)) aB;have aj:M (∀A,Kept 0 0 a7 A->Calls prog 36 #[ge P,(dL 10 (dS f v) (y:Int) 0 0).agg,h0 a0] A λe bx=>M (TrO a7 P B a9 bj bI bR am (eg f (dL 10 (dS f v) (y:Int) 0 0) a0) e bx)/\(∃x:Int,e=.returned (h0 x))/\bx.cell? ⟨bh,1,none⟩=some (h0 a0)):=λA ae=>yai (lF (av.keep ae) cn (dL 10 (dS f v) (y:Int) 0 0) d3 yag a0) (λe bx t=>⟨TrO.back ae t,t.ret,(t.chg.cell (p:=⟨bh,1,none⟩) (af.o.keep ae).lt ef.o).trans (af.o.keep ae).c1⟩);have dp:M (∀bF,Gw f bF->_):=λbF aa=>aa.l v cv;rw[z]at ea;clear bY bu;generalize d0:eg f (dL 10 (dS f v) (y:Int) 0 0) a0=bo at i cM aj;clear d0;generalize fz:dS f v=d5 at*;clear fz;clear av;subst b2;obtain⟨c,p⟩|⟨bF,bA⟩:=bo
   ·generalize f.vs.length=ej at*;go_upto_region 27 with fail;clear d4 ea bw
    go_region_held3 (λD=>D.cell? ⟨bh,1,none⟩=some (h0 a0)) (go_keep)
     (first
      |(go_at_call 37;refine yai iy ?_;rintro e b7 ⟨rfl,b3⟩;have ba:=(af.o.keep ((dH a7).trans b3)).c1)
      |(go_at_call 36;refine yai (aj.o _ ((dH a7).trans b3)) ?_;rintro e cf ⟨C,⟨_,_⟩,bz⟩;obtain rfl:=C.o.1))
    all_goals (
     go_wp2_with fail
     go_ret
     rw[i.o]
     exact TrO.after cF.o ⟨rfl,C.o.2⟩)
   obtain⟨aa,dg,e2⟩:=cM.o bF bA rfl;have fu:¬((bA:Int)<0):=xaa;have cX:=yaj em aa.n;have c6:=yaj cv aa.n;have ey:=dp.o bF aa;have an:=aa.g;have cG:M (r=ft bF (i9 bF.vs a v bA) a0):=i.o
   have d2:Ln bF.vs (bA:Int) (jp bF.vs (v:Int)):=by
    have cl:=iP dg;rw[iN,show(bF.vs.getD v h7).len=dS bF v from rfl,ey,<-(show dS bF bA=d5 from e2)];exact cl
   have dv:dS bF bA=d5:=e2;clear i cM dp aa e2 ey d3;generalize f.vs.length=ej at*;go_upto_region 27 with fail;clear d4 ea bw
   go_region_held3 (λD=>D.cell? ⟨bh,1,none⟩=some (h0 a0)) (go_keep)
    (first
     |(go_at_call 37;refine yai iy ?_;rintro e b7 ⟨rfl,b3⟩;have ba:=(af.o.keep ((dH a7).trans b3)).c1)
     |(go_at_call 36;refine yai (aj.o _ ((dH a7).trans b3)) ?_;rintro e cf ⟨C,⟨_,_⟩,bz⟩;obtain rfl:=C.o.1))
   all_goals (
    obtain⟨_,aQ,aU,bN,cp,au,eb⟩:=C.o
    have co:M _:=cF.o.trans eb
    have bf:M _:=af.o.keepC eb.chg ef.o
    clear C eb cF af aj
    obtain⟨a1,bB,aJ,bQ,a3,X,K,aL,ag,_,cS⟩:=au.grad an cX c6
    have bS:=cS bA
    obtain⟨aG,bO,c8⟩:=lh an.v cX c6 d2
    obtain⟨j,aK⟩:∃j:Nat,(i9 bF.vs a v bA).2=(j:Int):=⟨_,(Int.toNat_of_nonneg bO.1).symm⟩
    have i:M (r=if jf (i9 bF.vs a v bA).1=true then .error (5,a0)else .ok ({bF with vs:=(i9 bF.vs a v bA).1},j)):=by
     show r=_
     rw[cG.o]
     unfold ft
     rw[aK,Int.toNat_natCast]
    have bD:∀k,k<(i9 bF.vs a v bA).1.length->_:=λk H=>iA (aG.1 k H)
    obtain⟨ep,cvT,b4,_,clT⟩:=au.lenc dg
    rw[b4]at aL
    cases aL
    rw[dv]at clT
    have b1:=au.c0
    have bw:=au.c1
    have p2:=au.c2
    subst K b4 ag
    have S:=Q bS
    have bc:=aG.2
    generalize i9 bF.vs a v bA=ds at*
    obtain⟨g,dd⟩:=ds
    simp only at aK bD bc i
    subst aK
    have be:M (∀A L aW a2 cap U bs,Kept 0 0 cf A->A.ownsRow cf.heap.size 3 1 (.slice L bF.ins.length aW) bF.ins.length (bF.ins.map (Value.int .i64))->A.ownsRow cf.heap.size 74 6 (.slice a2 g.length cap) g.length (f9 g)->A.ownsRow cf.heap.size 3 1 (.slice U bF.outs.length bs) bF.outs.length (bF.outs.map (Value.int .i64))->Apart (.slice L bF.ins.length aW) (.slice U bF.outs.length bs)->Calls prog 89 #[ge P,fj L bF.ins.length aW a2 g.length cap U bF.outs.length bs,h0 j,h0 a0] A λe bx=>(∃x:Int,e=.returned (h0 x))/\M (TrO W P B u1 ap u3 u4 am r e bx)):=λA L aW a2 cap U bs ae bg a8 bE m=>yai (pD au ae bg a8 bE m bc bD j a0) (λe bx t=>⟨t.ret,by
     show TrO W P B u1 ap u3 u4 am r e bx
     rw[i.o]
     exact TrO.after co.o t⟩)
    clear bS cS au cG i aG bO c8 bD bc an co d2
    generalize bF.vs.length=el at*
    generalize bF.ins.length=bT at*
    generalize bF.outs.length=ci at*
    go_upto_region 33 with (go_at_call 90;refine yai S.o ?_;rintro e cI ⟨⟨L,Y,U,al,a2,ax,rfl,bg,a8,bE,m⟩,cP⟩)
    have cx:M (∀A,Kept 0 0 cI A->_):=λA ae=>be.o A L Y a2 ax U al (cP.trans ae) (dW bg ae) (dW a8 ae) (dW bE ae) m
    have c7:M (∀A,Kept 0 0 cI A->_):=λA ae=>(bf.o.keep (cP.trans ae)).c1
    clear bg a8 bE m be S clT b1 bw p2
    have bA:=c7.o _ (dE 0 0 cI (eZ L bT Y a2 g.length ax U ci al))
    have aO:M _:=cx.o _ (dE 0 0 cI (eZ L bT Y a2 g.length ax U ci al))
    go_wp2_with (go_at_call 89;refine yai aO.o ?_;rintro e bn ⟨⟨x,rfl⟩,C⟩)
    go_ret
    exact C.o)
  have ec:dS f v=1:=xaa;have cG:M (r=ft f (i9 f.vs a v y) a0):=bY.o.trans (uH (λc=>J c.2) (z.trans ec.symm))
  have d2:Ln f.vs (y:Int) (jp f.vs (v:Int)):=by
   have cl:=iP aY;rw[iN,show(f.vs.getD v h7).len=dS f v from rfl,ec,<-z];exact cl
  rw[z]at ea;rw[ec]at d4;have dv:=z;have dg:=aY;have cX:=em;have c6:=cv;have an:=cn;have au:=av;have co:=Q cF.o;have bf:=Q af.o;clear bY av cF af d3 cn;obtain⟨a1,bB,aJ,bQ,a3,X,K,aL,ag,_,cS⟩:=au.grad an cX c6;have bS:=cS y;obtain⟨aG,bO,c8⟩:=lh an.v cX c6 d2;obtain⟨j,aK⟩:∃j:Nat,(i9 f.vs a v y).2=(j:Int):=⟨_,(Int.toNat_of_nonneg bO.1).symm⟩
  have i:M (r=if jf (i9 f.vs a v y).1=true then .error (5,a0)else .ok ({f with vs:=(i9 f.vs a v y).1},j)):=by
   show r=_;rw[cG.o];unfold ft;rw[aK,Int.toNat_natCast]
  have bD:∀k,k<(i9 f.vs a v y).1.length->_:=λk H=>iA (aG.1 k H);obtain⟨ep,cvT,b4,_,clT⟩:=au.lenc dg;rw[b4]at aL;cases aL;rw[dv]at clT;have b1:=au.c0;have bw:=au.c1;have p2:=au.c2;subst K b4 ag;cases b2;have S:=Q bS;have bc:=aG.2;generalize i9 f.vs a v y=ds at*;obtain⟨g,dd⟩:=ds;simp only at aK bD bc i;subst aK
  have be:M (∀A L aW a2 cap U bs,Kept 0 0 a7 A->A.ownsRow a7.heap.size 3 1 (.slice L f.ins.length aW) f.ins.length (f.ins.map (Value.int .i64))->A.ownsRow a7.heap.size 74 6 (.slice a2 g.length cap) g.length (f9 g)->A.ownsRow a7.heap.size 3 1 (.slice U f.outs.length bs) f.outs.length (f.outs.map (Value.int .i64))->Apart (.slice L f.ins.length aW) (.slice U f.outs.length bs)->Calls prog 89 #[ge P,fj L f.ins.length aW a2 g.length cap U f.outs.length bs,h0 j,h0 a0] A λe bx=>(∃x:Int,e=.returned (h0 x))/\M (TrO W P B u1 ap u3 u4 am r e bx)):=λA L aW a2 cap U bs ae bg a8 bE m=>yai (pD au ae bg a8 bE m bc bD j a0) (λe bx t=>⟨t.ret,by
   show TrO W P B u1 ap u3 u4 am r e bx
   rw[i.o]
   exact TrO.after co.o t⟩)
  clear bS cS au cG i aG bO c8 bD bc an co d2;exact xbm
 by_cases J:dS f y=dS f v
 ·have cG:M (r=ft f (i9 f.vs a v y) a0):=bY.o.trans (uH (λc=>z c.1) J)
  have d2:Ln f.vs (y:Int) (jp f.vs (v:Int)):=by
   have cl:=iP aY;rw[iN,show(f.vs.getD v h7).len=dS f v from rfl,<-J];exact cl
  rw[<-J]at d4;have dv:dS f y=dS f y:=rfl;have dg:=aY;have cX:=em;have c6:=cv;have an:=cn;have au:=av;have bl:=yav z;have co:=Q cF.o;have bf:=Q af.o;clear bY av cF af d3 cn;obtain⟨a1,bB,aJ,bQ,a3,X,K,aL,ag,_,cS⟩:=au.grad an cX c6;have bS:=cS y;obtain⟨aG,bO,c8⟩:=lh an.v cX c6 d2;obtain⟨j,aK⟩:∃j:Nat,(i9 f.vs a v y).2=(j:Int):=⟨_,(Int.toNat_of_nonneg bO.1).symm⟩
  have i:M (r=if jf (i9 f.vs a v y).1=true then .error (5,a0)else .ok ({f with vs:=(i9 f.vs a v y).1},j)):=by
   show r=_;rw[cG.o];unfold ft;rw[aK,Int.toNat_natCast]
  have bD:∀k,k<(i9 f.vs a v y).1.length->_:=λk H=>iA (aG.1 k H);obtain⟨ep,cvT,b4,_,clT⟩:=au.lenc dg;rw[b4]at aL;cases aL;rw[dv]at clT;have b1:=au.c0;have bw:=au.c1;have p2:=au.c2;subst K b4 ag;cases b2;have S:=Q bS;have bc:=aG.2;generalize i9 f.vs a v y=ds at*;obtain⟨g,dd⟩:=ds;simp only at aK bD bc i;subst aK
  have be:M (∀A L aW a2 cap U bs,Kept 0 0 a7 A->A.ownsRow a7.heap.size 3 1 (.slice L f.ins.length aW) f.ins.length (f.ins.map (Value.int .i64))->A.ownsRow a7.heap.size 74 6 (.slice a2 g.length cap) g.length (f9 g)->A.ownsRow a7.heap.size 3 1 (.slice U f.outs.length bs) f.outs.length (f.outs.map (Value.int .i64))->Apart (.slice L f.ins.length aW) (.slice U f.outs.length bs)->Calls prog 89 #[ge P,fj L f.ins.length aW a2 g.length cap U f.outs.length bs,h0 j,h0 a0] A λe bx=>(∃x:Int,e=.returned (h0 x))/\M (TrO W P B u1 ap u3 u4 am r e bx)):=λA L aW a2 cap U bs ae bg a8 bE m=>yai (pD au ae bg a8 bE m bc bD j a0) (λe bx t=>⟨t.ret,by
   show TrO W P B u1 ap u3 u4 am r e bx
   rw[i.o]
   exact TrO.after co.o t⟩)
  clear bS cS au cG i aG bO c8 bD bc an co d2;generalize dS f y=e0 at*;exact xbm
 have R:M (r=.error (4,a0)):=bY.o.trans (FD z J);have bl:=yav z;have e6:=yav J;have bX:M _:=jC av.c5 av.c6 av.fr 4 a0 (Mst P a9 bj bI bR) (.inl rfl);clear av bY;subst b2;generalize dS f y=e0 at*;generalize dS f v=d5 at*;generalize f.vs.length=ej at*;go_wp2_with (go_at_call 32;refine yai bX.o ?_;rintro e aA ⟨rfl,u⟩);go_ret;rw[R.o];exact⟨rfl,u.c5,u.c6,cF.o.bad u.chg⟩):Zp:=h
theorem aX.qew(h:Zp:=by
 obtain⟨c,p⟩|⟨s,a⟩:=r1
 ·exact xfm
 exact qhc):Zp:=h
open aX in
theorem CH{W bG aP cL}(h:WS W P B u1 ap u3 u4 am st)(aR:st.names.length<=5000)(I:LcR (Mst P u1 ap u3 u4) W bG aP loc)(V:aP<=5000)(a0 i1){bV ab bZ q o bH c0 bg ca c1 a8 b6 aI c2}(n)(b9:3<=ab)(ch:bV<W.heap.size)(ew:¬Mst P u1 ap u3 u4 bV)(aZ:W.cell? ⟨bV,0,none⟩=some (.slice (some ⟨q,o,none⟩) bH c0))(bm:Sg1 W bV 1 bg ca c1 n)(aC:W.cell? ⟨bV,2,none⟩=some (.slice (some ⟨a8,b6,none⟩) aI c2))(r1 bp)(bL:(∃v,dX st loc n=.ok v)->RsG st r1)(aD:∀v,dX st loc n=.ok v->v<st.vs.length)(bC:(∃v,dX st loc n=.ok v)->∀s a,r1=.ok (s,a)->RsG s bp)(aE:(∃v,dX st loc n=.ok v)->∀A,Kept 0 0 W A->Calls prog 33 #[ge P,.slice bG aP cL,.slice (some ⟨q,o,none⟩) bH c0] A (TrO A P B u1 ap u3 u4 am r1))(bv:(∃v,dX st loc n=.ok v)->∀s a,r1=.ok (s,a)->∀A a9 bj bI bR,WS A P B a9 bj bI bR am s->Mv (Mst P u1 ap u3 u4) W (Mst P a9 bj bI bR) A->Calls prog 33 #[ge P,.slice bG aP cL,.slice (some ⟨a8,b6,none⟩) aI c2] A (TrO A P B a9 bj bI bR am bp)):
  Calls prog 65 #[ge P,.slice bG aP cL,iU ⟨[106,118,112],a0,i1⟩,hZ bV ab bZ] W (TrO W P B u1 ap u3 u4 am (Na ⟨[106,118,112],a0,i1⟩ (dX st loc n) r1 bp)):=by
 have aw:M _:=gK W [106,118,112] a0 i1;have ay:M _:=dE 0 0 W (.cells #[dJ [106,118,112],h0 a0,dJ i1] 39);have bk:=Q h.far;have cO:M (∀A,Kept 0 0 W A->_):=λA ae=>(ae.cell (p:=⟨bV,0,none⟩) ch xaa).trans aZ;have aV:=Q bm;have en:M (∀A M',Mv (Mst P u1 ap u3 u4) W M' A->_):=λA M' ae=>(ae.chg.cell (p:=⟨bV,2,none⟩) ch ew).trans aC;have cd:M (∀A,Kept 0 0 W A->_):=λA ae=>v8 (h.keep ae) aR bG aP cL loc (I.keep ae) V n;have ai:=Q aE;have b0:=Q bv;have br:=Q bL;have ct:=Q bC;have cT:=Q aD;obtain⟨r,ah⟩:∃r,r=Na ⟨[106,118,112],a0,i1⟩ (dX st loc n) r1 bp:=⟨_,rfl⟩
 rw[<-ah];have aF:=Q ah;clear ah h bL aE aZ bm aC aD I aR bv bC ew;unfold iU at cd⊢;obtain⟨G,b5,ex⟩:=n;simp only at cd⊢;go_enter func65,ntmps65;go_upto_region 2 with fail;change Code.wp _ _ _ _ (W.alloc (.cells #[dJ [106,118,112],h0 a0,dJ i1] 39));generalize W.alloc (.cells #[dJ [106,118,112],h0 a0,dJ i1] 39)=aq at aw ay⊢;generalize W.heap.size=bh at aw bk ch⊢;have b:M _:=cd.o aq ay.o;obtain⟨ak,az,bF,cg⟩:=(aV.o.keep ay.o).cells;simp only at az bF cg;have bK:=aw.o.c0;clear cd aV;generalize dX st loc ⟨G,b5,ex⟩=ee at b aF cT ai br b0 ct;obtain⟨c,p⟩|v:=ee
 ·exact xdh
 exact qev
end
section
variable{f P B n g9 n9 cap9:Nat}{au:Type}{bn:World}{u1 ap u3 u4:Value}{st:LSt}{am:List Bc}{zs:List Int}
theorem CI{x a d r}(h:dQ (f+1) st loc (.jvp k a x d)=some r):∃r1 bp,r=Na k (dX st loc x) r1 bp/\(∀v,dX st loc x=.ok v->dQ f st loc a=some r1)/\(∀v,dX st loc x=.ok v->∀s y,r1=.ok (s,y)->dQ f s loc d=some bp):=by
 rw[dQ]at h;cases aD:dX st loc x with
 |error q=>rw[aD]at h;cases h;exact⟨.error q,.error q,rfl,λv e=>(by cases e),λv e=>(by cases e)⟩
 |ok v=>
  rw[aD]at h;simp only at h;cases z:dQ f st loc a with
  |none=>rw[z]at h;cases h
  |some r1=>
   rw[z]at h;obtain⟨c,p⟩|⟨ak,y⟩:=r1
   ·cases h;exact⟨_,.error (c,p),rfl,λ_ _=>rfl,λ_ _ s y e=>by cases e⟩
   simp only[iE]at h;cases J:dQ f ak loc d with
   |none=>grind
   |some bp=>
    rw[J]at h;refine⟨.ok (ak,y),bp,?_,λ_ _=>rfl,λ_ _ s b e=>(by cases e;exact J)⟩;obtain⟨c,p⟩|⟨az,aX⟩:=bp<;>(cases h;rfl)
section
variable{f:Nat}{W:World}{P B:Nat}{u1 ap u3 u4:Value}{am:List Bc}{st:LSt}{bG:Option Addr}{aP cL:Nat}{loc:Loc}{g aO m cap:Nat}{ts us:List Tok}{a b:Ex}{r:Rs (LSt×Nat)}
theorem cM.qdb(h:Zp:=by
 have bD:=ji F (λt az=>Y.ti t (by simp[az])) a xac;have T:=ji I (λt az=>Y.ti t (by simp[az])) b xac;have dp:=sf (by rw[V];decide) (by rw[V];decide) (by rw[V];decide);have af:=zk j aj dp aT C
 have bd:ts++c::([n]++d::us)=((k::l::(ts++c::n::d::(us++[q]))).drop 2).take (m-1-2):=by
  rw[List.drop_succ_cons,List.drop_succ_cons,List.drop_zero,show ts++c::n::d::(us++[q])=(ts++c::([n]++d::us))++[q] by simp,List.take_append_of_le_length yaf,yao yaf]
 have ba:∀x:List UInt8,x≠zh->(k.sym==x)=false:=λx z=>by
  rw[beq_eq_false_iff_ne]
  rintro rfl
  exact z H
 refine kx Y (Pr.jvp H ab F aj V aT I an) (ba _ xab) (ba _ xab) (ba _ xab) (ba _ xab) (ba _ xab) xaa (ts++c::([n]++d::us)) bd (by rw[nV (X:=[ts,[n]]) (y:=us) xac af yaf];exact cd) (λA aL bu ae aZ=>?_);exact qel):Zp:=h
theorem cM.qem(h:Zp:=by
 obtain⟨b6,ak,b9,J,L⟩:=aC 2 xac
 have aE:(∃v,dX st loc n=.ok v)->∀bx,Kept 0 0 A bx->_:=λev bx ad=>
  D bx P B u1 ap u3 u4 am st bG aP cL loc g o ts.length c0 ts (Y.seg (Y.ws.keep (ae.trans ad)) (Gw.refl Y.gd) (Mv.of (ae.trans ad)) (c2.keep ad) xaa c3 (λt az=>by simp[az])) 2 a F yac r1 (ev.elim K)
 have bL:(∃v,dX st loc n=.ok v)->_:=λev=>fE f st loc a Y.gd Y.nm Y.lo bD r1 (ev.elim K)
 have bC:(∃v,dX st loc n=.ok v)->∀s x,r1=.ok (s,x)->RsG s bp:=λev s x e=>by
  obtain⟨w,_⟩:=bL ev s x e
  obtain⟨v,aD⟩:=ev
  exact fE f s loc b w.g (Y.nm.gw w) (Y.lo.le w.n) T bp (a6 v aD s x e)
 have bv:(∃v,dX st loc n=.ok v)->∀s x,r1=.ok (s,x)->∀bx a9 bj bI bR,WS bx P B a9 bj bI bR am s->Mv (Mst P u1 ap u3 u4) A (Mst P a9 bj bI bR) bx->Calls prog 33 #[ge P,.slice bG aP cL,.slice (some ⟨g,b6,none⟩) us.length ak] bx (TrO bx P B a9 bj bI bR am bp):=λev s x e bx a9 bj bI bR X bH=>by
  obtain⟨w,_⟩:=bL ev s x e
  obtain⟨v,aD⟩:=ev
  exact D bx P B a9 bj bI bR am s bG aP cL loc g b6 us.length ak us (Y.seg X w ((Mv.of ae).trans bH) (J.keepC bH.chg Y.tg) xaa L (λt az=>by simp[az])) 2 b I yac bp (a6 v aD s x e)
 obtain⟨O,a0,i1⟩:=k;simp only at H;subst H;exact CH (Y.ws.keep ae) Y.gd.m (Y.lc.keep ae) Y.ln a0 i1 n xac ch (Y.ws.far2 a5) c1 ⟨ch,p,u⟩ b9 r1 bp bL (λv aD=>jP Y.nm Y.lo aD) bC aE bv):Zp:=h
open cM in
theorem FE{l c n d q}(D:TrC f)(Y:TrIn W P B u1 ap u3 u4 am st bG aP loc g aO m cap (k::l::(ts++c::n::d::(us++[q]))))(H:k.sym=zh)(ab:l.sym=[40])(F:Pr 2 [a] ts)(aj:c.sym=[44])(V:n.sym=eu)(aT:d.sym=[44])(I:Pr 2 [b] us)(an:q.sym=[41])(h:dQ (f+1) st loc (.jvp k a n b)=some r):
  Calls prog 33 #[ge P,.slice bG aP cL,.slice (some ⟨g,aO,none⟩) m cap] W (TrO W P B u1 ap u3 u4 am r):=by
 obtain⟨r1,bp,rfl,K,a6⟩:=CI h;exact qda
end
theorem FF(D:TrC f){es ts}(aB:Pr n es ts):∀e,es=[e]->n<=2->∀(W:World) (P B:Nat) (u1 ap u3 u4:Value) (am:List Bc) (st:LSt) (bG:Option Addr) (aP cL:Nat) (loc:Loc) (g aO m cap:Nat),TrIn W P B u1 ap u3 u4 am st bG aP loc g aO m cap ts->∀r,dQ (f+1) st loc e=some r->
  Calls prog 33 #[ge P,.slice bG aP cL,.slice (some ⟨g,aO,none⟩) m cap] W (TrO W P B u1 ap u3 u4 am r):=by
 induction aB with
 |up01 _ O=>intro e bl V;exact O e bl xaa
 |up12 _ O=>intro e bl V;exact O e bl xaa
 |arg1 _ _=>intro e bl V;omega
 |argM _ _ _ _ _=>intro e bl V;omega
 |add F av I _ _=>intro e bl V;cases bl;intro W P B u1 ap u3 u4 am st bG aP cL loc g aO m cap Y r h;exact Fk D Y F av I h
 |mul F av I _ _=>intro e bl V;cases bl;intro W P B u1 ap u3 u4 am st bG aP cL loc g aO m cap Y r h;exact Fl D Y F av I h
 |neg av F _=>intro e bl V;cases bl;intro W P B u1 ap u3 u4 am st bG aP cL loc g aO m cap Y r h;exact Fm D Y av F h
 |num az=>intro e bl V;cases bl;intro W P B u1 ap u3 u4 am st bG aP cL loc g aO m cap Y r h;exact Ft Y az h
 |name az=>intro e bl V;cases bl;intro W P B u1 ap u3 u4 am st bG aP cL loc g aO m cap Y r h;exact Cm Y az h
 |par ab F an O=>intro e bl V;cases bl;intro W P B u1 ap u3 u4 am st bG aP cL loc g aO m cap Y r h;exact Fo Y ab F an (λA a=>O _ rfl yac _ P B _ _ _ _ _ _ _ _ _ _ g _ _ _ a r h)
 |call0 az ab an=>intro e bl V;cases bl;intro W P B u1 ap u3 u4 am st bG aP cL loc g aO m cap Y r h;exact zL D Y az ab an h
 |call az ab F an _=>intro e bl V;cases bl;intro W P B u1 ap u3 u4 am st bG aP cL loc g aO m cap Y r h;exact CC D Y az ab F an h
 |key1 H ab F an _=>intro e bl V;cases bl;intro W P B u1 ap u3 u4 am st bG aP cL loc g aO m cap Y r h;exact Cp D Y H ab F an h
 |key2 H ab F aj I an _ _=>intro e bl V;cases bl;intro W P B u1 ap u3 u4 am st bG aP cL loc g aO m cap Y r h;exact Cz D Y H ab F aj I an h
 |key3 H ab F aj I aD aT an _ _ _=>intro e bl V;cases bl;intro W P B u1 ap u3 u4 am st bG aP cL loc g aO m cap Y r h;exact CA D Y H ab F aj I aD aT an h
 |keyN H ab F aj b3 an _=>intro e bl V;cases bl;intro W P B u1 ap u3 u4 am st bG aP cL loc g aO m cap Y r h;exact Cq D Y H ab F aj b3 an h
 |put H ab F aj hi aD b3 an _=>intro e bl V;cases bl;intro W P B u1 ap u3 u4 am st bG aP cL loc g aO m cap Y r h;exact Fs D Y H ab F aj hi aD b3 an h
 |grad H ab F aj ar an _=>intro e bl V;cases bl;intro W P B u1 ap u3 u4 am st bG aP cL loc g aO m cap Y r h;exact CF D Y H ab F aj ar an h
 |jvp H ab F aj ar aD I an _ _=>intro e bl V;cases bl;intro W P B u1 ap u3 u4 am st bG aP cL loc g aO m cap Y r h;exact FE D Y H ab F aj ar aD I an h
theorem trc:∀f,TrC f
 |0=>λW P B u1 ap u3 u4 am st bG aP cL loc g aO m cap ts Y n e aB V r h=>by rw[dQ]at h;cases h
 |f+1=>λW P B u1 ap u3 u4 am st bG aP cL loc g aO m cap ts Y n e aB V r h=>FF (trc f) aB e rfl V W P B u1 ap u3 u4 am st bG aP cL loc g aO m cap Y r h
theorem nY(a b:List au){aX i}(h:i<a.length):(a++b).getD i aX=a.getD i aX:=by
 grind
theorem uI(a)(x aX:au):(a++[x]).getD a.length aX=x:=by
 simp_all
theorem qn{a:List au}{x aX i}(h:i<a.length):(a.set i x).getD i aX=x:=by
 simp_all
theorem sY{a:List au}{x aX i j}(h:i≠j):(a.set i x).getD j aX=a.getD j aX:=by
 simp_all
theorem bD.qbz(h:Zp:=by
 have aq:g9≠P:=λe=>by
  subst e
  obtain c|c:=ce
  ·exact bw c
  ·have:=h.lt;omega
 have t:(Value.slice _ _ _).ownBlock≠some P:=λc=>aq ((l P).1 c);have C:∀o,_:=λo=>bz.cell (p:=⟨P,o,none⟩) h.lt bw;have es:∀o,o≠0->(bn.setCell ⟨P,0,_⟩ (hZ g9 n9 cap9)).cell? _=W.cell? _:=λo av=>(dR (.inr (λe=>av e.symm))).trans (C o);have O:=(d9 (lo:=P) (hi:=P+1) bn ⟨P,0,none⟩ (hZ g9 n9 cap9) yab)
 have bc:Mv (Mst P u1 ap u3 u4) W (Mst P (hZ g9 n9 cap9) ap u3 u4) (bn.setCell ⟨P,0,none⟩ (hZ g9 n9 cap9)):=by
  refine⟨Chg.andThen ⟨bz.os,bz.tape,bz.output,bz.size,λi hi V=>bz.block i hi (λc=>V (.inr (.inl c)))⟩ (O.chg1 (.inl rfl)),λb I=>?_⟩;obtain c|c|c|c|c:=I
  ·exact .inl (.inl c)
  ·rw[l]at c;subst c;obtain d|d:=ce
   ·exact .inl (.inr (.inl d))
   omega
  ·exact .inl (.inr (.inr (.inl c)))
  ·exact .inl (.inr (.inr (.inr (.inl c))))
  exact .inl (.inr (.inr (.inr (.inr c))))
 exact qer):Zp:=h
theorem bD.qes(h:Zp:=by
 refine⟨⟨by simpa using yaj h.lt bz.size,λo=>?_,eR ((C 0).trans h.c0),(es 1 xab).trans h.c1,(es 2 xab).trans h.c2,(es 3 xab).trans h.c3,(es 4 xab).trans h.c4,(es 5 xab).trans h.c5,(es 6 xab).trans h.c6,?_,?_,?_,?_,⟨t,p2,ah,ar⟩,⟨(m h.r2 p.symm).symm,(m h.r3 q.symm).symm,(m h.r4 z.symm).symm,r,D,J⟩,h.nl,λi hi=>(h.nb i hi).mv bc,h.sz⟩,bc⟩
 ·have:=(bz.frozen h.lt bw).trans (h.fr o);simp[this]
 ·subst V;exact dP aW t
 ·exact dP (fR h.r2 bz (λb I c=>p b c I)) p2
 ·exact dP (fR h.r3 bz (λb I c=>q b c I)) ah
 exact dP (fR h.r4 bz (λb I c=>z b c I)) ar):Zp:=h
open bD in
theorem WS.ins_{W}(h:WS W P B u1 ap u3 u4 am st)(bz:Chg (λb=>u1.ownBlock=some b) W bn)(V:n9=zs.length)(aW:bn.ownsRow B 3 1 (hZ g9 n9 cap9) n9 (zs.map (Value.int .i64)))(ce:u1.ownBlock=some g9\/W.heap.size<=g9):
  WS (bn.setCell ⟨P,0,none⟩ (hZ g9 n9 cap9)) P B (hZ g9 n9 cap9) ap u3 u4 am {st with ins:=zs}/\Mv (Mst P u1 ap u3 u4) W (Mst P (hZ g9 n9 cap9) ap u3 u4) (bn.setCell ⟨P,0,none⟩ (hZ g9 n9 cap9)):=by
 exact qby
theorem bE.qbz(h:Zp:=by
 have aq:g9≠P:=λe=>by
  subst e
  obtain c|c:=ce
  ·exact ah c
  ·have:=h.lt;omega
 have t:(Value.slice _ _ _).ownBlock≠some P:=λc=>aq ((l P).1 c);have C:∀o,_:=λo=>bz.cell (p:=⟨P,o,none⟩) h.lt ah;have es:∀o,o≠2->(bn.setCell ⟨P,2,_⟩ (hZ g9 n9 cap9)).cell? _=W.cell? _:=λo av=>(dR (.inr (λe=>av e.symm))).trans (C o);have O:=(d9 (lo:=P) (hi:=P+1) bn ⟨P,2,none⟩ (hZ g9 n9 cap9) yab)
 have bc:Mv (Mst P u1 ap u3 u4) W (Mst P u1 ap (hZ g9 n9 cap9) u4) (bn.setCell ⟨P,2,none⟩ (hZ g9 n9 cap9)):=by
  refine⟨Chg.andThen ⟨bz.os,bz.tape,bz.output,bz.size,λi hi V=>bz.block i hi (λc=>V (.inr (.inr (.inr (.inl c)))))⟩ (O.chg1 (.inl rfl)),λb I=>?_⟩;obtain c|c|c|c|c:=I
  ·exact .inl (.inl c)
  ·exact .inl (.inr (.inl c))
  ·exact .inl (.inr (.inr (.inl c)))
  ·rw[l]at c;subst c;obtain d|d:=ce
   ·exact .inl (.inr (.inr (.inr (.inl d))))
   omega
  exact .inl (.inr (.inr (.inr (.inr c))))
 exact qer):Zp:=h
theorem bE.qes(h:Zp:=by
 refine⟨⟨by simpa using yaj h.lt bz.size,λo=>?_,(es 0 xab).trans h.c0,(es 1 xab).trans h.c1,eR ((C 2).trans h.c2),(es 3 xab).trans h.c3,(es 4 xab).trans h.c4,(es 5 xab).trans h.c5,(es 6 xab).trans h.c6,?_,?_,?_,?_,⟨bw,p2,t,ar⟩,⟨p,m h.r1 q,z,m h.r2 r,D,(m h.r4 J.symm).symm⟩,h.nl,λi hi=>(h.nb i hi).mv bc,h.sz⟩,bc⟩
 ·have:=(bz.frozen h.lt ah).trans (h.fr o);simp[this]
 ·exact dP (fR h.r1 bz (λb I c=>q b I c)) bw
 ·exact dP (fR h.r2 bz (λb I c=>r b I c)) p2
 ·subst V;exact dP aW t
 exact dP (fR h.r4 bz (λb I c=>J b c I)) ar):Zp:=h
open bE in
theorem WS.outs_{W}(h:WS W P B u1 ap u3 u4 am st)(bz:Chg (λb=>u3.ownBlock=some b) W bn)(V:n9=zs.length)(aW:bn.ownsRow B 3 1 (hZ g9 n9 cap9) n9 (zs.map (Value.int .i64)))(ce:u3.ownBlock=some g9\/W.heap.size<=g9):
  WS (bn.setCell ⟨P,2,none⟩ (hZ g9 n9 cap9)) P B u1 ap (hZ g9 n9 cap9) u4 am {st with outs:=zs}/\Mv (Mst P u1 ap u3 u4) W (Mst P u1 ap (hZ g9 n9 cap9) u4) (bn.setCell ⟨P,2,none⟩ (hZ g9 n9 cap9)):=by
 exact qby
theorem bF.qbz(h:Zp:=by
 have aq:g9≠P:=λe=>by
  subst e
  obtain c|c:=ce
  ·exact ar c
  ·have:=h.lt;omega
 have t:(Value.slice _ _ _).ownBlock≠some P:=λc=>aq ((l P).1 c);have C:∀o,_:=λo=>bz.cell (p:=⟨P,o,none⟩) h.lt ar;have es:∀o,o≠3->(bn.setCell ⟨P,3,_⟩ (hZ g9 n9 cap9)).cell? _=W.cell? _:=λo av=>(dR (.inr (λe=>av e.symm))).trans (C o);have O:=(d9 (lo:=P) (hi:=P+1) bn ⟨P,3,none⟩ (hZ g9 n9 cap9) yab)
 have bc:Mv (Mst P u1 ap u3 u4) W (Mst P u1 ap u3 (hZ g9 n9 cap9)) (bn.setCell ⟨P,3,none⟩ (hZ g9 n9 cap9)):=by
  refine⟨Chg.andThen ⟨bz.os,bz.tape,bz.output,bz.size,λi hi V=>bz.block i hi (λc=>V (.inr (.inr (.inr (.inr c)))))⟩ (O.chg1 (.inl rfl)),λb I=>?_⟩;obtain c|c|c|c|c:=I
  ·exact .inl (.inl c)
  ·exact .inl (.inr (.inl c))
  ·exact .inl (.inr (.inr (.inl c)))
  ·exact .inl (.inr (.inr (.inr (.inl c))))
  rw[l]at c;subst c;obtain d|d:=ce
  ·exact .inl (.inr (.inr (.inr (.inr d))))
  omega
 exact qer):Zp:=h
theorem bF.qes(h:Zp:=by
 refine⟨⟨by simpa using yaj h.lt bz.size,λo=>?_,(es 0 xab).trans h.c0,(es 1 xab).trans h.c1,(es 2 xab).trans h.c2,eR ((C 3).trans h.c3),(es 4 xab).trans h.c4,(es 5 xab).trans h.c5,(es 6 xab).trans h.c6,?_,?_,?_,?_,⟨bw,p2,ah,t⟩,⟨p,q,m h.r1 z,r,m h.r2 D,m h.r3 J⟩,(by simp only[yak,List.length_singleton];rw[h.nl]),λi hi=>by
  simp only
  by_cases c:i<am.length
  ·rw[nY _ _ c,nY _ _ (iv h.nl c)]
   exact(h.nb i c).mv bc
  ·have e:i=am.length:=by grind
   subst e
   rw[uI,h.nl,uI]
   exact I bc,h.sz⟩,bc⟩
 ·have:=(bz.frozen h.lt ar).trans (h.fr o);simp[this]
 ·exact dP (fR h.r1 bz (λb I c=>z b I c)) bw
 ·exact dP (fR h.r2 bz (λb I c=>D b I c)) p2
 ·exact dP (fR h.r3 bz (λb I c=>J b I c)) ah
 subst V;exact dP aW t):Zp:=h
open bF in
theorem WS.nms_{W}(h:WS W P B u1 ap u3 u4 am st)(bz:Chg (λb=>u4.ownBlock=some b) W bn){b d}(V:n9=(am++[b]).length)(aW:bn.ownsRow B 70 5 (hZ g9 n9 cap9) n9 (bcF (am++[b])))(ce:u4.ownBlock=some g9\/W.heap.size<=g9)(I:Mv (Mst P u1 ap u3 u4) W (Mst P u1 ap u3 (hZ g9 n9 cap9)) (bn.setCell ⟨P,3,none⟩ (hZ g9 n9 cap9))->BcOK (Mst P u1 ap u3 (hZ g9 n9 cap9)) (bn.setCell ⟨P,3,none⟩ (hZ g9 n9 cap9)) b d):
  WS (bn.setCell ⟨P,3,none⟩ (hZ g9 n9 cap9)) P B u1 ap u3 (hZ g9 n9 cap9) (am++[b]) {st with names:=st.names++[d]}/\Mv (Mst P u1 ap u3 u4) W (Mst P u1 ap u3 (hZ g9 n9 cap9)) (bn.setCell ⟨P,3,none⟩ (hZ g9 n9 cap9)):=by
 exact qby
theorem Nb{W:World}{e s g cap k:Nat}{G u}(h:W.ownsRow B e s (hZ g n cap) n G):(W.setCell ⟨g,k,none⟩ u).ownsRow B e s (hZ g n cap) n (G.set k u):=by
 refine⟨by rw[List.length_set];exact h.1,?_⟩;obtain⟨c,_⟩|⟨aY,cap',bp,K,L,bi,U,ae,aF,ah⟩:=h.2
 ·cases c
 cases K;refine .inr ⟨g,_,bp.setIfInBounds k u,rfl,L,?_,U,ae,by grind,?_⟩
 ·rw[heap_setCell_same W g k _ _ _ bi]
 grind[List.take_set]
theorem A5:∀(am:List Bc) (k:Nat) (v:Int),k<am.length->(bcF am).set (k*5+2) (h0 v)=bcF (am.set k {am.getD k h9 with val:=v})
 |b::r,0,v,_=>by simp[bcF,Bc.cells]
 |b::r,k+1,v,h=>by
  have I:b.cells.length=5:=rfl
  rw[bcF,List.set_append_right _ _ xaa,I,show(k+1)*5+2-5=k*5+2 by omega,A5 r k v (by simpa using h)]
  rfl
theorem WS.setv{W}(h:WS W P B u1 ap u3 u4 am st){i}(hi:i<am.length){s}{bh v:Nat}(aT:st.names.getD i (.val [] 0)=.val s bh):∃be bZ,u4=hZ be am.length bZ/\be<W.heap.size/\W.frozen? ⟨be,i*5+2,none⟩=false/\WS (W.setCell ⟨be,i*5+2,none⟩ (h0 v)) P B u1 ap u3 u4 (am.set i {am.getD i h9 with val:=(v:Int)}) (st.setV i s v)/\Mv (Mst P u1 ap u3 u4) W (Mst P u1 ap u3 u4) (W.setCell ⟨be,i*5+2,none⟩ (h0 v)):=by
 obtain⟨be,bZ,b2,_,aG,_,bf⟩:=lB h.r4 xaa;have l:u4.ownBlock=some be:=i0 b2
 have bC:W.frozen? ⟨be,i*5+2,none⟩=false:=by
  obtain⟨c,c2⟩|⟨aY,cap',bp,K,L,bi,_⟩:=h.r4.2
  ·omega
  cases b2.symm.trans K;simp[World.frozen?,bi]
 refine⟨_,_,b2,aG,bC,?_⟩;have a0:=d9 (lo:=be) (hi:=be+1) W ⟨_,i*5+2,none⟩ (h0 v) yab;have bc:Mv _ W (Mst P u1 ap u3 _) _:=⟨a0.chg1 (.inr (.inr (.inr (.inr l)))),λb I=>.inl I⟩
 obtain⟨n1,aI,aE,S⟩:=h.np;obtain⟨p,q,z,r,D,J⟩:=h.ap;have aq:be≠P:=λe=>S (by grind);have es:∀o,(W.setCell ⟨_,i*5+2,_⟩ (h0 v)).cell? _=W.cell? ⟨P,o,_⟩:=λo=>dR (.inl aq);refine⟨⟨by simpa using h.lt,λo=>by simp[h.fr o],(es 0).trans h.c0,(es 1).trans h.c1,(es 2).trans h.c2,(es 3).trans h.c3,(es 4).trans h.c4,(es 5).trans h.c5,(es 6).trans h.c6,dP h.r1 (λc=>z _ c l),dP h.r2 (λc=>D _ c l),dP h.r3 (λc=>J _ c l),?_,h.np,h.ap,?_,λj aK=>?_,h.sz⟩,bc⟩
 ·have:=Nb (k:=i*5+2) (u:=h0 v) (by have:=h.r4;rw[b2]at this;exact this);rw[A5 _ i v hi]at this;rw[b2,List.length_set];exact this
 ·show(am.set i _).length=(st.names.set i _).length;rw[List.length_set,List.length_set,h.nl]
 rw[List.length_set]at aK;show BcOK _ _ ((am.set i _).getD j h9) ((st.names.set i _).getD j (.val [] 0));by_cases c:j=i
 ·subst c;have I:=h.nb j hi;rw[aT]at I;rw[qn hi,qn (iv h.nl hi)];exact⟨I.1,I.2.1,rfl⟩
 rw[sY (λe=>c e.symm),sY (λe=>c e.symm)];exact(h.nb j aK).mv bc
def StO(W:World)(P B:Nat)(u1 u2 u3 u4:Value)(r:Rs LSt)(e:Ending)(W':World):Prop:=
 e=.returned (.tuple #[])/\match r with
 |.error (c,p)=>W'.cell? ⟨P,5,none⟩=some (.int .i64 c)/\W'.cell? ⟨P,6,none⟩=some (.int .i64 (p:Int))/\Chg (Mst P u1 u2 u3 u4) W W'
 |.ok st=>∃bs v1 v2 v3 v4,WS W' P B v1 v2 v3 v4 bs st/\Mv (Mst P u1 u2 u3 u4) W (Mst P v1 v2 v3 v4) W'
