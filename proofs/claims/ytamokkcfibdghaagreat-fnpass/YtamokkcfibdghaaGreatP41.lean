import Derived.Test.YtamokkcfibdghaaGreatP40
import Derived.Test.YtamokkcfibdghaaGreatP36
namespace Go.Proofs.Z
variable {Zp:Prop}
open Tryz Go.RowKit Flt
set_option maxRecDepth 1000000
set_option maxHeartbeats 0
section
attribute [local go_sem] eG eE eD
theorem u.qaf(h:Zp:=by
 exact qek):Zp:=h
theorem u.qel(h:Zp:=by
 have bp:¬((s:Int)<x):=xaa;go_upto_region 7 with fail;clear bk a8 p2 bG f1 f2 S;generalize ((af.setCell _ _).setCell _ _).setCell _ _=dd at HL dg⊢;rw[<-al.o]at HL fa;generalize (Value.slice a2 _ _).ownBlock=gs at HL fa;have g4:V _:=BS al.o ad cd.o (rj (hU al.o ec.o)) G (λi hi q aq=>hR (et.o i hi q aq));have ep:V ((jC vs x (s-x)).length=U):=by show _=_;rw[oe,al.o]
 generalize jC _ x _=act at dg a5 g4 ep G;clear G;have az:=pJ (s+1) dd xaa;rw[show(s+1:Nat)=(s:Int)+1 from rfl]at az;have hD:IntKind.i64.wrap (s+1)=s+1:=by rw[IntKind.wrap_i64];omega
 have hC:(0:Int)<=s+1:=xaa
 have cQ:V (LG w (dd.alloc (.cells (madeCells #[hI 0] (s+1)) 3)) dd.heap.size A N Y d1 ab Z d3 ins outs vs (lJ 0 (s+1)) act aB.heap.size gs a2 d2):=by
  have bH:=ez 0 0 dd (.cells (madeCells #[hI 0] (s+1)) 3);have e:lJ 0 (s+1)=List.replicate (s+1) 0:=by simp[lJ]
  rw[e];exact⟨HL.o.keep bH,IR.made dd _,BR.keep dg.o bH yaa,HL.o.far yad,fa.o,hR (BR.lt dg.o)⟩
 generalize dd.alloc _=aX at az cQ;generalize dd.heap.size=ar at az cQ;clear HL dg fa;go_wp2_with fail;clear az;generalize aB.heap.size=base at cQ t;go_loopw [11] (λv W=>∃k:Nat,k<=s+1/\v=hI k/\V (LG w W ar A N Y d1 ab Z d3 ins outs vs (lJ k (s+1)) act base gs a2 d2)) (λv _=>s+1-(intOf v).toNat)
 case atStart=>exact⟨0,Nat.zero_le _,rfl,cQ⟩
 case round=>
  obtain⟨k,O,rfl,ak⟩:=hrel
  clear cQ
  by_cases aF:k<s+1
  ·have c1:=IR.cell ak.o.m k (by rw[uV k _ O];exact aF)
   have c2:=IR.free ak.o.m k
   have R1:V (LG w (wr.setCell ⟨ar,k,none⟩ (hI (-1))) ar A N Y d1 ab Z d3 ins outs vs (lJ (k+1) (s+1)) act base gs a2 d2):=by
    have:=ak.o.set k (-1)
    rw[uX aF]at this
    exact this
   clear ak
   generalize (lJ k _).getD k 0=z at c1
   have H:(0:Int)<=k:=xaa
   have an:(k:Int)<s+1:=xaa
   have ao:(k:Int)<=s:=xaa
   exact xiz
  obtain rfl:k=s+1:=xaa
  have c8:=ak.o
  rw[uW]at c8
  have fc:V _:=c8
  have s0:=c8.l.g.c0
  have ax:=c8.l.g.c1
  have aN:=c8.l.g.c2
  have ao:¬((s+1:Nat)<=(s:Int)):=xaa
  have bv:vs.length<=1000000:=hR al.o
  clear ak c8
  go_wp2_with fail
  refine yai (LK.call fc.o.l hQ ⟨1,1,0,0,0,_⟩ bv) ?_
  rintro e bm ⟨aG,cap',rfl,⟨_,bn⟩,⟨_,aC⟩,⟨_,a0⟩,aj,aH⟩
  have bq:=aj 0
  have br:=aj 1
  have bC:=aj 2
  have cB:V (LG w _ _ A _ _ _ _ _ _ _ _ (xe _ s).1 _ _ _ _ _ _):=fc.o.stq aH.o.1 aH.o.2
  clear aj aH fc s0 ax aN
  unfold fB at cB
  have aK:V _:=λW=>je W N (some ⟨aG,0,none⟩) ab Y d1 _ cap' Z d3 (show vs.length+1<=1000000 by have:=al.o;omega)
  rw[show(vs.length+1:Nat)-1=(vs.length:Int) by omega]at aK
  go_upto_region 13 with fail
  generalize ((bm.setCell _ _).setCell ⟨_,1,_⟩ _).setCell _ _=bA at cB⊢
  clear bn aC a0 bq br bC
  have s0:=cB.o.l.g.c0
  have ax:=cB.o.l.g.c1
  rw[show(xe _ s).1.length=vs.length+1 by simp[xe]]at ax
  have aN:=cB.o.l.g.c2
  go_wp2_with fail
  refine yai (aK.o _) ?_
  rintro e ck ⟨rfl,b6⟩
  have aP:V _:=cB.o.keep b6
  have c1:=IR.cell aP.o.m s xac
  have c2:=IR.free aP.o.m s
  generalize (List.replicate _ (-1:Int)).getD s 0=z at c1
  have er:V (∃aa a2 cap,LG w _ _ A _ _ _ _ _ _ _ _ (gdn _ act s 0).1 ((gdn _ act s 0).2.take _) _ _ aa a2 cap):=⟨_,_,_,by
   have:=aP.o.set s ((vs.length:Nat):Int)
   rw[Da vs s (hU al.o ad)]at this
   exact this⟩
  clear cB aP aK s0 ax aN b6
  have b0:(s:Int)<s+1:=xaa
  go_wp2_with fail
  clear c1 c2
  generalize ck.setCell ⟨_,s,_⟩ _=cc at er⊢
  go_loopw [12] (λv W=>∃(i j:Nat),v=hI i/\i+j=s/\j<=s-x/\V (∃aa a2 cap,LG w W ar A N Y d1 ab Z d3 ins outs (gdn vs act s j).1 ((gdn vs act s j).2.take (s+1)) act base aa a2 cap)) (λv _=>(intOf v).toNat)
  case atStart=>exact⟨s,0,rfl,rfl,Nat.zero_le _,er⟩
  case round=>
   obtain⟨i,j,rfl,f7,hj,ak⟩:=hrel
   clear er
   obtain⟨aa,a4,fq,ak⟩:=ak.o
   have bB:=g4.o j xaa
   by_cases aF:j<s-x
   ·have hr:(x:Int)<i:=xaa
    have cr:i<U:=xaa
    have gA:i<=s:=xaa
    have bK:(0:Int)<=i:=xaa
    have ch:(i:Int)<U:=xaa
    have ev:(i:Int)<s+1:=xaa
    have c6:V (gdn vs act s (j+1)=giM vs act i (gdn vs act s j)):=by
     show _=_
     rw[gdn,show s-j=i by omega]
    have hs:IntKind.i64.wrap (i-1)=i-1:=by rw[IntKind.wrap_i64];omega
    have fT:V (i+j=s/\j<s-x):=⟨f7,aF⟩
    have cS:V (2001+12*j<=700000/\51000+12000*(j:Int)<=700000000):=by constructor<;>omega
    obtain⟨v,aL⟩:∃v,v=vs.getD i hM:=⟨_,rfl⟩
    have bT:V _:=aL
    have c9:=a9.o i cr
    have ef:=et.o i cr
    rw[<-aL]at c9 ef
    have ff:V _:=ef
    have bi:V _:=LB _ c9.1 c9.2
    generalize gdn _ _ s j=st at ak bB c6
    generalize 2001+12*j=Q at bB cS
    generalize 51000+12000*(j:Int)=F at bB cS
    clear aL ef f7 aF hj
    have bX:V _:=bB
    have f0:V _:=ak
    have eu:i<st.1.length:=by have:=(bB.p.at_ (show i<vs.length by rw[al.o];exact cr)).2;exact this
    have eS:st.1.getD i hM=v:=by rw[bT.o];exact(bB.p.at_ (show i<vs.length by rw[al.o];exact cr)).1
    have cO:=gK v.op
    obtain⟨bu,rfl,rfl,_,_⟩:=ak.l.read xaa
    have hx:i<(st.1.length:Int):=xaa
    clear bB ak
    by_cases aV:st.2.getD i 0=-1
    ·
     have hc:giM vs act i st=st:=by unfold giM;rw[hK aV]
     have R1:V (∀W,LG w W ar A _ Y d1 ab Z d3 _ outs _ _ _ _ (some bu) (some ⟨bu,0,none⟩) fq->∃aa a2 cap,LG w W _ A N _ _ _ _ _ ins _ (gdn _ _ s _).1 ((gdn _ _ s _).2.take (s+1)) act base aa a2 cap):=λW h=>⟨_,_,_,by rw[c6.o,hc];exact h⟩
     clear hc
     go_wp2_with fail
     go_loopw [13] (λu W=>∃k:Nat,k<=cnt v.op/\u=hI k/\V (LG w W ar A N Y d1 ab Z d3 ins outs st.1 (st.2.take (s+1)) act base (some bu) (some ⟨bu,0,none⟩) fq)) (λu _=>cnt v.op-(intOf u).toNat)
     case atStart=>exact⟨0,Nat.zero_le _,rfl,f0⟩
     case round=>
      obtain⟨k,O,rfl,aT⟩:=hrel
      clear f0
      have aU:=aT.o.l.g.c1
      obtain⟨c7,dv,_,_,a7⟩:=aT.o.l.read xaa
      cases dv
      have bg:=a7 i eu
      rw[eS]at bg
      obtain⟨bM,aZ,be,bz,bE,bl⟩:=bg
      clear a7
      by_cases co:k<cnt v.op
      ·obtain⟨o,av,gE⟩:∃o:Nat,fld v k=o/\o<i:=by
        exact xlb
       have di:V (∀W,Calls _ _ _ W λe J=>e=.returned (.int _ o)/\Kept 0 0 W _):=λW=>by rw[<-av];exact nf W v k xaa
       have bY:k<(cnt v.op:Int):=xaa
       have fv:IntKind.i64.wrap (k+1)=k+1:=by rw[IntKind.wrap_i64];omega
       clear av
       go_wp2_with (first|(go_at_call 37;refine yai (bi.o _) ?_;rintro e ck ⟨rfl,rfl⟩)|fail)
       refine yai (di.o _) ?_
       rintro e cc ⟨rfl,b0⟩
       have C:V _:=aT.o.keep b0
       have S:=BR.cell C.o.a i (hU ep.o cr)
       have am:=IR.cell C.o.m i (by rw[List.length_take,bX.o.l];omega)
       rw[mS gA,aV]at am
       clear aU bM aZ be bz bE bl b0 di aT
       cases hb:act.getD i false
       all_goals
        rw[hb]at S
        clear hb
        go_wp2_with fail
        clear S am
        go_roundw
        case rel=>exact⟨k+1,by omega,by go_num,C⟩
        case measure=>simp[intOf];omega
      ·have bY:¬(k<(cnt v.op:Int)):=xaa
       have R2:V _:=R1.o _ aT.o
       clear aT
       exact xfg
    
    have hd0:0<=st.2.getD i 0:=by rcases bX.o.i i cr with c|c;exact absurd c aV;exact c.1
    have g8:act.getD i false=true:=by rcases bX.o.i i cr with c|c;exact absurd c aV;exact c.2
    have hl:V (giM vs act i st=ki vs act i st (cnt v.op)):=by
     show _=_
     unfold giM
     rw[hJ aV,<-bT.o]
    have g6:V (∀q,q<cnt _->(fld (vs.getD i _) q).toNat≠i):=λq aq=>by rw[<-bT.o];have:=ff.o q aq;omega
    have g7:V (∃aa a2 cap,LG w _ _ A _ _ _ _ _ _ _ _ (ki vs act i _ 0).1 ((ki vs act i _ 0).2.take _) _ _ aa a2 cap):=⟨_,_,_,f0.o⟩
    have ej:V _:=hd0
    have hm:V _:=g8
    clear aV hd0 g8 f0 eu eS
    go_wp2_with fail
    go_loopw [13] (λu W=>∃k:Nat,k<=cnt v.op/\u=hI k/\V (∃aa a2 cap,LG w W ar A N Y d1 ab Z d3 ins outs (ki vs act i st k).1 ((ki vs act i st k).2.take (s+1)) act base aa a2 cap)) (λu _=>cnt v.op-(intOf u).toNat)
    case atStart=>exact⟨0,Nat.zero_le _,rfl,g7⟩
    case round=>
     obtain⟨k,O,rfl,aT⟩:=hrel
     clear g7
     obtain⟨aa,bU,bN,aT⟩:=aT.o
     have e3:Pre _ (ki _ act i _ k).1:=tw bX.o.p k
     have gR:=xd (rj (hU al.o ec.o)) (act:=act) (i:=i) bX.o.z k
     have gy:=tD bX.o.i bX.o.l ej.o k (λq aq=>g6.o q xaa)
     have cT:(ki vs act i st k).2.length=U:=by rw[qt];exact bX.o.l
     have ha:0<=(ki vs act i st k).2.getD i 0:=by rw[tC k (λq aq=>g6.o q xaa)];exact ej.o
     have f4:V (ki vs act i st (k+1)=gkM _ _ i k _):=rfl
     have g5:V (k=cnt _->gdn _ _ s _=ki _ _ i _ k):=λe=>by rw[c6.o,hl.o,e]
     generalize ki _ _ i _ k=y at aT e3 gR gy cT ha f4 g5
     have cl:i<vs.length:=hU al.o cr
     have eu:=(e3.at_ cl).2
     have eS:y.1.getD i hM=v:=by rw[bT.o];exact(e3.at_ cl).1
     obtain⟨bu,rfl,rfl,b7,a7⟩:=aT.l.read xaa
     have cn:y.1.length<=800000/\U<=y.1.length:=⟨hS gR.1 cS.o,by obtain⟨r,e⟩:=e3;rw[e,yak,al.o];omega⟩
     have bg:=a7 i eu
     rw[eS]at bg
     have ct:V _:=bg
     obtain⟨bM,aZ,be,bz,bE,bl⟩:=bg
     have aU:=aT.l.g.c1
     have hx:i<(y.1.length:Int):=xaa
     have aw:V _:=aT
     have fi:V _:=e3
     have ho:V _:=gy
     have cR:V _:=cT
     clear a7 aT e3 gR gy cT
     by_cases co:k<cnt v.op
     ·obtain⟨o,av,gE⟩:∃o:Nat,fld v k=o/\o<i:=by
       exact xlb
      have di:V (∀W,Calls _ _ _ W λe J=>e=.returned (.int _ o)/\Kept 0 0 W _):=λW=>by rw[<-av];exact nf W v k xaa
      have dp:V (gkM vs act i k y=if act.getD o false=true/\pq v k=true then mz vs o (nw (i:Int) v (laM vs i) k (y.2.getD i 0) y.1.length).2 (y.1++(nw (i:Int) v (laM vs i) k (y.2.getD i 0) y.1.length).1,y.2)else y):=by
       show _=_
       unfold gkM
       rw[<-bT.o,av]
       rfl
      have bY:k<(cnt v.op:Int):=xaa
      have fv:IntKind.i64.wrap (k+1)=k+1:=by rw[IntKind.wrap_i64];omega
      have ai:(0:Int)<=o:=xaa
      have b1:(o:Int)<U:=xaa
      have bS:(o:Int)<s+1:=xaa
      clear av
      go_wp2_with (first|(go_at_call 37;refine yai (bi.o _) ?_;rintro e ck ⟨rfl,rfl⟩)|fail)
      refine yai (di.o _) ?_
      rintro e cc ⟨rfl,b0⟩
      have C:V _:=aw.o.keep b0
      have gf:V _:=ct.o.keep b7 b0 yaa
      have S:=BR.cell C.o.a i (hU ep.o cr)
      rw[hm.o]at S
      have am:=IR.cell C.o.m i (by rw[List.length_take,cR.o];omega)
      rw[mS gA]at am
      have gd:=BR.cell C.o.a o (hW ep.o)
      generalize f6:y.2.getD i 0=d at am dp ha
      have hA:¬(d<0):=xaa
      clear aU bM aZ be bz bE bl b0 di aw ct b7 f6
      cases hb:act.getD o false
      ·rw[hb]at gd
       have R3:V (∃aa a2 cap,LG w _ _ A _ _ _ _ _ _ _ _ (ki _ _ i _ _).1 ((ki _ _ i _ _).2.take _) _ _ aa a2 cap):=⟨_,_,_,by
        rw[f4.o,dp.o,hJ (by rw[hb];simp)]
        exact C.o⟩
       clear hb C gf
       go_wp2_with fail
       clear S am gd
       exact xfd
      ·rw[hb]at gd
       have gp:V (gkM vs act i k y=if pq v k=true then mz vs o (nw (i:Int) v (laM vs i) k d y.1.length).2 (y.1++(nw (i:Int) v (laM vs i) k d y.1.length).1,y.2)else y):=by
        show _=_
        rw[dp.o,hb]
        simp
       have s0:=C.o.l.g.c0
       have ax:=C.o.l.g.c1
       have aN:=C.o.l.g.c2
       have ds:V (∀aD,Kept 0 0 cc aD->Calls prog 145 #[eZ N Y d1 (some ⟨bu,0,none⟩) y.1.length bN ab Z d3,hI i,hI k,hI d] aD λe bA=>∃(p:List Vl) (r:Int) (bU:Option Addr) (n:Nat) (cp:Option Nat),e=.returned (.tuple #[eZ N Y d1 bU p.length n ab Z d3,hI r,.bool (pq v k)])/\(∀I o,I<aD.heap.size->I≠bu->bA.cell? ⟨I,o,none⟩=aD.cell? ⟨I,o,none⟩)/\(∀I o,I<aD.heap.size->I≠bu->bA.frozen? ⟨I,o,none⟩=aD.frozen? ⟨I,o,none⟩)/\aD.heap.size<=bA.heap.size/\V (p=y.1++(ptM (i:Int) v (laM vs i) k d y.1.length).1/\r=(ptM (i:Int) v (laM vs i) k d y.1.length).2)/\
         V (∀(l h':Nat) (ck:World),Kept l h' bA ck->cc.heap.size<=l->(h'<=aD.heap.size\/bA.heap.size<=l)->(bu<l\/h'<=bu)->LG w (fB ck w.heap.size (.slice N Y d1) (.slice bU p.length n) (.slice ab Z d3)) ar A N Y d1 ab Z d3 ins outs p (y.2.take (s+1)) act base cp bU n)):=λaD ap=>by
        refine(N3 aD N ab Y d1 bN Z d3 base bu i y.1 v (laM vs i) k d (C.o.keep ap).l.g.own (C.o.keep ap).l.g.sz cn.1 eu (gf.o.keep (eI C.o.l.g.own (k:=bu) rfl).2 ap yaa) c9 co (λhp=>by
         obtain⟨gc,B,R,h3,_⟩:=OY (hU al.o cK.o) i (hU al.o cr) (hV bT.o hp)
         exact⟨_,hU bT.o B,hS cn.2 al.o,by rw[(Pre.at_ fi.o R).1];exact h3⟩)).mono ?_
        rintro e bA ⟨bU,n,cp,rfl,e6,e7,eb⟩
        have hn:∀I,I≠bu->¬((λ_=>False) I\/some bu=some I):=λI aS=>by rintro (c|c);exact c;cases c;exact aS rfl
        refine⟨_,_,_,_,cp,rfl,λI o aS aW=>eb.chg.cell aS (hn I aW),λI o aS aW=>eb.chg.frozen aS (hn I aW),eb.chg.size,⟨rfl,rfl⟩,λl h' ck b6 ah b3 b7=>?_⟩
        have cG:=C.o.l.step ap e6 e7 eb b6 ah (λg aW=>by
         rcases eb.row with c|⟨r,c,ay⟩
         ·rw[c]at aW;cases aW;exact b7
         ·rw[c]at aW;cases aW
          have:=(eI e6 (e7.trans c)).2
          omega)
        exact C.o.stq cG.1 cG.2
       have m:V (w.heap.size<cc.heap.size/\ar<cc.heap.size/\w.heap.size≠bu/\ar≠bu/\bu<cc.heap.size):=⟨C.o.l.g.lt,IR.lt C.o.m,λc=>C.o.l.g.ne (by rw[c]),λc=>C.o.fm.r (by rw[c]),(eI C.o.l.g.own rfl).2⟩
       have eA:=C.o.l.g.free
       clear hb gf C
       go_upto_region 22 with fail
       clear S gd
       go_cut [15,16,17] (λeT g2 e2 bo=>∃(X:Nat) (p:List Vl) (r:Int) (bU:Option Addr) (n:Nat) (cp:Option Nat),eT=hG X/\g2=hI r/\e2=.bool (pq v k)/\V (p=y.1++(ptM (i:Int) v (laM vs i) k d y.1.length).1/\r=(ptM (i:Int) v (laM vs i) k d y.1.length).2)/\V (RB bo X (.slice N Y d1) (.slice bU p.length n) (.slice ab Z d3)/\((∃u,bo.cell? ⟨w.heap.size,0,none⟩=some u)/\(∃u,bo.cell? ⟨w.heap.size,1,none⟩=some u)/\(∃u,bo.cell? ⟨w.heap.size,2,none⟩=some u))/\(∀o,bo.frozen? ⟨w.heap.size,o,none⟩=false))/\V (LG w (fB bo w.heap.size (.slice N Y d1) (.slice bU p.length n) (.slice ab Z d3)) ar A N Y d1 ab Z d3 ins outs p (y.2.take (s+1)) act base cp bU n))
       case first=>
        have ek:w.heap.size≠cc.heap.size:=hR m.o
        have gv:ar≠cc.heap.size:=hR m.o
        have bb:V (∀I o,I<cc.heap.size->(cc.alloc _).drew.cell? ⟨I,o,none⟩=cc.cell? _):=λI o aS=>(ez 0 0 _ fp).cell aS xaa
        go_region_held3 (λW:World=>W.cell? ⟨w.heap.size,0,none⟩=some (.slice N Y d1)/\W.cell? ⟨w.heap.size,1,none⟩=some (hH bu y.1.length bN)/\W.cell? ⟨w.heap.size,2,none⟩=some (.slice ab Z d3)/\W.cell? ⟨ar,i,none⟩=some (hI d)) (first|go_keep|(simp only[mb _ _ _ _ _ _ _ ek,mb _ _ _ _ _ _ _ gv];exact⟨bw,a1,a2,a3⟩)) (first
         |(go_at_call 145;refine yai (ds.o _ ((ez 0 0 _ _).trans (eF _))) ?_;rintro e bA ⟨p,r,bU,n,cp,rfl,bx,cC,cM,cH,ae⟩;have bw:=(bx _ 0 (by have:=m.o;simp;omega) m.o.2.2.1).trans ((bb.o _ 0 m.o.1).trans s0);have a1:=(bx _ 1 (by have:=m.o;simp;omega) m.o.2.2.1).trans ((bb.o _ 1 m.o.1).trans ax);have a2:=(bx _ 2 (by have:=m.o;simp;omega) m.o.2.2.1).trans ((bb.o _ 2 m.o.1).trans aN);have a3:=(bx _ i (by have:=m.o;simp;omega) m.o.2.2.2.1).trans ((bb.o _ i m.o.2.1).trans am);have cP:V _:=cC;have bM:=bx cc.heap.size 0 xac (hR m.o);have aZ:=bx cc.heap.size 1 xac (hR m.o);have be:=bx cc.heap.size 2 xac (hR m.o);have ew:=cC cc.heap.size 0 xac (hR m.o);have ex:=cC cc.heap.size 1 xac (hR m.o);have ey:=cC cc.heap.size 2 xac (hR m.o);have ei:V _:=cM;clear bx cC cM)
         |(go_at_call 145;refine yai (ds.o _ (eF _)) ?_;rintro e bA ⟨p,r,bU,n,cp,rfl,bx,cC,cM,cH,ae⟩;have bw:=(bx _ 0 m.o.1 m.o.2.2.1).trans s0;have a1:=(bx _ 1 m.o.1 m.o.2.2.1).trans ax;have a2:=(bx _ 2 m.o.1 m.o.2.2.1).trans aN;have a3:=(bx _ i m.o.2.1 m.o.2.2.2.1).trans am;have cP:V _:=cC;have cj:w.heap.size≠bA.heap.size:=(by have:=m.o;have:cc.heap.size<=bA.heap.size:=cM;omega);have cU:ar≠bA.heap.size:=(by have:=m.o;have:cc.heap.size<=bA.heap.size:=cM;omega);have ei:V _:=cM;clear bx cC cM))
        ·have ea:cc.heap.size<=bA.heap.size:=ei.o
         have bH:=ez 0 0 bA (.cells #[.slice N Y d1,.slice bU p.length n,.slice ab Z d3] 26)
         have cN:w.heap.size<bA.heap.size:=hR m.o
         have R2:V (RB (bA.alloc (.cells #[.slice N Y d1,.slice bU p.length n,.slice ab Z d3] 26)) bA.heap.size (.slice N Y d1) (.slice bU p.length n) (.slice ab Z d3)/\((∃u,(bA.alloc _).cell? _=some u)/\(∃u,(bA.alloc _).cell? _=some u)/\(∃u,(bA.alloc _).cell? _=some u))/\(∀o,(bA.alloc _).frozen? _=false)):=
          ⟨⟨by simp,by simp,by simp,by simp,by simp,by simp,by simp⟩,⟨⟨_,(bH.cell cN xaa).trans bw⟩,⟨_,(bH.cell cN xaa).trans a1⟩,⟨_,(bH.cell cN xaa).trans a2⟩⟩,λo=>(bH.frozen cN xaa).trans ((cP.o _ o m.o.1 m.o.2.2.1).trans (eA o))⟩
         have R3:V _:=ae.o _ bA.heap.size _ (ez _ _ _ (.cells #[.slice N Y d1,.slice bU p.length n,.slice ab Z d3] 26)) ea yab (.inl (hR m.o))
         exact xkp
        ·have ea:=yan (ez 0 0 _ _).size ei.o
         have K:=ft bA cc.heap.size (.slice N Y d1) (.slice bU p.length n) (.slice ab Z d3)
         have cN:w.heap.size<bA.heap.size:=hR m.o
         have gx:cc.heap.size<bA.heap.size:=yaj xac ei.o
         have fL:bA.cell? _=some (.slice none 0 0):=bM.trans xac
         have fM:bA.cell? _=some (.slice none 0 0):=aZ.trans xac
         have fP:bA.cell? _=some (.slice none 0 0):=be.trans xac
         obtain⟨bh,aU,aY⟩:=fj _ _ _ _ _ fL fM fP (.slice N Y d1) (.slice bU p.length n) (.slice ab Z d3)
         have en:∀o,bA.frozen? _=false:=λo=>(cP.o cc.heap.size o xac (hR m.o)).trans xac
         have bR:∀o,_:=λo=>(cP.o _ o (by have:=m.o;simp;omega) m.o.2.2.1).trans (((ez 0 0 _ _).frozen m.o.1 xaa).trans (eA o))
         have R2:V (RB _ _ _ _ _/\((∃u,(((bA.setCell _ (.slice N Y d1)).setCell _ (.slice bU p.length n)).setCell _ (.slice ab Z d3)).cell? _=some u)/\(∃u,(((bA.setCell _ (.slice N Y d1)).setCell _ (.slice bU p.length n)).setCell _ (.slice ab Z d3)).cell? _=some u)/\(∃u,(((bA.setCell _ (.slice N Y d1)).setCell _ (.slice bU p.length n)).setCell _ (.slice ab Z d3)).cell? _=some u))/\(∀o,(((bA.setCell ⟨cc.heap.size,0,none⟩ (.slice N Y d1)).setCell ⟨cc.heap.size,1,none⟩ (.slice bU p.length n)).setCell ⟨cc.heap.size,2,none⟩ (.slice ab Z d3)).frozen? ⟨w.heap.size,o,none⟩=false)):=
          ⟨⟨yaj gx K.size,bh,aU,aY,by simp[en 0],by simp[en 1],by simp[en 2]⟩,⟨⟨_,(mb _ _ _ _ _ _ _ ek).trans bw⟩,⟨_,(mb _ _ _ _ _ _ _ ek).trans a1⟩,⟨_,(mb _ _ _ _ _ _ _ ek).trans a2⟩⟩,λo=>by simp[bR o]⟩
         have R3:V _:=ae.o _ _ _ K yad (.inl xac) (.inl m.o.2.2.2.2)
         clear K fL fM fP en bR bh aU aY bM aZ be ew ex ey
         exact xkp
       case rest=>
        clear s0 ax aN am ds eA
        obtain⟨X,p,r,bU,n,cp,rfl,rfl,rfl,cH,bQ,ae⟩:=hcut
        obtain⟨⟨_,bj,aQ,a6,bL,bI,bJ⟩,⟨⟨_,bk⟩,⟨_,a8⟩,⟨_,p2⟩⟩,bR⟩:=bQ.o
        have gT:=bR 0
        have g0:=bR 1
        have g1:=bR 2
        clear bR bQ
        go_upto_region 24 with fail
        clear bj aQ a6 bL bI bJ bk a8 p2 gT g0 g1
        unfold fB at ae
        generalize ((wc.setCell _ _).setCell ⟨_,1,_⟩ _).setCell _ _=cX at ae⊢
        cases el:pq v k
        ·have R3:V (∃aa a2 cap,LG w _ _ A _ _ _ _ _ _ _ _ (ki _ _ i _ _).1 ((ki _ _ i _ _).2.take _) _ _ aa a2 cap):=⟨_,_,_,by
          have e:p=y.1:=by rw[cH.o.1];unfold ptM;rw[hJ (by rw[el];simp)];simp
          rw[f4.o,gp.o,hJ (by rw[el];simp),<-e]
          exact ae.o⟩
         clear ae cH el
         exact xfw
        ·have d0:p=y.1++(nw i v (laM vs i) k d y.1.length).1/\r=(nw i v (laM vs i) k d y.1.length).2:=by
          have e:=cH.o
          unfold ptM at e
          rw[hK el]at e
          exact e
         have gq:V (ki vs act i st (k+1)=mz vs o r (p,y.2)):=by
          show _=_
          rw[f4.o,gp.o,hK el,d0.1,d0.2]
         have ga:o<vs.length:=hR al.o
         have hf:p.length<=810000/\o<p.length/\(p.getD o hM).len=(vs.getD o hM).len:=by
          have eC:=yP i v (laM _ i) k d y.1.length (by rw[bT.o];exact(rj (hU al.o ec.o) i).1) (by rw[bT.o];exact(rj (hU al.o ec.o) i).2) (rj (hU al.o ec.o) _).1 (rj (hU al.o ec.o) _).2
          have fG:Pre vs p:=by rw[d0.1];exact Pre.app fi.o
          refine⟨?_,(Pre.at_ fG ga).2,by rw[(Pre.at_ fG ga).1]⟩
          rw[d0.1,yak]
          have:=eC.1
          omega
         obtain⟨hf,hu,cF⟩:=hf
         have gB:(y.2.take (s+1)).length=s+1:=by rw[List.length_take,cR.o];omega
         have e9:=IR.cell ae.o.m o (hW gB)
         rw[mS xaa]at e9
         have hh:=IR.free ae.o.m o
         have ce:V _:=(ho.o o xaa).imp (λc=>c) (λc=>c.1)
         have f5:V ((y.2.take (s+1)).getD o 0=y.2.getD o 0):=mS xaa
         clear cH d0 ga el
         by_cases aq:y.2.getD o 0=-1
         ·rw[aq]at e9
          have R3:V (∃aa a2 cap,LG w _ _ A _ _ _ _ _ _ _ _ (ki _ _ i _ _).1 ((ki _ _ i _ _).2.take _) _ _ aa a2 cap):=⟨_,_,_,by
           have h:=ae.o.set o r
           rw[gq.o]
           unfold mz
           rw[hK aq]
           rw[rl]at h
           exact h⟩
          clear ae aq ce f5
          exact xfw
         ·have e0:V (ki vs act i st (k+1)=(p++[eL 2 (vs.getD o hM).len (y.2.getD o 0) r 0],y.2.set o (p.length:Nat))):=by
           show _=_
           rw[gq.o]
           unfold mz
           rw[hJ aq]
          have he:¬(y.2.getD o 0<0):=by rcases ce.o with c|c;exact absurd c aq;omega
          generalize y.2.getD o 0=q at e9 he e0 f5
          obtain⟨hz,rfl,rfl,_,_⟩:=ae.o.l.read xaa
          clear aq ce gq gp dp
          go_upto_region 27 with fail
          clear e9 hh
          refine fC (ML ae xaa hu xaa gB cF f5.o ?_)
          intro hy aG cap' _ _ _ _ _ _ _ _ _ _ _ _ _ _ aP
          unfold hG
          have hd:(p++[eL 2 (vs.getD o hM).len q r 0]).length=p.length+1:=by simp
          generalize p++[eL 2 _ q r 0]=g3 at aP e0 hd
          have s0:=aP.o.l.g.c0
          have ax:=aP.o.l.g.c1
          have aN:=aP.o.l.g.c2
          have aK:V _:=λW=>je W N (some ⟨aG,0,none⟩) ab Y d1 _ cap' Z d3 (show g3.length<=1000000 by omega)
          rw[show(g3.length:Int)-1=(p.length:Nat) by omega]at aK
          clear ae hd f5 he
          go_wp2_with fail
          refine yai (aK.o _) ?_
          rintro e hE ⟨rfl,hg⟩
          have cq:V _:=aP.o.keep hg
          have e9:=IR.cell cq.o.m o (hW gB)
          have hh:=IR.free cq.o.m o
          generalize (y.2.take _).getD o 0=hF at e9
          have R3:V (∃aa a2 cap,LG w _ _ A _ _ _ _ _ _ _ _ (ki _ _ i _ _).1 ((ki _ _ i _ _).2.take _) _ _ aa a2 cap):=⟨_,_,_,by
           have h:=cq.o.set o ((p.length:Nat):Int)
           rw[e0.o]
           rw[rl]at h
           exact h⟩
          clear aP cq aK s0 ax aN hg
          exact xfw
     ·have bY:¬(k<(cnt v.op:Int)):=xaa
      have ee:k=cnt v.op:=xaa
      have R2:V (∃aa a2 cap,LG w _ _ A _ _ _ _ _ _ _ _ (gdn _ _ s _).1 ((gdn _ _ s _).2.take _) _ _ aa a2 cap):=⟨_,_,_,by rw[g5.o ee];exact aw.o⟩
      clear ee aw ct
      exact xfg
   have hr:¬((x:Int)<i):=xaa
   have ed:j=s-x:=xaa
   subst ed
   have am:=IR.cell ak.m x (by rw[List.length_take,bB.l];omega)
   rw[mS xaa]at am
   have gb:=bB.i x au
   have hw:=bB.z.1
   have hv:(gdn vs act s (s-x)).1.length<=800000:=xaa
   have e5:0<(gdn vs act s (s-x)).1.length:=by
    obtain⟨r,e⟩:=bB.p
    rw[e,yak,al.o]
    omega
   have e1:V (grM vs s x=if (gdn vs act s (s-x)).2.getD x 0=-1 then ((gdn vs act s (s-x)).1++[eL 1 cu 0 0 0],(((gdn vs act s (s-x)).1.length:Nat):Int))else ((gdn vs act s (s-x)).1,(gdn vs act s (s-x)).2.getD x 0)):=by
    show _=_
    rw[a5.o,<-gr.o]
    rfl
   obtain⟨bu,rfl,rfl,_,_⟩:=ak.l.read e5
   have HL:V _:=ak.l
   have hk:V (ar≠w.heap.size+1/\ar≠w.heap.size):=⟨hR ak.fm.p,hR ak.fm.p⟩
   have ci:(x:Int)<s+1:=xaa
   generalize (gdn _ _ s _).2.getD x 0=mm at am gb e1
   clear bB ak hw a5
   generalize (gdn _ _ s _).1=us at HL e1 hv e5
   have s0:=HL.o.g.c0
   have ax:=HL.o.g.c1
   have aN:=HL.o.g.c2
   obtain⟨_,bj,aQ,a6,bL,bI,bJ⟩:=HL.o.b
   by_cases aq:mm=-1
   ·subst aq
    have cw:V (grM vs s x=(us++[eL 1 cu 0 0 0],(us.length:Int))):=by
     show _=_
     rw[e1.o,hK rfl]
    clear e1 gb bj aQ a6 bL bI bJ
    go_upto_region 30 with fail
    clear am
    go_cut [] (λbo=>∃aG cap',V (LK w bo N Y d1 ab Z d3 ins outs (us++[eL 1 cu 0 0 0]) base (some aG) (some ⟨aG,0,none⟩) cap'))
    case first=>
     go_region_with (first
      |(go_at_call 32;refine yai (LK.call HL.o ((eF _).trans an) _ xaa) ?_;rintro e af ⟨aG,cap',rfl,⟨_,bn⟩,⟨_,aC⟩,⟨_,a0⟩,aj,aA⟩;have bq:=aj 0;have br:=aj 1;have bC:=aj 2;have cz:V _:=aA.o.1;clear aj aA)
      |(go_at_call 51;refine yai (oV _ _) ?_;rintro e aB ⟨rfl,an⟩;have bk:=(LK.keep HL.o ((eF _).trans an)).g.c0;have a8:=(LK.keep HL.o ((eF _).trans an)).g.c1;have p2:=(LK.keep HL.o ((eF _).trans an)).g.c2))
     all_goals (go_wp2_with fail;go_meet;exact⟨_,_,cz⟩)
    case rest=>
     obtain⟨aG,cap',aA⟩:=hcut
     have cf:(us++[eL 1 cu 0 0 0]).length=us.length+1:=by simp
     generalize aJ:us++[eL 1 _ 0 0 0]=p at aA cw cf
     clear s0 ax aN aJ HL
     have s0:=aA.o.g.c0
     have ax:=aA.o.g.c1
     have aN:=aA.o.g.c2
     obtain⟨_,bj,aQ,a6,bL,bI,bJ⟩:=aA.o.b
     have aK:V _:=λW=>je W N (some ⟨aG,0,none⟩) ab Y d1 _ cap' Z d3 (show p.length<=1000000 by have:=cf;omega)
     rw[show(p.length:Int)-1=(us.length:Nat) by omega]at aK
     clear cf
     go_wp2_with fail
     go_region_with (first
      |(go_at_call 35;refine yai (aK.o _) ?_;rintro e aX ⟨rfl,aM⟩;clear bj aQ a6 bL bI bJ;have ba:=(aA.o.keep ((eF _).trans aM)).g.c0;have aO:=(aA.o.keep ((eF _).trans aM)).g.c1;have aR:=(aA.o.keep ((eF _).trans aM)).g.c2;obtain⟨_,bj,aQ,a6,bL,bI,bJ⟩:=(aA.o.keep ((eF _).trans aM)).b))
     all_goals
      have eg:V _:=aA.o.a4
      have R1:V _:=aA.o.fin ((eF _).trans aM)
      obtain⟨bh,aU,aY⟩:=fj _ _ _ _ _ bj aQ a6 (.slice N Y d1) (hH aG p.length cap') (.slice ab Z d3)
      go_wp2_with fail
      refine yay (v:=.tuple #[eZ N Y d1 (some ⟨aG,0,none⟩) p.length cap' ab Z d3,hI us.length]) (by simp[results,results139,go_sem,bh,aU,aY]) rfl ⟨?_,R1.o.2⟩
      rw[cw.o]
      exact⟨_,_,_,_,_,_,rfl,R1.o.1.1,R1.o.1.2.1,R1.o.1.2.2,eg.o⟩
   have cw:V (grM vs s x=(us,mm)):=by
    show _=_
    rw[e1.o,hJ aq]
   have hB:¬(mm<0):=by rcases gb with c|c;exact absurd c aq;omega
   obtain⟨bh,aU,aY⟩:=fj _ _ _ _ _ bj aQ a6 (.slice N Y d1) (hH bu us.length fq) (.slice ab Z d3)
   have gw:w.heap.size≠w.heap.size+1:=xaa
   have fu:=hk.o.1
   have hq:=Ne.symm fu
   have cJ:V (∀X cy cb:Value,(((wr.setCell _ X).setCell _ cy).setCell _ cb).drew.cell? _=some _):=λX cy cb=>(mb _ _ _ _ X cy cb fu).trans am
   exact qgu):Zp:=h
theorem u.qgv(h:Zp:=by
 clear e1 gb aq;go_upto_region 32 with fail;go_region_held3 (λW:World=>W.cell? ⟨w.heap.size,0,none⟩=some (.slice N Y d1)/\W.cell? ⟨w.heap.size,1,none⟩=some (hH bu us.length fq)/\W.cell? ⟨w.heap.size,2,none⟩=some (.slice ab Z d3)/\W.cell? ⟨ar,x,none⟩=some (hI mm)) (first|go_keep|(exact⟨(cV.o _ _ _ _).trans s0,(cV.o _ _ _ _).trans ax,(cV.o _ _ _ _).trans aN,cJ.o _ _ _⟩)) (fail)
 all_goals
  go_wp2_with fail
  refine yay (v:=.tuple #[eZ N Y d1 (some ⟨bu,0,none⟩) us.length fq ab Z d3,hI mm]) (by simp[results,results139,go_sem,bh,aU,aY]) rfl ⟨?_,R1.o.2⟩
  rw[cw.o]
  exact⟨_,_,_,_,_,_,rfl,R1.o.1.1,R1.o.1.2.1,R1.o.1.2.2,eg.o⟩):Zp:=h
open u in
theorem Ae(w bc bd ag Y c1 U c2 Z c3 s x ins vs outs)(f:GS w bc Y (some ⟨ag,0,none⟩) U bd Z ins vs outs)(cW:VA w ag U vs)(bP:Y<=1000000)(b8:U<=2000)(cx:Z<=1000000)(P:(List.range U).all (okV ins vs)=true)(cD:fe vs<=50000)(ad:s<U)(au:x<U)(G:(jC vs x (s-x)).getD s false=true):
  Calls prog 139 #[eZ bc Y c1 (some ⟨ag,0,none⟩) U c2 bd Z c3,hI s,hI x] w λe J=>uY w J Y Z ins outs (grM vs s x) e/\Kept 0 0 w J:=by
 have a5:V (grM vs s x=MH vs x (gdn vs (jC vs x (s-x)) s (s-x))):=by
  show _=_;unfold grM Fm;rw[hK G,tA _ _ _ _ _ yad]
 have gP:¬s<x:=λc=>by
  rw[show s-x=0 by omega,jC,sF xaa,yah,List.getElem?_replicate]at G
  split at G<;>simp at G
 exact qdx
def P8 (p:Nat)(r:Rs (LSt×Nat)):Rs (LSt×Nat):=match r with
 |.error f=>.error f
 |.ok (s3,j)=>fZ s3 (eL 9 1 (j:Int) 0 0) p
theorem bC.qbq(h:Zp:=by
 have cd:V _:=aI.o.keepC bp.chg aP.o;obtain⟨bu,cv,a9,b7,aV⟩:=aM.lenc G;have bD:=cd.o.c0;have a8:=aM.c1;rw[a9]at a8;have S:V _:=FtI.lit aM bp a;have aW:V (gm _ _ (es.take 1)=some (.ok (ax,[a]))):=HO.o _ a rfl;have aL:V _:=w;have eb:V (∀i∈[a],i<ax.vs.length):=by intro i hi;simp at hi;subst hi;exact G
 have bF:=w.g.n;clear a5 av HE HO bp aM a9 b7 w bb s0;generalize fg _ a=l at aV;generalize R:ax.vs.length=bQ at aV a8 G bF;clear R;go_upto_region 34 with fail;clear aV a8 bD cd;go_wp2_with fail;go_loopw [18,19] (λdd cn W'=>∃(k:Nat) (s:LSt) (xs:List Nat),1<=k/\k<=2/\cn=hI k/\xs.length=k/\V (gm (λs e=>eP f s u e) st (es.take k)=some (.ok (s,xs)))/\V (FtI aD W' P I am al ar X bs s dd xs)/\V (Gw st s)/\V (∀i∈xs,i<s.vs.length)) (λ_ cn _=>2-(intOf cn).toNat)
 case atStart=>exact⟨1,_,_,yad,by decide,rfl,rfl,aW,S,aL,eb⟩
 case round=>
  obtain⟨k,s,xs,er,b4,rfl,(az:V _),bT,bG,v,O⟩:=hrel;clear aW S aL eb;by_cases aF:k<2
  ·obtain⟨aZ,be,bz,bE,aC,an,bO⟩:=bG.o.ex;have b2:Mv _ _ _ _:=⟨an.chg,λb hb=>an.new b (.inl hb)⟩
   obtain⟨ds,cV,cX,c6⟩:=mF _ _ _ aa bV.o k (hU aA.o aF) s _ bT.o;obtain⟨o,Y,c1,y,c8⟩:=af.o.call k (hU aA.o aF);obtain⟨cy,cW⟩:=c8 s _ _ _ _ _ _ v.o cV aC ((Mv.of HK.o).trans b2);rw[<-af.o.cell ((Mv.of HK.o).trans b2).chg k]at y;have cP:V _:=cX;have cU:V _:=c6;have cQ:V _:=cy;have cp:V _:=cW;have aR:V _:=an;have ct:V _:=bO;have cS:V _:=(Mv.of HK.o).trans b2;clear cV cX c6 cy cW c8 aC an bO b2;rcases ds with⟨c,p⟩|⟨aN,a2⟩
   ·exact xcv
   exact qhu
  obtain rfl:k=2:=xaa
  have cF:V (aa=.ok (s,xs)):=by
   exact xgd
  obtain⟨cM,ej,aZ,be,bz,bE,rfl,aC,(aR:V _),bq⟩:=bG.o.xs;have ab:V _:=zZ aC v.o.g _ _ ej _ bq (by rw[az.o];decide) O.o K;have cD:V _:=aI.o.keepC aR.o.chg aP.o;have aJ:V (r=mG [100,111,116] ⟨[100,111,116],K,z⟩ s xs):=by show _=_;rw[HR.o,cF.o];rfl
  have cf:V _:=λbC U (aw:ko s _ K=.ok (bC,U))=>lL v.o.g _ _ O.o aw;exact qgh):Zp:=h
theorem bC.qdz(h:Zp:=by
 have cw:¬Mst P _ _ _ _ _:=λc=>(cq.o.new _ c).elim aP.o (λc=>hR aI.o.lt);have cH:V _:=(Mv.of HK.o).trans cq.o;have ad:V (∀W',Kept 0 0 _ W'->W'.cell? _=some _/\W'.cell? _=some _/\W'.cell? _=some _/\W'.cell? _=some _/\W'.cell? ⟨_,of,_⟩=some (.int _ j)/\W'.cell? _=some (.int _ n)):=λW' ap=>⟨(aB.o.keep ap).c0,(aB.o.keep ap).c1,(bv.keep ap).c1,(ap.cell b7 xaa).trans aV,(ap.cell ao xaa).trans (ch 0 xac),(ap.cell ao xaa).trans (ch 1 xac)⟩
 exact qgb):Zp:=h
theorem bC.qgc(h:Zp:=by
 obtain⟨bw,a1,a2,a3,a4,bU⟩:=ad.o _ hQ;exact qhk):Zp:=h
theorem bC.qgi(h:Zp:=by
 rcases q with⟨c,p⟩|⟨bC,U⟩
 ·exact xde
 obtain⟨ae,aT,nn,ah⟩:=cf.o _ _ rfl;rw[az.o]at aT
 obtain⟨j,n,rfl⟩:∃j n,U=[j,n]:=by
  match U,aT with
  |[a,b],_=>exact⟨a,b,rfl⟩
 have aj:=(ah j xac).1;have eu:=ah n xac;have bN:=jX aj;have bP:=jX eu.1;rw[eu.2,<-(ah j xac).2]at bP;have eC:V _:=ae.g.v.two (.inr (.inr (.inl rfl))) bN bP;clear eu bN bP
 have aH:V (r=P8 K (fZ bC (eL 4 (fg bC j) j n 0) K)):=by
  show _=_;rw[aJ.o];unfold mG;rw[<-ce.o];rfl
 exact qdy):Zp:=h
theorem bC.qgx(h:Zp:=by
 change Code.wp _ _ _ _ (W.alloc (.cells _ 84));generalize W.alloc _=aD at aI HK⊢;generalize W.heap.size=bL at aI aP⊢;obtain⟨bn,cK,ec,ee⟩:=mF _ _ _ aa bV.o 0 (by rw[aA.o];decide) _ _ rfl;obtain⟨o,b5,c0,s0,bH⟩:=af.o.call 0 (by rw[aA.o];decide);obtain⟨ed,c9⟩:=bH _ _ _ _ _ _ _ (Gw.refl cA.o) cK (bx.o.keep HK.o) (Mv.of HK.o);rw[<-af.o.cell (Mv.of HK.o).chg 0]at s0;have HE:V _:=ec;have HO:V _:=ee;have a5:V _:=ed;have av:V _:=c9;have bb:=aI.o.c0;clear cK ec ee ed c9 bH;rcases bn with⟨c,p⟩|⟨ax,a⟩
 ·exact xdm
 obtain⟨w,G⟩:=a5.o _ a rfl;exact qbp):Zp:=h
theorem bC.qhl(h:Zp:=by
 have a7:V _:=λau ew (aK:fZ _ _ K=.ok (au,ew))=>oE dg.o eC.o aK;have bM:V (∀W',Kept 0 0 _ _->Calls _ _ _ _ λe aG=>(∃x:Int,e=.returned _)/\V (TrO _ P I _ _ _ _ _ _ e _)/\aG.cell? _=some _/\aG.cell? _=some _/\aG.cell? _=some _):=λW' ap=>yai (mo (ea.o.keep ap) dg.o (eL 4 (fg bC _) j n 0) ef yag K) (λe aG t=>⟨t.ret,TrO.back ap t,dv.o W' _ ap t.chg⟩);clear dv dg ea ef ae HK bx aP bw a1 a2 a3 a4 bU;generalize fZ bC _ _=ep at aH a7 bM;generalize fg bC _=l at ad bM cN⊢;generalize bC.vs.length=bQ at*;generalize bm.drewN _=bA at ai cN⊢;obtain⟨bw,a1,a2,a3,a4,bU⟩:=cN.o;go_upto_region 50 with fail;rcases ep with⟨c,p⟩|⟨au,ew⟩
 ·have ei:V (r=.error _):=aH.o
  go_region_held3 (λJ=>J.cell? ⟨bL,1,none⟩=some (hI K)/\J.cell? ⟨aS,of,none⟩=some (hI (j:Nat))/\J.cell? ⟨aS,of+1,none⟩=some (hI (n:Nat))) (go_keep)
   (first
    |(go_at_call 34;refine yai (gQ _ _ _ _ _ _) ?_;rintro e ck ⟨rfl,b6⟩;obtain⟨bj,aQ,a6,bK,b1,bY⟩:=ad.o _ (ai.o.trans ((eF _).trans b6)))
    |(go_at_call 96;refine yai (bM.o _ (ai.o.trans ((eF _).trans b6))) ?_;rintro e cc ⟨⟨_,_⟩,bi,br,cg,ek⟩;obtain rfl:=bi.o.1))
  all_goals (
   go_wp2_with fail
   go_ret
   rw[ei.o]
   exact TrO.after cH.o ⟨rfl,bi.o.2⟩)
 obtain⟨ex,e2,_⟩:=a7.o _ _ rfl;have ei:V (r=fZ _ _ _):=aH.o;have e3:¬((ew:Int)<0):=xaa;have e1:=ex.g.n;have d0:V _:=ex.g;clear a7 aH ex
 go_region_held3 (λJ=>J.cell? ⟨bL,1,none⟩=some (hI K)/\J.cell? ⟨aS,of,none⟩=some (hI (j:Nat))/\J.cell? ⟨aS,of+1,none⟩=some (hI (n:Nat))) (go_keep)
  (first
   |(go_at_call 34;refine yai (gQ _ _ _ _ _ _) ?_;rintro e ck ⟨rfl,b6⟩;obtain⟨bj,aQ,a6,bK,b1,bY⟩:=ad.o _ (ai.o.trans ((eF _).trans b6)))
   |(go_at_call 96;refine yai (bM.o _ (ai.o.trans ((eF _).trans b6))) ?_;rintro e cc ⟨⟨_,_⟩,bi,br,cg,ek⟩;obtain rfl:=bi.o.1))
 all_goals (
  obtain⟨_,bI,bJ,cb,ci,eA,et⟩:=bi.o
  have cu:V _:=aB.o.keepC et.chg eg.o
  have eB:¬Mst P _ _ _ _ _:=λc=>(et.new _ c).elim eg.o (λc=>hR aB.o.lt)
  have ey:V _:=cH.o.trans et
  have cI:V (∀W',Kept 0 0 _ _->Calls _ _ _ W' λe aG=>(∃x:Int,e=.returned _)/\V (TrO W P I _ _ _ _ _ r e _)/\aG.cell? _=some _):=λW' ap=>yai (mo (eA.keep ap) d0.o (eL 9 1 _ 0 0) ⟨Int.le_refl _,by show(1:Int)<=1000;decide⟩ yag _) (λe aG t=>⟨t.ret,(by
   show TrO W P I am al ar X bs r e aG
   rw[ei.o]
   exact TrO.after (ey.o.keep ap) t),(t.chg.cell (cu.o.keep ap).lt eB).trans (cu.o.keep ap).c1⟩)
  have N:=cu.o.c1
  clear bi eA et eB bM ad cN ai eg aB cH ey d0 ei
  generalize au.vs.length=eT at*
  go_upto_region 53 with fail
  go_region_held3 (λJ=>J.cell? ⟨bL,1,none⟩=some (hI K)) (go_keep)
   (first
    |(go_at_call 34;refine yai (gQ _ _ _ _ _ _) ?_;rintro e m ⟨rfl,cC⟩;have e5:=(cu.o.keep ((eF _).trans cC)).c1)
    |(go_at_call 96;refine yai (cI.o _ ((eF _).trans cC)) ?_;rintro e bo ⟨⟨cx,rfl⟩,eS,e0⟩))
  all_goals (go_wp2_with fail;go_ret;exact eS.o))):Zp:=h
theorem bC.qhv(h:Zp:=by
 go_upto_region 41 with (go_at_call 93;refine yai cp.o ?_;rintro e bm ⟨rfl,aU,aY,bW,b9,bv,bB⟩);have HFn:V _:=FtI.step aR.o ct.o bG.o.row bv bB;have cO:V (aD.heap.size<=bm.heap.size):=by show _<=_;have:=aR.o.chg.size;have:=bB.chg.size;omega
 have cT:V _:=cR.o.m;have cl:(bm.alloc (.cells #[hI a2] 3)).cell? ⟨bm.heap.size,0,none⟩=some (hI a2):=by rw[yau];rfl
 have bl:=ez 0 0 bm (.cells #[hI a2] 3);have bk:V _:=HFn.o.keep bl;clear HFn bG aR ct cS cQ cp cP cU y bv bB v O bT bX;go_wp2_with (first|(at_builtin;refine jN _ rfl _ _ rfl _ _ _ rfl bk.o.row _ _ rfl cl ?c2 ?c3 ?_)|fail)
 case c2=>have:=az.o;omega
 case c3=>have:=cO.o;simp;omega
 intro g9 cap9 n9 bo bS bZ ag cj;have R1:V _:=FtI.app (bx.o.keep HK.o) cT.o bk.o bZ ag (cj.imp id (λe=>by rw[e];simp));exact xdp):Zp:=h
theorem bC.qhz(h:Zp:=by
 obtain⟨r,ay⟩:∃r,r=r9 [100,111,116] ⟨[100,111,116],K,z⟩ aa:=⟨_,rfl⟩
 exact qgw):Zp:=h
open bC in
theorem Et{f W P I am al ar X bs st bh Q cL u g b0 bR}(h:WS W P I am al ar X bs st)(H:Gd st)(K z){es}(cG:es.length=2)(bf:ArgS f W P I am al ar X bs st bh Q cL u g b0 es)(aa)(C:gm (λs e=>eP f s u e) st es=some aa):
  Calls prog 128 #[hG P,.slice bh Q cL,jb ⟨[100,111,116],K,z⟩,hH b0 2 bR] W (TrO W P I am al ar X bs (r9 [100,111,116] ⟨[100,111,116],K,z⟩ aa)):=by
 have aI:V _:=it W [100,111,116] K z;have HK:V _:=ez 0 0 W (.cells #[eN [100,111,116],hI K,eN z] 84);exact qhy
end
section
variable {W':World}{P I:Nat}{am al ar X o:Value}{st:LSt}{bs:List Bc}{ba:Loc}
section
variable {f:Nat}{W:World}{P I:Nat}{am al ar X:Value}{bs:List Bc}{st:LSt}{bh:Option Addr}{Q cL:Nat}{u:Loc}{g off m cap:Nat}{ts us F:List Tok}{a b d:Ex}{r:Rs (LSt×Nat)}
theorem cR.qcz(h:Zp:=by
 have U:=AX y ai Z
 have aJ:ts++c::us=((k::l::(ts++c::(us++[q]))).drop 2).take (m-1-2):=by
  rw[List.drop_succ_cons,List.drop_succ_cons,List.drop_zero,show ts++c::(us++[q])=(ts++c::us)++[q] by simp,List.take_append_of_le_length yaf,yao yaf]
 have aQ:∀x:List UInt8,x≠AV->x≠JL->(k.sym==x)=false:=λx B R=>by
  rw[beq_eq_false_iff_ne]
  rintro rfl
  exact O.elim B R
 refine ll H (Pr.key2 O ah G ai hb aq) (aQ _ xab xab) (aQ _ xab xab) (aQ _ xab xab) (aQ _ xab xab) (aQ _ xab xab) xaa (ts++c::us) aJ (by rw[pe (X:=[ts]) (y:=us) xac U _ yaf];exact bT) _ (λW' aW cc ap aT=>?_);rw[U]at aT⊢;obtain⟨b0,rfl,cu,aw,aA⟩:=aT.at_ xac
 have bf:ArgS f W' P I am al ar X bs st bh Q cL u g b0 [a,b]:=ArgS.of aj cL H ap cu aw aA rfl (λi hi=>by
   match i,hi with
   |0,_=>exact G
   |1,_=>exact hb) (λi hi=>by
   match i,hi with
   |0,_=>show ts.length<=m;omega
   |1,_=>show us.length<=m;omega) (λi hi=>by
   match i,hi with
   |0,_=>intro t ht;have j:t∈ts:=ht;simp[j]
   |1,_=>intro t ht;have j:t∈us:=ht;simp[j])
 obtain⟨ay,K,z⟩:=k;rcases O with O|O
 ·simp only at O;subst O;exact Em (H.ws.keep ap) H.gd K z rfl bf aa C
 simp only at O;subst O;exact Et (H.ws.keep ap) H.gd K z rfl bf aa C):Zp:=h
open cR in
theorem Eu{k l c q}(aj:TrC f)(H:TrIn W P I am al ar X bs st bh Q u g off m cap (k::l::(ts++c::(us++[q]))))(O:k.sym=AV\/k.sym=JL)(ah:l.sym=[40])(G:Pr 2 [a] ts)(ai:c.sym=[44])(hb:Pr 2 [b] us)(aq:q.sym=[41])(h:eP (f+1) st u (.key2 k a b)=some r):
  Calls prog 93 #[hG P,.slice bh Q cL,.slice (some ⟨g,off,none⟩) m cap] W (TrO W P I am al ar X bs r):=by
 have cr:k.sym≠ze:=by rcases O with e|e<;>(rw[e];decide)
 obtain⟨aa,C,rfl⟩:=Ek cr h;exact qcy
theorem Ev{k l c c2 q}(aj:TrC f)(H:TrIn W P I am al ar X bs st bh Q u g off m cap (k::l::(ts++c::(us++c2::(F++[q])))))(O:k.sym=ze)(ah:l.sym=[40])(G:Pr 2 [a] ts)(ai:c.sym=[44])(hb:Pr 2 [b] us)(Y:c2.sym=[44])(aV:Pr 2 [d] F)(aq:q.sym=[41])(h:eP (f+1) st u (.key3 k a b d)=some r):
  Calls prog 93 #[hG P,.slice bh Q cL,.slice (some ⟨g,off,none⟩) m cap] W (TrO W P I am al ar X bs r):=by
 obtain⟨aa,C,rfl⟩:=El O h;have az:=H.tk.len;simp only[yap,yak,List.length_nil]at az;have aK:=jg G;have N:=jg hb;have e:=jg aV;have bT:F≠[]:=λc=>by rw[c]at e;simp at e
 have y:=jS G yad;have Z:=jS hb yad;have n:=jS aV yad;have bC:=H.mc;have U:=AY y ai Z Y n
 have aJ:ts++c::(us++c2::F)=((k::l::(ts++c::(us++c2::(F++[q])))).drop 2).take (m-1-2):=by
  rw[List.drop_succ_cons,List.drop_succ_cons,List.drop_zero,show ts++c::(us++c2::(F++[q]))=(ts++c::(us++c2::F))++[q] by simp,List.take_append_of_le_length yaf,yao yaf]
 have aQ:∀x:List UInt8,x≠ze->(k.sym==x)=false:=λx B=>by
  rw[beq_eq_false_iff_ne]
  rintro rfl
  exact B O
 refine ll H (Pr.key3 O ah G ai hb Y aV aq) (aQ _ xab) (aQ _ xab) (aQ _ xab) (aQ _ xab) (aQ _ xab) xaa (ts++c::(us++c2::F)) aJ (by rw[pe (X:=[ts,us]) (y:=F) xac U _ yaf];exact bT) _ (λW' aW cc ap aT=>?_);rw[U]at aT⊢;obtain⟨b0,rfl,cu,aw,aA⟩:=aT.at_ xac
 have bf:ArgS f W' P I am al ar X bs st bh Q cL u g b0 [a,b,d]:=ArgS.of aj cL H ap cu aw aA rfl (λi hi=>by
   match i,hi with
   |0,_=>exact G
   |1,_=>exact hb
   |2,_=>exact aV) (λi hi=>by
   match i,hi with
   |0,_=>show ts.length<=m;omega
   |1,_=>show us.length<=m;omega
   |2,_=>show F.length<=m;omega) (λi hi=>by
   match i,hi with
   |0,_=>intro t ht;have j:t∈ts:=ht;simp[j]
   |1,_=>intro t ht;have j:t∈us:=ht;simp[j]
   |2,_=>intro t ht;have j:t∈F:=ht;simp[j])
 obtain⟨ay,K,z⟩:=k;simp only at O;subst O;exact Eo (H.ws.keep ap) H.gd K z rfl bf aa C
end
def lcc (b:List UInt8×Nat):List Value:=[eN b.1,.int .i64 (b.2:Int)]
def lcF:Loc->List Value
 |[]=>[]
 |b::r=>lcc b++lcF r
theorem KV(a b):lcF (a++b)=lcF a++lcF b:=by
 induction a<;>grind [lcF]
theorem KY(b):lcF [b]=lcc b:=by simp[lcF]
theorem H8:∀(a:Loc) (k j:Nat),k<a.length->j<2->(lcF a)[k*2+j]? =(lcc (a.getD k ([],0)))[j]?
 |x::r,0,j,_,hj=>by
  grind [lcF,lcc]
 |x::r,k+1,j,O,hj=>by
  have au:(lcc x).length=2:=rfl
  rw[lcF,yar xaa,au,show(k+1)*2+j-2=k*2+j by omega]
  exact H8 r k j (by grind) hj
theorem N4:(prog.info? 168).map (λi=>(i.zero,i.size,i.bytes))=some (some (.agg #[.string ⟨#[]⟩,hI 0]),2,24):=by kernel_rfl
theorem yi:∃bK,prog.info? 168=some bK/\bK.zero=some (.agg #[.string ⟨#[]⟩,hI 0])/\bK.size=2/\bK.bytes=24:=by
 have h:=N4;simp_all
theorem KZ(w:World)(x v T):∀j u,(lcc (x,v))[j]? =some u->(w.alloc (.cells #[eN x,hI v] T)).cell? ((⟨w.heap.size,0,none⟩:Addr).add j)=some u:=by
 intro j u h;rw[kj,Nat.zero_add,yau];match j,h with
 |0,h=>exact h
 |1,h=>exact h
theorem uo(w){bA rest o a Q}(H:o.guard=none)(s x)
  (av:o.op=.call {callee:=.builtin .append,args:=#[s,x],argTypes:=#[152,152]})
  (I) (v) (ba:Loc) (ad:a.eval s=v) (aT:w.ownsRow I 168 2 v ba.length (lcF ba))
  (aw) (k) (au:a.eval x=.slice (some aw) 1 1) (f:∀j u,(lcc k)[j]? =some u->w.cell? (aw.add j)=some u)
  (l:ba.length+1<=1000000) (ae:I<=w.heap.size)
  (h:∀g cap n J,n=(ba++[k]).length->J.ownsRow I 168 2 (hH g n cap) (ba.length+1) (lcF ba++lcc k)->Chg (λb=>v.ownBlock=some b) w J->(v.ownBlock=some g\/g=w.heap.size)->wpList prog bA Q rest (a.put o.dst (hH g n cap)) J):wpList prog bA Q (o::rest) a w:=by
 obtain⟨bK,hi,bU,bO,bR⟩:=yi;refine wpList_append_lies w H s x _ av I 168 _ _ 2 _ underlying152 hi bU bO bR rfl xab v _ _ ad aT _ 1 1 _ au rfl f ?_ xab (by unfold maxLen;omega) xaa ae _ rfl ?_
 ·intro u aJ;simp[lcc]at aJ;rcases aJ with rfl|rfl<;>rfl
 intro g cap J B R h3 _;have e:ba.length+1=(ba++[k]).length:=by grind
 rw[e]at B⊢;refine h g _ _ _ rfl ?_ (i7 R) h3;grind
structure LvI (W W':World)(P B:Nat)(u1 u2 u3 u4:Value)(bs:List Bc)(st:LSt)(o:Value)(js:Loc):Prop where
 ex:∃v1 v2 v3 v4,WS W' P B v1 v2 v3 v4 bs st/\Mv (Mst P u1 u2 u3 u4) W (λb=>Mst P v1 v2 v3 v4 b\/o.ownBlock=some b) W'/\(∀b,o.ownBlock=some b->¬Mst P v1 v2 v3 v4 b)
 row:W'.ownsRow W.heap.size 168 2 o js.length (lcF js)
theorem LvI.keep{W aG}(h:LvI W W' P I am al ar X bs st o ba)(k:Kept 0 0 W' aG):LvI W aG P I am al ar X bs st o ba:=by
 exact xiy
theorem LvI.step{W aD aT bc bd bg Z aZ be bz bE s}(C:Mv (Mst P am al ar X) W (λb=>Mst P bc bd bg Z b\/o.ownBlock=some b) aD)(av:∀b,o.ownBlock=some b->¬Mst P bc bd bg Z b)(ad:aD.ownsRow W.heap.size 168 2 o ba.length (lcF ba))(aM:WS aT P I aZ be bz bE bs s)(bp:Mv (Mst P bc bd bg Z) aD (Mst P aZ be bz bE) aT):LvI W aT P I am al ar X bs s o ba:=by
 exact xdn
theorem aX.qbk(h:Zp:=by
 refine⟨⟨bc,bd,bg,Z,B.side ap (λb hb c=>h3 b c hb) (λi hi=>?_),aP,λb hb c=>?_⟩,?_⟩
 ·exact xjf
 ·rw[ab]at hb;subst hb;exact f c
 rw[yak,KV,KY];exact C):Zp:=h
open aX in
theorem LvI.app{W bo g}(aj:WS W P I am al ar X bs g)(ag:st.names=g.names)(h:LvI W W' P I am al ar X bs st o ba){g9 n9 cap9 x}(C:bo.ownsRow W.heap.size 168 2 (hH g9 n9 cap9) (ba.length+1) (lcF ba++lcc x))(ap:Chg (λb=>o.ownBlock=some b) W' bo)(bq:o.ownBlock=some g9\/g9=W'.heap.size):LvI W bo P I am al ar X bs st (hH g9 n9 cap9) (ba++[x]):=by
 exact qbj
theorem LvI.nil{W}(h:WS W' P I am al ar X bs st)(k:Mv (Mst P am al ar X) W (Mst P am al ar X) W'):LvI W W' P I am al ar X bs st (.slice none 0 0) []:=
 ⟨⟨am,al,ar,X,h,⟨k.chg,λb hb=>.inl (hb.elim id (λc=>by simp[Value.ownBlock]at c))⟩,λb hb=>by simp[Value.ownBlock]at hb⟩,yav _ _ _ _⟩
theorem pi{w:World}{n}{e s:Nat}{v xs}(f:w.ownsRow I e s v n xs):∃a c,v=.slice a n c:=by
 rcases f.2 with⟨e,c⟩|⟨g,cap,H,e,_⟩<;>grind
theorem LvI.lc{W s}(h:LvI W W' P I am al ar X bs s o ba):∃a c bc bd bg Z,o=.slice a ba.length c/\WS W' P I bc bd bg Z bs s/\Mv (Mst P am al ar X) W (Mst P bc bd bg Z) W'/\LcR (Mst P bc bd bg Z) W' a ba.length ba:=by
 obtain⟨bc,bd,bg,Z,aC,an,bO⟩:=h.ex;obtain⟨cd,cD,av⟩:=pi h.row;refine⟨_,_,_,_,_,_,av,aC,⟨an.chg,λb hb=>an.new b (.inl hb)⟩,⟨rfl,λbB=>?_⟩⟩;have ad:=h.row;rcases ad.2 with⟨_,c⟩|⟨g,c,H,e,N,aA,ab,_,b9,cn⟩
 ·omega
 rw[av]at e;cases e;have aW:g<W'.heap.size:=by grind
 have aw:∀k j,k<ba.length->j<2->W'.cell? _=(lcc _)[j]?:=λk j O hj=>by
  rw[cell_of_row _ g _ _ _ _ aA,<-Array.getElem?_toList]
  have:(H.toList.take (ba.length*2))[k*2+j]? =(lcF ba)[k*2+j]?:=by rw[cn]
  rw[List.getElem?_take_of_lt xaa]at this
  rw[this]
  exact H8 _ k j O hj
 refine⟨g,0,rfl,bO g (by rw[av];simp[Value.ownBlock]),aW,λk O=>⟨?_,?_⟩⟩
 ·rw[Nat.zero_add];exact aw k 0 O xaa
 rw[Nat.zero_add];exact aw k 1 O xaa
theorem WS.more{W}(h:WS W P I am al ar X bs st):WS (W.setCell ⟨P,4,none⟩ (hI ((st.calls:Int)+1))) P I am al ar X bs {st with calls:=st.calls+1}/\Mv (Mst P am al ar X) W (Mst P am al ar X) (W.setCell ⟨P,4,none⟩ (hI ((st.calls:Int)+1))):=by
 have K:=eX (lo:=P) (hi:=P+1) W ⟨P,4,none⟩ (hI (st.calls+1)) yac;have aP:Mv _ W (Mst P am al ar X) _:=⟨K.chg1 (.inl rfl),λb hb=>.inl hb⟩
 have es:∀o,o≠4->(W.setCell ⟨P,4,_⟩ (hI (st.calls+1))).cell? ⟨P,o,_⟩=W.cell? _:=λo aj=>eO _ _ _ _ _ _ (.inr (λe=>aj e.symm));obtain⟨Y,U,Z,l⟩:=h.np;exact⟨⟨by simpa using h.lt,λo=>by simp[h.fr o],(es 0 xab).trans h.c0,(es 1 xab).trans h.c1,(es 2 xab).trans h.c2,(es 3 xab).trans h.c3,fJ _ _ _ _ _ h.c4,(es 5 xab).trans h.c5,(es 6 xab).trans h.c6,eJ h.r1 Y,eJ h.r2 U,eJ h.r3 Z,eJ h.r4 l,h.np,h.ap,h.nl,λi hi=>(h.nb i hi).mv aP,h.sz⟩,aP⟩
def H9 (p:Nat)(R:Rs (LSt×List Nat))(rb:Rs (LSt×Nat)):Rs (LSt×Nat):=match R with
 |.error f=>.error f
 |.ok (s1,_)=>if 500<=s1.calls then .error (5,p)else rb
theorem Bo{f u t es r}(h:eP (f+1) st u (.call t es)=some r):
  (((∀aQ aS b,i9 st.names t.text≠some (.fn aQ aS b))\/∃aQ aS b,i9 st.names t.text=some (.fn aQ aS b)/\aS.length≠es.length)/\r=.error (3,t.pos))\/
  ∃aQ aS b aa K,i9 st.names t.text=some (.fn aQ aS b)/\aS.length=es.length/\gm (λs e=>eP f s u e) st es=some aa/\r=H9 t.pos aa K/\∀ax xs,aa=.ok (ax,xs)->¬500<=ax.calls->eP f {ax with calls:=ax.calls+1} ((aS.map (·.text)).zip xs) b=some K:=by
 rw[eP]at h;cases bb:i9 st.names t.text with
 |none=>simp_all
 |some d=>
  rw[bb]at h;cases d with
  |val _ _=>simp_all
  |fn aQ aS ae=>
   simp only at h;by_cases c:aS.length=es.length
   ·rw[hK c]at h;refine .inr ⟨aQ,aS,ae,?_⟩;cases G:gm (λs e=>eP f s u e) st es with
    |none=>grind
    |some q=>
     rw[G]at h;rcases q with q|⟨ax,xs⟩
     ·exact⟨_,.error q,rfl,c,rfl,(hL h).symm,λ_ _ e=>by cases e⟩
     simp only at h;by_cases d:500<=ax.calls
     ·rw[hK d]at h;refine⟨_,.error (5,t.pos),rfl,c,rfl,?_,λaN bd e aV=>?_⟩
      ·show r=if 500<=ax.calls then _ else _;simp_all
      grind
     rw[hJ d]at h;refine⟨_,r,rfl,c,rfl,?_,λaN bd e aV=>?_⟩
     ·show r=if 500<=ax.calls then _ else _;grind
     grind
   grind
end
section
attribute [local go_sem] eG eE eD
variable {P I Q cL g n off m cc cap:Nat}{am al ar X:Value}{bs:List Bc}{st:LSt}{bh aW:Option Addr}{u:Loc}{aQ:List UInt8}{aS ts:List Tok}{e:Ex}
theorem Ia(l:List (List UInt8))(xs)(a:Nat)(h:xs.length<l.length):l.zip (xs++[a])=l.zip xs++[(l.getD xs.length [],a)]:=by
 induction xs generalizing l with
 |nil=>
  cases l with
  |nil=>simp at h
  |cons x r=>simp
 |cons y bd ag=>
  cases l with
  |nil=>simp at h
  |cons x r=>
   simp only[List.cons_append,List.zip_cons_cons,yap,List.getD_cons_succ];rw[ag r (by simpa using h)]
theorem Cs(l:List (List UInt8))(xs:List Nat)(h:xs.length<=l.length):(l.zip xs).length=xs.length:=by
 rw[List.length_zip];omega
theorem cX.qdg(h:Zp:=by
 generalize W.heap.size=bL at aI⊢;have bb:V _:=bx.o.keep HK.o;have c1:=aI.o.c1;have c2:=aI.o.c2;have c3:=bb.o.c3;have aK:V _:=rF bb.o.c3 bb.o.r4 bq bp;have b3:V _:=jK bb.o.c5 bb.o.c6 bb.o.fr 3 aS (Mst P am al ar X) (.inl rfl);have B:V _:=mn bb.o.r4;exact qft):Zp:=h
theorem cX.qfu(h:Zp:=by
 rcases bu with⟨ao,bY,rfl,a9,b8⟩|⟨rfl,hn⟩
 ·have bk:V _:=oD bb.o bY a9 b8;have l:V _:=bb.o.nb _ bY;obtain⟨cg,bR,e4,_,_,_,bV⟩:=B.o xaa;cases e4;obtain⟨_,d1,_,d3,_⟩:=bV _ bY;generalize bF:bs.length=nn at*;generalize bs.getD ao _=b at d1 d3 l;generalize st.names.getD ao _=aA at bk l;have aO:¬((ao:Int)<0):=xaa;cases aA with
  |val aQ v=>
   have w:=l.o.2.1;rw[w]at d1;clear w a9 b8 bV bF l B bH;go_wp2_with (go_at_call 92;refine yai b3.o ?_;rintro e aX ⟨rfl,F⟩);go_ret;rw[HR.o];exact⟨rfl,F.c5,F.c6,(Mv.of HK.o).bad F.chg⟩
  |fn aQ o e=>
   have w:=l.o.2.1;have aV:=l.o.2.2.1.len
   have bT:o.length≠n:=by
    rcases bH.o with c|⟨p,j,ak,ae,c⟩
    ·exact absurd bk.o (c _ _ _)
    rw[bk.o]at ae;cases ae;exact c
   have f:(b.pn==(n:Int))=false:=yaw xaa;rw[w]at d1;clear w a9 b8 bV bF l B bH bT aV;generalize b.pn=q at d3 f;go_wp2_with (go_at_call 92;refine yai b3.o ?_;rintro e aX ⟨rfl,F⟩);go_ret;rw[HR.o];exact⟨rfl,F.c5,F.c6,(Mv.of HK.o).bad F.chg⟩
 clear hn B bH c3;go_wp2_with (go_at_call 92;refine yai b3.o ?_;rintro e aX ⟨rfl,F⟩);exact xgb):Zp:=h
open cX in
theorem Ib{W}(h:WS W P I am al ar X bs st)(H:Gd st)(t)(hb:(∀aQ aS b,i9 st.names t.text≠some (.fn aQ aS b))\/∃aQ aS b,i9 st.names t.text=some (.fn aQ aS b)/\aS.length≠n):
  Calls prog 127 #[hG P,.slice bh Q cL,jb t,.slice aW n cc] W (TrO W P I am al ar X bs (.error (3,t.pos))):=by
 obtain⟨a0,aS,bp⟩:=t;have aI:V _:=it W a0 aS bp;have HK:V _:=ez 0 0 W (.cells #[eN a0,hI aS,eN bp] 84);have bx:V _:=h;have bq:bs.length<=100000:=by rw[h.nl];have:=H.m;omega
 have bH:V _:=hb;obtain⟨r,ay⟩:∃r:Rs (LSt×Nat),r=.error (3,aS):=⟨_,rfl⟩
 simp only at bH⊢;rw[<-ay];have HR:V _:=ay;clear ay h H hb;exact qdf
theorem WS.fnc{W}(h:WS W P I am al ar X bs st){k}(O:k<bs.length)(aV:st.names.getD k (.val [] 0)=.fn aQ aS e):∃cg bR,X=hH cg bs.length bR/\W.cell? ⟨P,3,none⟩=some (hH cg bs.length bR)/\W.cell? ⟨cg,k*5+1,none⟩=some (.bool true)/\W.cell? ⟨cg,k*5+3,none⟩=some (.slice (bs.getD k hO).pa aS.length (bs.getD k hO).pc)/\W.cell? ⟨cg,k*5+4,none⟩=some (.slice (bs.getD k hO).ba (bs.getD k hO).bn (bs.getD k hO).bc)/\TkR (Mst P am al ar X) W (bs.getD k hO).pa aS.length aS/\∃ts,Pr 2 [e] ts/\TsOK ts/\(bs.getD k hO).bn<=(bs.getD k hO).bc/\TkR (Mst P am al ar X) W (bs.getD k hO).ba (bs.getD k hO).bn ts:=by
 obtain⟨cg,bR,e4,_,_,_,bV⟩:=mn h.r4 xaa;have hb:=h.nb k O;rw[aV]at hb;obtain⟨_,aA,ab,ts,aI,⟨b9,cn⟩,cj⟩:=hb;obtain⟨_,d1,_,d3,d4⟩:=bV k O;rw[aA]at d1;rw[<-ab.len]at d3 ab;have c3:=h.c3;grind
theorem cY.qdg(h:Zp:=by
 generalize W.heap.size=bL at aI aP⊢;have bb:V _:=bx.o.keep HK.o;have c2:=aI.o.c2;have aK:V _:=rF bb.o.c3 bb.o.r4 bq bp;have c3:=bb.o.c3;exact qft):Zp:=h
theorem cY.qfu(h:Zp:=by
 clear aK c2;rcases bu with⟨ao,bY,rfl,a9,b8⟩|⟨rfl,hn⟩
 ·have HD:V (st.names.getD ao (.val [] 0)=.fn aQ aS ae):=by
   have:=oD bb.o bY a9 b8;rw[bk.o]at this;exact(hL this).symm
  have HFn:V (∀W' bc bd bg Z s,WS W' P I bc bd bg Z _ s->s.names=st.names->_):=λW' bc bd bg Z s S ad=>S.fnc bY (hU ad HD.o);clear a9 b8 bk;obtain⟨cg,bR,e4,_,d1,d3,_,_⟩:=HFn.o _ _ _ _ _ _ bb.o rfl;cases e4;rw[j.o]at d3;have aO:¬((ao:Int)<0):=xaa;have c9:=bY;generalize bF:bs.length=nn at c3 bY bq;have bw:V _:=LvI.nil bb.o (Mv.refl _ _);go_upto_region 4 with fail;clear d1 d3 c3;go_wp2_with fail;go_loopw [10,11] (λaL cn W'=>∃(k:Nat) (s:LSt) (xs:List Nat),k<=n/\cn=hI k/\xs.length=k/\V (gm (λs e=>eP f s u e) st (es.take k)=some (.ok (s,xs)))/\V (LvI aD W' P I am al ar (hH cg bs.length cb) bs s aL ((aS.map (·.text)).zip xs))/\V (Gw st s)/\V (∀i∈xs,i<s.vs.length)) (λ_ cn _=>n-(intOf cn).toNat)
  case atStart=>exact⟨0,_,_,Nat.zero_le _,rfl,rfl,(show V _ by show _=_;rw[List.take_zero];rfl),(show V _ from(by rw[List.zip_nil_right];exact bw.o)),(show V _ from Gw.refl cA.o),(show V _ from λi hi=>by cases hi)⟩
  case round=>
   obtain⟨k,s,xs,b4,rfl,(az:V _),bT,bG,v,O⟩:=hrel;clear bw;by_cases aF:k<n
   ·obtain⟨aZ,be,bz,bE,aC,an,bO⟩:=bG.o.ex;have b2:Mv _ _ _ _:=⟨an.chg,λb hb=>an.new b (.inl hb)⟩
    obtain⟨b0,bK,a7⟩:=aw.o xaa;obtain⟨ds,cV,cX,c6⟩:=mF _ _ _ aa bV.o k (hU aA.o aF) s _ bT.o;obtain⟨o,Y,c1,y,c8⟩:=a7.call k (hU aA.o aF);obtain⟨cy,cW⟩:=c8 s _ _ _ _ _ _ v.o cV aC ((Mv.of HK.o).trans b2);rw[<-a7.cell ((Mv.of HK.o).trans b2).chg k]at y;subst bK;have cP:V _:=cX;have cU:V _:=c6;have cQ:V _:=cy;have cp:V _:=cW;have aR:V _:=an;have ct:V _:=bO;have cS:V _:=(Mv.of HK.o).trans b2;clear cV cX c6 cy cW c8 aC an bO b2 a7;rcases ds with⟨c,p⟩|⟨aN,a2⟩
    ·exact xcv
    exact qhu
   obtain rfl:k=n:=xaa
   have cF:V (aa=.ok (s,xs)):=by
    have B:=bT.o;rw[yao (by rw[aA.o];exact yad),bV.o]at B;exact hL B
   obtain⟨cx,gw,aZ,be,bz,bE,rfl,aC,an,w⟩:=bG.o.lc
   have bM:((aS.map (·.text)).zip xs).length=k:=by
    rw[Cs _ _ (by rw[az.o,List.length_map,j.o];exact yad),az.o]
   rw[bM]at w⊢;have aR:V _:=an;have cH:V _:=(Mv.of HK.o).trans an;have cD:V _:=aI.o.keepC an.chg aP.o;have l:=aC.c4;by_cases ai:500<=s.calls
   ·have aJ:V (r=.error (5,pos)):=by show _=_;rw[HR.o,cF.o];show(if 500<=s.calls then _ else _)=_;rw[hK ai]
    have b3:V _:=jK aC.c5 aC.c6 aC.fr 5 pos (Mst P aZ be bz bE) (.inl rfl);have N:=cD.o.c1;have R:(500:Int)<=s.calls:=xaa;clear aC an w bG HR cF bT v O bV cA aw;generalize s.calls=aX at l ai R;go_wp2_with (go_at_call 92;refine yai b3.o ?_;rintro e bm ⟨rfl,F⟩);go_ret;rw[aJ.o];exact⟨rfl,F.c5,F.c6,cH.o.bad F.chg⟩
   have aJ:V (r=K):=by show _=_;rw[HR.o,cF.o];show(if 500<=s.calls then _ else _)=_;rw[hJ ai]
   have R:¬(500:Int)<=s.calls:=xaa;obtain⟨bC,bn⟩:=aC.more;have bI:=J.o s _ cF.o ai;have bA:Gw _ {s with calls:=s.calls+1}:=⟨⟨v.o.g.n,v.o.g.c,v.o.g.ok,v.o.g.k,v.o.g.i,v.o.g.o,v.o.g.m⟩,v.o.n,v.o.l,v.o.i,v.o.o,v.o.m⟩
   have bP:=aC.fr 4;obtain⟨ek,bD,_,f3,_,_,q,_,ts,aH,ap,bN,aV⟩:=HFn.o _ _ _ _ _ _ bC v.o.m;have ah:=jg aH;have bf:=aV.len;obtain⟨bH,ab,cf,cu,bj⟩:=aV.at_ xaa;have bQ:=ap.n5;have cw:V _:=aj _ P I _ _ _ _ _ _ _ k gw _ _ _ _ _ _ ⟨bC,bA.g,NmOK.gw cT.o bA,w.mv bn,cC,(λb hb=>O.o _ (List.of_mem_zip (show(b.1,b.2)∈_ from hb)).2),bj,cu,by omega,bN,ap.ti,ap.tn⟩ 2 _ aH yad _ bI;rw[cf]at q
   have bJ:V (Calls _ _ _ _ λe aG=>(∃x:Int,e=.returned _)/\V (TrO W P I _ _ _ _ _ r e _)):=yai cw.o (λe aG t=>⟨t.ret,by
    show TrO W P I am al ar (hH cg bs.length cb) bs r e aG
    rw[aJ.o]
    exact TrO.after (cH.o.trans bn) t⟩)
   clear aC an w bG HR cF bT v O bV cA aw cw bC bn bI bA bj aV ap aH cu J aR cH cD HFn aJ HD cT;rw[bF]at f3;generalize s.calls=aX at*;generalize (bs.getD ao _).bn=cN at*;generalize (bs.getD ao _).bc=cK at*;go_wp2_with (go_at_call 93;refine yai bJ.o ?_;rintro e ck ⟨⟨x,rfl⟩,bi⟩);go_ret;exact bi.o
 exfalso;have:=pd bb.o hn;rw[bk.o]at this;cases this):Zp:=h
theorem cY.qhv(h:Zp:=by
 go_upto_region 11 with (go_at_call 93;refine yai cp.o ?_;rintro e bm ⟨rfl,aU,aY,bW,b9,bv,bB⟩);have co:V _:=LvI.step aR.o ct.o bG.o.row bv bB;have cO:V (aD.heap.size<=bm.heap.size):=by show _<=_;have:=aR.o.chg.size;have:=bB.chg.size;omega
 have a5:V _:=cR.o.m;obtain⟨ek,bD,_,f3,_,q,_,G,_⟩:=HFn.o _ _ _ _ _ _ bv a5.o;rw[j.o]at q G;obtain⟨aM,op,av,_,bj⟩:=G.at_ xaa;have z:=bj.c2 k aF;rw[av]at q
 have a8:V ((aS.map (·.text)).getD xs.length []=(aS.getD k hN).text):=by
  show _=_;rw[az.o,yah,List.getElem?_map,yah,yal (hU j.o aF)];rfl
 have cd:V ((aS.map (·.text)).zip (xs++[a2])=(aS.map (·.text)).zip xs++[((aS.getD k hN).text,a2)]):=by
  show _=_;rw[Ia _ _ _ (by rw[az.o,List.length_map,j.o];exact aF),a8.o]
 have br:V (((aS.map (·.text)).zip xs).length=k):=by
  show _=_;rw[Cs _ _ (by rw[az.o,List.length_map,j.o];omega),az.o]
 generalize (aS.getD k _).text=U at z cd;have cl:=KZ bm U a2 168;have bl:=ez 0 0 bm (.cells #[eN U,hI a2] 168);have au:V _:=co.o.keep bl;clear co bG aR ct cS cQ cp cP cU y bv bB v O bT bX G bj av a8;generalize (aS.map _).zip _=ba at au cd br;rw[bF]at f3;go_wp2_with (first|(at_builtin;refine uo _ rfl _ _ rfl _ _ _ (by rfl) au.o.row _ _ (by rfl) cl ?c2 ?c3 ?_)|fail)
 case c2=>have:=br.o;omega
 case c3=>have:=cO.o;simp;omega
 intro g9 cap9 n9 bo bS bZ ag cj;have R1:V _:=LvI.app bb.o a5.o au.o bZ ag (cj.imp id (λe=>by rw[e];simp));rw[<-cd.o]at R1;clear bZ ag cj bS bl cl f3 q z;go_wp2_with fail;go_roundw
 case rel=>exact⟨k+1,aN,xs++[a2],by omega,by go_num,by rw[yak,az.o];rfl,cr,R1,cR,cJ⟩
 case measure=>simp[intOf];omega):Zp:=h
open cY in
theorem K0{f}(aj:TrC f){W}(h:WS W P I am al ar X bs st)(H:Gd st)(aq:NmOK st)(t){es}(cG:es.length=n)(cC:n<=5000)(aT:0<n->∃b0,aW=some ⟨b0,0,none⟩/\ArgS f W P I am al ar X bs st bh Q cL u g b0 es){ae}(ak:i9 st.names t.text=some (.fn aQ aS ae))(cI:aS.length=n)(aa)(C:gm (λs e=>eP f s u e) st es=some aa)(K)(aB:∀ax xs,aa=.ok (ax,xs)->¬500<=ax.calls->eP f {ax with calls:=ax.calls+1} ((aS.map (·.text)).zip xs) ae=some K):
  Calls prog 127 #[hG P,.slice bh Q cL,jb t,.slice aW n cc] W (TrO W P I am al ar X bs (H9 t.pos aa K)):=by
 obtain⟨a0,pos,bp⟩:=t;have aI:V _:=it W a0 pos bp;have HK:V _:=ez 0 0 W (.cells #[eN a0,hI pos,eN bp] 84);have bx:V _:=h;have aP:V _:=h.far;have cA:V _:=H;have cT:V _:=aq;have aA:V _:=cG;have aw:V _:=aT;have bk:V _:=ak;have j:V _:=cI;have bV:V _:=C;have J:V _:=aB;have bq:bs.length<=100000:=by rw[h.nl];have:=H.m;omega
 obtain⟨r,ay⟩:∃r,r=H9 pos aa K:=⟨_,rfl⟩
 simp only at bk⊢;rw[<-ay];have HR:V _:=ay;clear ay h H aq cG aT ak cI C aB;exact qdf
theorem Q.qaq(h:Zp:=by
 exact qdv):Zp:=h
theorem Q.qdw(h:Zp:=by
 have a7:V _:=f.o aD HK.o;clear c0 c1 c2 z ai f;generalize (f9 us).length=j at a7 i⊢;go_upto_region 29 with (go_at_call 126;refine yai a7.o ?_;rintro e af ⟨aW,cc,rfl,h,ao⟩);have y:V _:=aI.o.keep ao
 have aT:V (SgR af g W.heap.size aW (f9 us)):=⟨λb3=>by
  obtain⟨b0,aO,aR,b2⟩:=h.at_ b3
  exact⟨b0,aO,yan cd.o aR,b2⟩⟩
 have av:V _:=yai (i.o af aW cc (HK.o.trans ao) aT.o) (λe aG t=>(⟨TrO.ret t,TrO.back (HK.o.trans ao) t⟩:(∃x:Int,e=.returned (hI x))/\V (TrO W P I am al ar X bs r e aG)));unfold jb at av;simp only at av;clear bb N aA aI h i a7 aT;have bb:=y.o.c0;have N:=y.o.c1;have aA:=y.o.c2;clear y ao;exact xin):Zp:=h
theorem Q.qeu(h:Zp:=by
 have f:V (∀W',Kept 0 0 W W'->_):=λW' ap=>Ck W' g (off+6) (m-3) (cap-2) us (by
  have t:=(H.tk.keep ap).in_ 2 (m-1) us aJ xaa
  rw[show m-1-2=m-3 by omega]at t
  exact t) xaa xaa xaa bT
 have i:V _:=bl;generalize ts.getD 0 hN=t at*;clear H aK bl bT aJ;exact qgt):Zp:=h
open Q in
theorem Bp{W}(H:TrIn W P I am al ar X bs st bh Q u g off m cap ts)(aK:Pr 0 [e] ts)(aj:(ts.getD 0 hN).sym=[110,97,109,101])(R:4<=m)(us)(aJ:us=(ts.drop 2).take (m-1-2))(bT:(spQ us (m-3)).cur≠[])(r)
  (bl:∀W' aW cc,Kept 0 0 W W'->SgR W' g W.heap.size aW (f9 us)->Calls prog 127 #[hG P,.slice bh Q cL,jb (ts.getD 0 hN),.slice aW (f9 us).length cc] W' (TrO W' P I am al ar X bs r)):
  Calls prog 93 #[hG P,.slice bh Q cL,.slice (some ⟨g,off,none⟩) m cap] W (TrO W P I am al ar X bs r):=by
 exact qgy
theorem R.qaq(h:Zp:=by
 exact qdv):Zp:=h
theorem R.qdw(h:Zp:=by
 clear c0 c1 c2 z ai;go_upto_region 29 with (go_at_call 126;refine yai (f.o _ _ _ _ xaa) ?_;rintro e af ⟨rfl,S⟩;obtain rfl:=S.symm);have y:V _:=aI.o;have av:V _:=yai (i.o aD HK.o) (λe aG t=>(⟨TrO.ret t,TrO.back HK.o t⟩:(∃x:Int,e=.returned (hI x))/\V (TrO W P I am al ar X bs r e aG)));unfold jb at av;simp only at av;clear bb N aA aI i f;have bb:=y.o.c0;have N:=y.o.c1;have aA:=y.o.c2;clear y;exact xin):Zp:=h
theorem R.qeu(h:Zp:=by
 have f:V (∀(W':World) (a:Option Addr) (n bR:Nat),n=0->Calls prog 126 #[.slice a n bR] W' λe W2=>e=.returned (.slice none 0 0)/\W2=W'):=λW' a n bR e=>by subst e;exact Ab W' a bR
 have i:V _:=bl;have h:m<=3:=xaa;have j:3<=m:=xaa;clear R;generalize ts.getD 0 hN=t at*;clear H aK bl;exact qgt):Zp:=h
open R in
theorem Af{W}(H:TrIn W P I am al ar X bs st bh Q u g off m cap ts)(aK:Pr 0 [e] ts)(aj:(ts.getD 0 hN).sym=[110,97,109,101])(R:m=3)(r)
  (bl:∀W',Kept 0 0 W W'->Calls prog 127 #[hG P,.slice bh Q cL,jb (ts.getD 0 hN),.slice none 0 0] W' (TrO W' P I am al ar X bs r)):
  Calls prog 93 #[hG P,.slice bh Q cL,.slice (some ⟨g,off,none⟩) m cap] W (TrO W P I am al ar X bs r):=by
 exact qgy
section
variable {f:Nat}{W:World}{P I:Nat}{am al ar X:Value}{bs:List Bc}{st:LSt}{bh:Option Addr}{Q cL:Nat}{u:Loc}{g off m cap:Nat}{ts:List Tok}{es:List Ex}{r:Rs (LSt×Nat)}
theorem Ag(aj:TrC f)(h:WS W P I am al ar X bs st)(H:Gd st)(aq:NmOK st)(t)(cC:es.length<=5000){aW cc}(aT:0<es.length->∃b0,aW=some ⟨b0,0,none⟩/\ArgS f W P I am al ar X bs st bh Q cL u g b0 es)(ab:eP (f+1) st u (.call t es)=some r):
  Calls prog 127 #[hG P,.slice bh Q cL,jb t,.slice aW es.length cc] W (TrO W P I am al ar X bs r):=by
 rcases Bo ab with⟨hb,rfl⟩|⟨aQ,aS,b,aa,K,bb,aK,C,rfl,aB⟩
 ·exact Ib h H t hb
 exact K0 aj h H aq t rfl cC aT bb aK aa C _ aB
theorem Bq{t l q}(aj:TrC f)(H:TrIn W P I am al ar X bs st bh Q u g off m cap [t,l,q])(ht:t.sym=gS)(ah:l.sym=[40])(aq:q.sym=[41])(h:eP (f+1) st u (.call t [])=some r):
  Calls prog 93 #[hG P,.slice bh Q cL,.slice (some ⟨g,off,none⟩) m cap] W (TrO W P I am al ar X bs r):=by
 refine Af H (Pr.call0 ht ah aq) ht H.tk.len.symm r (λW' ap=>?_);exact Ag (es:=[]) (g:=g) aj (H.ws.keep ap) H.gd H.nm t xac (λc=>by simp at c) h
theorem Ic:∀(ts:List Tok) (q:SpS),(∀s∈(mf q ts).ou,s∈q.ou\/s.Sublist (q.cur++ts))/\(mf q ts).cur.Sublist (q.cur++ts)
 |[],q=>⟨λs ad=>.inl ad,by rw[List.append_nil];exact List.Sublist.refl _⟩
 |t::ts,q=>by
  rw[li]
  obtain⟨B,R⟩:=Ic ts (iQ q t)
  have aw:(iQ q t).ou=q.ou/\(iQ q t).cur=q.cur++[t]\/(iQ q t).ou=q.ou++[q.cur]/\(iQ q t).cur=[]:=by
   unfold iQ;split
   ·exact .inl ⟨rfl,rfl⟩
   ·split
    ·exact .inl ⟨rfl,rfl⟩
    ·split
     ·exact .inr ⟨rfl,rfl⟩
     ·exact .inl ⟨rfl,rfl⟩
  rcases aw with⟨ae,a9⟩|⟨ae,a9⟩
  ·rw[ae,a9,List.append_assoc]at B
   rw[a9,List.append_assoc]at R
   exact⟨B,R⟩
  ·rw[ae,a9,List.nil_append]at B
   rw[a9,List.nil_append]at R;have ad:=((List.sublist_cons_self t ts).trans (List.sublist_append_right q.cur (t::ts)))
   refine⟨λs b9=>?_,R.trans ad⟩;rcases B s b9 with c|c
   ·rcases List.mem_append.1 c with c|c
    ·exact .inl c
    simp at c;subst c;exact .inr (List.sublist_append_left _ _)
   exact .inr (c.trans ad)
theorem Ew{ts}(h:ts≠[]):∀i,i<(f9 ts).length->((f9 ts).getD i []).length<=ts.length/\∀t∈(f9 ts).getD i [],t∈ts:=by
 intro i hi;have az:(f9 ts).getD i []∈f9 ts:=by simp_all
 have ad:((f9 ts).getD i []).Sublist ts:=by
  generalize (f9 _).getD i _=s at az⊢;unfold f9 at az;rw[hJ h]at az;obtain⟨B,R⟩:=Ic ts ⟨0,[],[]⟩;rcases List.mem_append.1 az with c|c
  ·simp_all
  grind
 grind
theorem Id{n es ts}(h:Pr n es ts):es.length<=ts.length:=by
 induction h<;>grind
theorem Ey{t l q}(aj:TrC f)(H:TrIn W P I am al ar X bs st bh Q u g off m cap (t::l::(ts++[q])))(ht:t.sym=gS)(ah:l.sym=[40])(G:Pr 3 es ts)(aq:q.sym=[41])(h:eP (f+1) st u (.call t es)=some r):
  Calls prog 93 #[hG P,.slice bh Q cL,.slice (some ⟨g,off,none⟩) m cap] W (TrO W P I am al ar X bs r):=by
 have az:=H.tk.len;simp only[yap,yak,List.length_nil]at az;have aK:=jg G;have bC:=H.mc;have bT:ts≠[]:=λc=>by grind
 obtain⟨bO,b9⟩:=A0 G;have aJ:ts=((t::l::(ts++[q])).drop 2).take (m-1-2):=by grind
 have o:0<es.length:=by grind [f9]
 have cG:=Id G
 have j:(spQ ts (m-3)).cur≠[]:=by
  have ah:=b9 (es.length-1) xaa;have e:(f9 ts).getD (es.length-1) []=(spQ ts (m-3)).cur:=by grind [spQ,f9]
  rw[e]at ah;exact LL ah
 refine Bp H (Pr.call ht ah G aq) ht xaa _ aJ j r (λW' aW cc ap aT=>?_);obtain⟨b0,rfl,cu,aw,aA⟩:=aT.at_ xaa;rw[bO];have a6:=Ew bT;have bf:=ArgS.of aj cL H ap cu aw aA bO b9 (λi hi=>yan (a6 i hi).1 xaa) (λi hi t ht=>by grind);have p:=H.m5;exact Ag aj (H.ws.keep ap) H.gd H.nm t xaa (λ_=>⟨_,rfl,bf⟩) h
