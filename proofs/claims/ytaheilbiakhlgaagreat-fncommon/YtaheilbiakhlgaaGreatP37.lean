import Derived.Test.YtaheilbiakhlgaaGreatP29
import Derived.Test.YtaheilbiakhlgaaGreatP36
namespace Go.Proofs.Z
variable{Zp:Prop}
open Tryz
set_option maxRecDepth 1000000
set_option maxHeartbeats 0
open Go.RowKit Flt
attribute[local go_sem] eF eE eD
theorem u.qaf(h:Zp:=by
 exact qeq):Zp:=h
theorem u.qer(h:Zp:=by
 have bv:¬((s:Int)<x):=xaa;go_upto_region 7 with fail;clear bi a5 p2 bH f1 f2 aL;generalize ((ag.setCell _ _).setCell _ _).setCell _ _=dp at HL ds⊢;rw[<-b0.o]at HL fi;generalize (Value.slice Z _ _).ownBlock=ed at HL fi;have g3:V _:=BF b0.o ae ch.o (rm (hR b0.o eB.o)) F (λi hi q ao=>hO (ev.o i hi q ao));have cW:V ((jA vs x (s-x)).length=ab):=by show _=_;rw[oy,b0.o]
 generalize jA _ x _=act at ds bk g3 cW F;clear F;have aw:=q7 (s+1) dp xaa;rw[show(s+1:Nat)=(s:Int)+1 from rfl]at aw;have hA:IntKind.i64.wrap (s+1)=s+1:=by rw[IntKind.wrap_i64];omega
 have hz:(0:Int)<=s+1:=xaa
 have cT:V (LG w (dp.alloc (.cells (madeCells #[hF 0] (s+1)) 3)) dp.heap.size A N Y d1 ad aa d3 ins outs vs (lG 0 (s+1)) act aG.heap.size ed Z d2):=by
  have bE:=ez 0 0 dp (.cells (madeCells #[hF 0] (s+1)) 3);have e:lG 0 (s+1)=List.replicate (s+1) 0:=by simp[lG]
  rw[e];exact⟨HL.o.keep bE,IR.made dp _,BR.keep ds.o bE yaa,HL.o.far yad,fi.o,hO (BR.lt ds.o)⟩
 generalize dp.alloc _=a8 at aw cT;generalize dp.heap.size=a6 at aw cT;clear HL ds fi;go_wp2_with fail;clear aw;generalize aG.heap.size=base at cT t;go_loopw [11] (λv W=>∃k:Nat,k<=s+1/\v=hF k/\V (LG w W a6 A N Y d1 ad aa d3 ins outs vs (lG k (s+1)) act base ed Z d2)) (λv _=>s+1-(intOf v).toNat)
 case atStart=>exact⟨0,Nat.zero_le _,rfl,cT⟩
 case round=>
  obtain⟨k,O,rfl,aj⟩:=hrel
  clear cT
  by_cases aB:k<s+1
  ·have c1:=IR.cell aj.o.m k (by rw[uF k _ O];exact aB)
   have c2:=IR.free aj.o.m k
   have R1:V (LG w (wr.setCell ⟨a6,k,none⟩ (hF (-1))) a6 A N Y d1 ad aa d3 ins outs vs (lG (k+1) (s+1)) act base ed Z d2):=by
    have:=aj.o.set k (-1)
    rw[uH aB]at this
    exact this
   clear aj
   generalize (lG k _).getD k 0=z at c1
   have H:(0:Int)<=k:=xaa
   have am:(k:Int)<s+1:=xaa
   have an:(k:Int)<=s:=xaa
   exact xis
  obtain rfl:k=s+1:=xaa
  have di:=aj.o
  rw[uG]at di
  have fj:V _:=di
  have aW:=di.l.g.c0
  have aq:=di.l.g.c1
  have aN:=di.l.g.c2
  have an:¬((s+1:Nat)<=(s:Int)):=xaa
  have cR:vs.length<=1000000:=hO b0.o
  clear aj di
  go_wp2_with fail
  refine yai (LK.call fj.o.l hN ⟨1,1,0,0,0,_⟩ cR) ?_
  rintro e bj ⟨aA,cap',rfl,⟨_,bo⟩,⟨_,az⟩,⟨_,aZ⟩,ai,ar⟩
  have bl:=ai 0
  have bG:=ai 1
  have bP:=ai 2
  have cr:V (LG w _ _ A _ _ _ _ _ _ _ _ (xi _ s).1 _ _ _ _ _ _):=fj.o.stq ar.o.1 ar.o.2
  clear ai ar fj aW aq aN
  unfold fF at cr
  have aF:V _:=λW=>je W N (some ⟨aA,0,none⟩) ad Y d1 _ cap' aa d3 (show vs.length+1<=1000000 by have:=b0.o;omega)
  rw[show(vs.length+1:Nat)-1=(vs.length:Int) by omega]at aF
  go_upto_region 13 with fail
  generalize ((bj.setCell _ _).setCell ⟨_,1,_⟩ _).setCell _ _=bF at cr⊢
  clear bo az aZ bl bG bP
  have aW:=cr.o.l.g.c0
  have aq:=cr.o.l.g.c1
  rw[show(xi _ s).1.length=vs.length+1 by simp[xi]]at aq
  have aN:=cr.o.l.g.c2
  go_wp2_with fail
  refine yai (aF.o _) ?_
  rintro e cg ⟨rfl,cb⟩
  have S:V _:=cr.o.keep cb
  have c1:=IR.cell S.o.m s xac
  have c2:=IR.free S.o.m s
  generalize (List.replicate _ (-1:Int)).getD s 0=z at c1
  have eu:V (∃R Z cap,LG w _ _ A _ _ _ _ _ _ _ _ (gdn _ act s 0).1 ((gdn _ act s 0).2.take _) _ _ R Z cap):=⟨_,_,_,by
   have:=S.o.set s ((vs.length:Nat):Int)
   rw[C8 vs s (hR b0.o ae)]at this
   exact this⟩
  clear cr S aF aW aq aN cb
  have bT:(s:Int)<s+1:=xaa
  go_wp2_with fail
  clear c1 c2
  generalize cg.setCell ⟨_,s,_⟩ _=cf at eu⊢
  go_loopw [12] (λv W=>∃(i j:Nat),v=hF i/\i+j=s/\j<=s-x/\V (∃R Z cap,LG w W a6 A N Y d1 ad aa d3 ins outs (gdn vs act s j).1 ((gdn vs act s j).2.take (s+1)) act base R Z cap)) (λv _=>(intOf v).toNat)
  case atStart=>exact⟨s,0,rfl,rfl,Nat.zero_le _,eu⟩
  case round=>
   obtain⟨i,j,rfl,f7,hj,aj⟩:=hrel
   clear eu
   obtain⟨R,a4,fs,aj⟩:=aj.o
   have bn:=g3.o j xaa
   by_cases aB:j<s-x
   ·have hp:(x:Int)<i:=xaa
    have cz:i<ab:=xaa
    have gy:i<=s:=xaa
    have bC:(0:Int)<=i:=xaa
    have ck:(i:Int)<ab:=xaa
    have ew:(i:Int)<s+1:=xaa
    have dd:V (gdn vs act s (j+1)=giM vs act i (gdn vs act s j)):=by
     show _=_
     rw[gdn,show s-j=i by omega]
    have hq:IntKind.i64.wrap (i-1)=i-1:=by rw[IntKind.wrap_i64];omega
    have fT:V (i+j=s/\j<s-x):=⟨f7,aB⟩
    have cU:V (2001+12*j<=700000/\51000+12000*(j:Int)<=700000000):=by constructor<;>omega
    obtain⟨v,aM⟩:∃v,v=vs.getD i hK:=⟨_,rfl⟩
    have b1:V _:=aM
    have cD:=a0.o i cz
    have ei:=ev.o i cz
    rw[<-aM]at cD ei
    have fk:V _:=ei
    have cw:V _:=Ft _ cD.1 cD.2
    generalize gdn _ _ s j=st at aj bn dd
    generalize 2001+12*j=Q at bn cU
    generalize 51000+12000*(j:Int)=bh at bn cU
    clear aM ei f7 aB hj
    have bU:V _:=bn
    have f0:V _:=aj
    have cK:i<st.1.length:=by have:=(bn.p.at_ (show i<vs.length by rw[b0.o];exact cz)).2;exact this
    have e1:st.1.getD i hK=v:=by rw[b1.o];exact(bn.p.at_ (show i<vs.length by rw[b0.o];exact cz)).1
    have ee:=gK v.op
    obtain⟨bx,rfl,rfl,_,_⟩:=aj.l.read xaa
    have hv:i<(st.1.length:Int):=xaa
    clear bn aj
    by_cases G:st.2.getD i 0=-1
    ·
     have hc:giM vs act i st=st:=by unfold giM;rw[hI G]
     have R1:V (∀W,LG w W a6 A _ Y d1 ad aa d3 _ outs _ _ _ _ (some bx) (some ⟨bx,0,none⟩) fs->∃R Z cap,LG w W _ A N _ _ _ _ _ ins _ (gdn _ _ s _).1 ((gdn _ _ s _).2.take (s+1)) act base R Z cap):=λW h=>⟨_,_,_,by rw[dd.o,hc];exact h⟩
     clear hc
     go_wp2_with fail
     go_loopw [13] (λu W=>∃k:Nat,k<=cnt v.op/\u=hF k/\V (LG w W a6 A N Y d1 ad aa d3 ins outs st.1 (st.2.take (s+1)) act base (some bx) (some ⟨bx,0,none⟩) fs)) (λu _=>cnt v.op-(intOf u).toNat)
     case atStart=>exact⟨0,Nat.zero_le _,rfl,f0⟩
     case round=>
      obtain⟨k,O,rfl,aU⟩:=hrel
      clear f0
      have aR:=aU.o.l.g.c1
      obtain⟨dg,ea,_,_,a2⟩:=aU.o.l.read xaa
      cases ea
      have bm:=a2 i cK
      rw[e1]at bm
      obtain⟨bR,aS,bb,bq,bD,bg⟩:=bm
      clear a2
      by_cases ct:k<cnt v.op
      ·obtain⟨o,ax,gB⟩:∃o:Nat,fld v k=o/\o<i:=by
        exact xkz
       have c6:V (∀W,Calls _ _ _ W λe J=>e=.returned (.int _ o)/\Kept 0 0 W _):=λW=>by rw[<-ax];exact mE W v k xaa
       have bZ:k<(cnt v.op:Int):=xaa
       have fx:IntKind.i64.wrap (k+1)=k+1:=by rw[IntKind.wrap_i64];omega
       clear ax
       go_wp2_with (first|(go_at_call 42;refine yai (cw.o _) ?_;rintro e cg ⟨rfl,rfl⟩)|fail)
       refine yai (c6.o _) ?_
       rintro e cf ⟨rfl,bT⟩
       have C:V _:=aU.o.keep bT
       have aL:=BR.cell C.o.a i (hR cW.o cz)
       have bz:=IR.cell C.o.m i (by rw[List.length_take,bU.o.l];omega)
       rw[m8 gy,G]at bz
       clear aR bR aS bb bq bD bg bT c6 aU
       cases hb:act.getD i false
       all_goals
        rw[hb]at aL
        clear hb
        go_wp2_with fail
        clear aL bz
        go_roundw;exact⟨k+1,by omega,by go_num,C⟩;simp[intOf];omega
      ·have bZ:¬(k<(cnt v.op:Int)):=xaa
       have R2:V _:=R1.o _ aU.o
       clear aU
       exact xfg
    
    have hd0:0<=st.2.getD i 0:=by rcases bU.o.i i cz with c|c;exact absurd c G;exact c.1
    have g8:act.getD i false=true:=by rcases bU.o.i i cz with c|c;exact absurd c G;exact c.2
    have et:V (giM vs act i st=ki vs act i st (cnt v.op)):=by
     show _=_
     unfold giM
     rw[hG G,<-b1.o]
    have g5:V (∀q,q<cnt _->(fld (vs.getD i _) q).toNat≠i):=λq ao=>by rw[<-b1.o];have:=fk.o q ao;omega
    have g6:V (∃R Z cap,LG w _ _ A _ _ _ _ _ _ _ _ (ki vs act i _ 0).1 ((ki vs act i _ 0).2.take _) _ _ R Z cap):=⟨_,_,_,f0.o⟩
    have cC:V _:=hd0
    have hk:V _:=g8
    clear G hd0 g8 f0 cK e1
    go_wp2_with fail
    go_loopw [13] (λu W=>∃k:Nat,k<=cnt v.op/\u=hF k/\V (∃R Z cap,LG w W a6 A N Y d1 ad aa d3 ins outs (ki vs act i st k).1 ((ki vs act i st k).2.take (s+1)) act base R Z cap)) (λu _=>cnt v.op-(intOf u).toNat)
    case atStart=>exact⟨0,Nat.zero_le _,rfl,g6⟩
    case round=>
     obtain⟨k,O,rfl,aU⟩:=hrel
     clear g6
     obtain⟨R,bS,be,aU⟩:=aU.o
     have e7:Pre _ (ki _ act i _ k).1:=tv bU.o.p k
     have gP:=xh (rm (hR b0.o eB.o)) (act:=act) (i:=i) bU.o.z k
     have gx:=tC bU.o.i bU.o.l cC.o k (λq ao=>g5.o q xaa)
     have cI:(ki vs act i st k).2.length=ab:=by rw[qE];exact bU.o.l
     have ha:0<=(ki vs act i st k).2.getD i 0:=by rw[tA k (λq ao=>g5.o q xaa)];exact cC.o
     have f4:V (ki vs act i st (k+1)=gkM _ _ i k _):=rfl
     have g4:V (k=cnt _->gdn _ _ s _=ki _ _ i _ k):=λe=>by rw[dd.o,et.o,e]
     generalize ki _ _ i _ k=y at aU e7 gP gx cI ha f4 g4
     have cp:i<vs.length:=hR b0.o cz
     have cK:=(e7.at_ cp).2
     have e1:y.1.getD i hK=v:=by rw[b1.o];exact(e7.at_ cp).1
     obtain⟨bx,rfl,rfl,b9,a2⟩:=aU.l.read xaa
     have cy:y.1.length<=800000/\ab<=y.1.length:=⟨hQ gP.1 cU.o,by obtain⟨r,e⟩:=e7;rw[e,yak,b0.o];omega⟩
     have bm:=a2 i cK
     rw[e1]at bm
     have cJ:V _:=bm
     obtain⟨bR,aS,bb,bq,bD,bg⟩:=bm
     have aR:=aU.l.g.c1
     have hv:i<(y.1.length:Int):=xaa
     have au:V _:=aU
     have fl:V _:=e7
     have hl:V _:=gx
     have c9:V _:=cI
     clear a2 aU e7 gP gx cI
     by_cases ct:k<cnt v.op
     ·obtain⟨o,ax,gB⟩:∃o:Nat,fld v k=o/\o<i:=by
       exact xkz
      have c6:V (∀W,Calls _ _ _ W λe J=>e=.returned (.int _ o)/\Kept 0 0 W _):=λW=>by rw[<-ax];exact mE W v k xaa
      have dv:V (gkM vs act i k y=if act.getD o false=true/\pr v k=true then mK vs o (nF (i:Int) v (laM vs i) k (y.2.getD i 0) y.1.length).2 (y.1++(nF (i:Int) v (laM vs i) k (y.2.getD i 0) y.1.length).1,y.2)else y):=by
       show _=_
       unfold gkM
       rw[<-b1.o,ax]
       rfl
      have bZ:k<(cnt v.op:Int):=xaa
      have fx:IntKind.i64.wrap (k+1)=k+1:=by rw[IntKind.wrap_i64];omega
      have ak:(0:Int)<=o:=xaa
      have bV:(o:Int)<ab:=xaa
      have bO:(o:Int)<s+1:=xaa
      clear ax
      go_wp2_with (first|(go_at_call 42;refine yai (cw.o _) ?_;rintro e cg ⟨rfl,rfl⟩)|fail)
      refine yai (c6.o _) ?_
      rintro e cf ⟨rfl,bT⟩
      have C:V _:=au.o.keep bT
      have gf:V _:=cJ.o.keep b9 bT yaa
      have aL:=BR.cell C.o.a i (hR cW.o cz)
      rw[hk.o]at aL
      have bz:=IR.cell C.o.m i (by rw[List.length_take,c9.o];omega)
      rw[m8 gy]at bz
      have gd:=BR.cell C.o.a o (hT cW.o)
      generalize f6:y.2.getD i 0=d at bz dv ha
      have hx:¬(d<0):=xaa
      clear aR bR aS bb bq bD bg bT c6 au cJ b9 f6
      cases hb:act.getD o false
      ·rw[hb]at gd
       have R3:V (∃R Z cap,LG w _ _ A _ _ _ _ _ _ _ _ (ki _ _ i _ _).1 ((ki _ _ i _ _).2.take _) _ _ R Z cap):=⟨_,_,_,by
        rw[f4.o,dv.o,hG (by rw[hb];simp)]
        exact C.o⟩
       clear hb C gf
       go_wp2_with fail
       clear aL bz gd
       exact xfd
      ·rw[hb]at gd
       have go:V (gkM vs act i k y=if pr v k=true then mK vs o (nF (i:Int) v (laM vs i) k d y.1.length).2 (y.1++(nF (i:Int) v (laM vs i) k d y.1.length).1,y.2)else y):=by
        show _=_
        rw[dv.o,hb]
        simp
       have aW:=C.o.l.g.c0
       have aq:=C.o.l.g.c1
       have aN:=C.o.l.g.c2
       have d0:V (∀ay,Kept 0 0 cf ay->Calls prog 162 #[eX N Y d1 (some ⟨bx,0,none⟩) y.1.length be ad aa d3,hF i,hF k,hF d] ay λe bF=>∃(p:List Vl) (r:Int) (bS:Option Addr) (n:Nat) (bA:Option Nat),e=.returned (.tuple #[eX N Y d1 bS p.length n ad aa d3,hF r,.bool (pr v k)])/\(∀I o,I<ay.heap.size->I≠bx->bF.cell? ⟨I,o,none⟩=ay.cell? ⟨I,o,none⟩)/\(∀I o,I<ay.heap.size->I≠bx->bF.frozen? ⟨I,o,none⟩=ay.frozen? ⟨I,o,none⟩)/\ay.heap.size<=bF.heap.size/\V (p=y.1++(ptM (i:Int) v (laM vs i) k d y.1.length).1/\r=(ptM (i:Int) v (laM vs i) k d y.1.length).2)/\
         V (∀(l h':Nat) (cg:World),Kept l h' bF cg->cf.heap.size<=l->(h'<=ay.heap.size\/bF.heap.size<=l)->(bx<l\/h'<=bx)->LG w (fF cg w.heap.size (.slice N Y d1) (.slice bS p.length n) (.slice ad aa d3)) a6 A N Y d1 ad aa d3 ins outs p (y.2.take (s+1)) act base bA bS n)):=λay al=>by
        refine(Nr ay N ad Y d1 be aa d3 base bx i y.1 v (laM vs i) k d (C.o.keep al).l.g.own (C.o.keep al).l.g.sz cy.1 cK (gf.o.keep (eI C.o.l.g.own (k:=bx) rfl).2 al yaa) cD ct (λhm=>by
         obtain⟨gc,B,U,h3,_⟩:=O3 (hR b0.o cH.o) i (hR b0.o cz) (hS b1.o hm)
         exact⟨_,hR b1.o B,hQ cy.2 b0.o,by rw[(Pre.at_ fl.o U).1];exact h3⟩)).mono ?_
        rintro e bF ⟨bS,n,bA,rfl,fa,fc,ec⟩
        have hn:∀I,I≠bx->¬((λ_=>False) I\/some bx=some I):=λI aT=>by rintro (c|c);exact c;cases c;exact aT rfl
        refine⟨_,_,_,_,bA,rfl,λI o aT aQ=>ec.chg.cell aT (hn I aQ),λI o aT aQ=>ec.chg.frozen aT (hn I aQ),ec.chg.size,⟨rfl,rfl⟩,λl h' cg cb ah ba b9=>?_⟩
        have ce:=C.o.l.step al fa fc ec cb ah (λg aQ=>by
         rcases ec.row with c|⟨r,c,av⟩
         ·rw[c]at aQ;cases aQ;exact b9
         ·rw[c]at aQ;cases aQ
          have:=(eI fa (fc.trans c)).2
          omega)
        exact C.o.stq ce.1 ce.2
       have m:V (w.heap.size<cf.heap.size/\a6<cf.heap.size/\w.heap.size≠bx/\a6≠bx/\bx<cf.heap.size):=⟨C.o.l.g.lt,IR.lt C.o.m,λc=>C.o.l.g.ne (by rw[c]),λc=>C.o.fm.r (by rw[c]),(eI C.o.l.g.own rfl).2⟩
       have eC:=C.o.l.g.free
       clear hb gf C
       go_upto_region 22 with fail
       clear aL gd
       go_cut [15,16,17] (λe2 g1 e6 bp=>∃(X:Nat) (p:List Vl) (r:Int) (bS:Option Addr) (n:Nat) (bA:Option Nat),e2=hD X/\g1=hF r/\e6=.bool (pr v k)/\V (p=y.1++(ptM (i:Int) v (laM vs i) k d y.1.length).1/\r=(ptM (i:Int) v (laM vs i) k d y.1.length).2)/\V (RB bp X (.slice N Y d1) (.slice bS p.length n) (.slice ad aa d3)/\((∃u,bp.cell? ⟨w.heap.size,0,none⟩=some u)/\(∃u,bp.cell? ⟨w.heap.size,1,none⟩=some u)/\(∃u,bp.cell? ⟨w.heap.size,2,none⟩=some u))/\(∀o,bp.frozen? ⟨w.heap.size,o,none⟩=false))/\V (LG w (fF bp w.heap.size (.slice N Y d1) (.slice bS p.length n) (.slice ad aa d3)) a6 A N Y d1 ad aa d3 ins outs p (y.2.take (s+1)) act base bA bS n))
       case first=>
        have el:w.heap.size≠cf.heap.size:=hO m.o
        have gs:a6≠cf.heap.size:=hO m.o
        have a9:V (∀I o,I<cf.heap.size->(cf.alloc _).drew.cell? ⟨I,o,none⟩=cf.cell? _):=λI o aT=>(ez 0 0 _ fE).cell aT xaa
        go_region_held3 (λW:World=>W.cell? ⟨w.heap.size,0,none⟩=some (.slice N Y d1)/\W.cell? ⟨w.heap.size,1,none⟩=some (hE bx y.1.length be)/\W.cell? ⟨w.heap.size,2,none⟩=some (.slice ad aa d3)/\W.cell? ⟨a6,i,none⟩=some (hF d)) (first|go_keep|(simp only[mi _ _ _ _ _ _ _ el,mi _ _ _ _ _ _ _ gs];exact⟨br,a1,Z,a3⟩)) (first
         |(go_at_call 162;refine yai (d0.o _ ((ez 0 0 _ _).trans (eG _))) ?_;rintro e bF ⟨p,r,bS,n,bA,rfl,bW,cF,cP,cM,bc⟩;have br:=(bW _ 0 (by have:=m.o;simp;omega) m.o.2.2.1).trans ((a9.o _ 0 m.o.1).trans aW);have a1:=(bW _ 1 (by have:=m.o;simp;omega) m.o.2.2.1).trans ((a9.o _ 1 m.o.1).trans aq);have Z:=(bW _ 2 (by have:=m.o;simp;omega) m.o.2.2.1).trans ((a9.o _ 2 m.o.1).trans aN);have a3:=(bW _ i (by have:=m.o;simp;omega) m.o.2.2.2.1).trans ((a9.o _ i m.o.2.1).trans bz);have cS:V _:=cF;have bR:=bW cf.heap.size 0 xac (hO m.o);have aS:=bW cf.heap.size 1 xac (hO m.o);have bb:=bW cf.heap.size 2 xac (hO m.o);have ex:=cF cf.heap.size 0 xac (hO m.o);have ey:=cF cf.heap.size 1 xac (hO m.o);have eA:=cF cf.heap.size 2 xac (hO m.o);have ek:V _:=cP;clear bW cF cP)
         |(go_at_call 162;refine yai (d0.o _ (eG _)) ?_;rintro e bF ⟨p,r,bS,n,bA,rfl,bW,cF,cP,cM,bc⟩;have br:=(bW _ 0 m.o.1 m.o.2.2.1).trans aW;have a1:=(bW _ 1 m.o.1 m.o.2.2.1).trans aq;have Z:=(bW _ 2 m.o.1 m.o.2.2.1).trans aN;have a3:=(bW _ i m.o.2.1 m.o.2.2.2.1).trans bz;have cS:V _:=cF;have cl:w.heap.size≠bF.heap.size:=(by have:=m.o;have:cf.heap.size<=bF.heap.size:=cP;omega);have cV:a6≠bF.heap.size:=(by have:=m.o;have:cf.heap.size<=bF.heap.size:=cP;omega);have ek:V _:=cP;clear bW cF cP))
        ·have eb:cf.heap.size<=bF.heap.size:=ek.o
         have bE:=ez 0 0 bF (.cells #[.slice N Y d1,.slice bS p.length n,.slice ad aa d3] 26)
         have cQ:w.heap.size<bF.heap.size:=hO m.o
         have R2:V (RB (bF.alloc (.cells #[.slice N Y d1,.slice bS p.length n,.slice ad aa d3] 26)) bF.heap.size (.slice N Y d1) (.slice bS p.length n) (.slice ad aa d3)/\((∃u,(bF.alloc _).cell? _=some u)/\(∃u,(bF.alloc _).cell? _=some u)/\(∃u,(bF.alloc _).cell? _=some u))/\(∀o,(bF.alloc _).frozen? _=false)):=
          ⟨⟨by simp,by simp,by simp,by simp,by simp,by simp,by simp⟩,⟨⟨_,(bE.cell cQ xaa).trans br⟩,⟨_,(bE.cell cQ xaa).trans a1⟩,⟨_,(bE.cell cQ xaa).trans Z⟩⟩,λo=>(bE.frozen cQ xaa).trans ((cS.o _ o m.o.1 m.o.2.2.1).trans (eC o))⟩
         have R3:V _:=bc.o _ bF.heap.size _ (ez _ _ _ (.cells #[.slice N Y d1,.slice bS p.length n,.slice ad aa d3] 26)) eb yab (.inl (hO m.o))
         exact xkl
        ·have eb:=yan (ez 0 0 _ _).size ek.o
         have K:=fh bF cf.heap.size (.slice N Y d1) (.slice bS p.length n) (.slice ad aa d3)
         have cQ:w.heap.size<bF.heap.size:=hO m.o
         have gw:cf.heap.size<bF.heap.size:=yaj xac ek.o
         have fG:bF.cell? _=some (.slice none 0 0):=bR.trans xac
         have fM:bF.cell? _=some (.slice none 0 0):=aS.trans xac
         have fP:bF.cell? _=some (.slice none 0 0):=bb.trans xac
         obtain⟨bd,aR,aV⟩:=fg _ _ _ _ _ fG fM fP (.slice N Y d1) (.slice bS p.length n) (.slice ad aa d3)
         have er:∀o,bF.frozen? _=false:=λo=>(cS.o cf.heap.size o xac (hO m.o)).trans xac
         have bN:∀o,_:=λo=>(cS.o _ o (by have:=m.o;simp;omega) m.o.2.2.1).trans (((ez 0 0 _ _).frozen m.o.1 xaa).trans (eC o))
         have R2:V (RB _ _ _ _ _/\((∃u,(((bF.setCell _ (.slice N Y d1)).setCell _ (.slice bS p.length n)).setCell _ (.slice ad aa d3)).cell? _=some u)/\(∃u,(((bF.setCell _ (.slice N Y d1)).setCell _ (.slice bS p.length n)).setCell _ (.slice ad aa d3)).cell? _=some u)/\(∃u,(((bF.setCell _ (.slice N Y d1)).setCell _ (.slice bS p.length n)).setCell _ (.slice ad aa d3)).cell? _=some u))/\(∀o,(((bF.setCell ⟨cf.heap.size,0,none⟩ (.slice N Y d1)).setCell ⟨cf.heap.size,1,none⟩ (.slice bS p.length n)).setCell ⟨cf.heap.size,2,none⟩ (.slice ad aa d3)).frozen? ⟨w.heap.size,o,none⟩=false)):=
          ⟨⟨yaj gw K.size,bd,aR,aV,by simp[er 0],by simp[er 1],by simp[er 2]⟩,⟨⟨_,(mi _ _ _ _ _ _ _ el).trans br⟩,⟨_,(mi _ _ _ _ _ _ _ el).trans a1⟩,⟨_,(mi _ _ _ _ _ _ _ el).trans Z⟩⟩,λo=>by simp[bN o]⟩
         have R3:V _:=bc.o _ _ _ K yad (.inl xac) (.inl m.o.2.2.2.2)
         clear K fG fM fP er bN bd aR aV bR aS bb ex ey eA
         exact xkl
       case rest=>
        clear aW aq aN bz d0 eC
        obtain⟨X,p,r,bS,n,bA,rfl,rfl,rfl,cM,bK,bc⟩:=hcut
        obtain⟨⟨_,bf,aO,aX,bI,bL,bM⟩,⟨⟨_,bi⟩,⟨_,a5⟩,⟨_,p2⟩⟩,bN⟩:=bK.o
        have gR:=bN 0
        have gT:=bN 1
        have g0:=bN 2
        clear bN bK
        go_upto_region 24 with fail
        clear bf aO aX bI bL bM bi a5 p2 gR gT g0
        unfold fF at bc
        generalize ((wc.setCell _ _).setCell ⟨_,1,_⟩ _).setCell _ _=c8 at bc⊢
        cases en:pr v k
        ·have R3:V (∃R Z cap,LG w _ _ A _ _ _ _ _ _ _ _ (ki _ _ i _ _).1 ((ki _ _ i _ _).2.take _) _ _ R Z cap):=⟨_,_,_,by
          have e:p=y.1:=by rw[cM.o.1];unfold ptM;rw[hG (by rw[en];simp)];simp
          rw[f4.o,go.o,hG (by rw[en];simp),<-e]
          exact bc.o⟩
         clear bc cM en
         exact xfu
        ·have ep:p=y.1++(nF i v (laM vs i) k d y.1.length).1/\r=(nF i v (laM vs i) k d y.1.length).2:=by
          have e:=cM.o
          unfold ptM at e
          rw[hI en]at e
          exact e
         have gp:V (ki vs act i st (k+1)=mK vs o r (p,y.2)):=by
          show _=_
          rw[f4.o,go.o,hI en,ep.1,ep.2]
         have ga:o<vs.length:=hO b0.o
         have he:p.length<=810000/\o<p.length/\(p.getD o hK).len=(vs.getD o hK).len:=by
          have eT:=yJ i v (laM _ i) k d y.1.length (by rw[b1.o];exact(rm (hR b0.o eB.o) i).1) (by rw[b1.o];exact(rm (hR b0.o eB.o) i).2) (rm (hR b0.o eB.o) _).1 (rm (hR b0.o eB.o) _).2
          have fz:Pre vs p:=by rw[ep.1];exact Pre.app fl.o
          refine⟨?_,(Pre.at_ fz ga).2,by rw[(Pre.at_ fz ga).1]⟩
          rw[ep.1,yak]
          have:=eT.1
          omega
         obtain⟨he,hr,cA⟩:=he
         have gA:(y.2.take (s+1)).length=s+1:=by rw[List.length_take,c9.o];omega
         have ff:=IR.cell bc.o.m o (hT gA)
         rw[m8 xaa]at ff
         have hg:=IR.free bc.o.m o
         have cd:V _:=(hl.o o xaa).imp (λc=>c) (λc=>c.1)
         have f5:V ((y.2.take (s+1)).getD o 0=y.2.getD o 0):=m8 xaa
         clear cM ep ga en
         by_cases ao:y.2.getD o 0=-1
         ·rw[ao]at ff
          have R3:V (∃R Z cap,LG w _ _ A _ _ _ _ _ _ _ _ (ki _ _ i _ _).1 ((ki _ _ i _ _).2.take _) _ _ R Z cap):=⟨_,_,_,by
           have h:=bc.o.set o r
           rw[gp.o]
           unfold mK
           rw[hI ao]
           rw[rn]at h
           exact h⟩
          clear bc ao cd f5
          exact xfu
         ·have e3:V (ki vs act i st (k+1)=(p++[eK 2 (vs.getD o hK).len (y.2.getD o 0) r 0],y.2.set o (p.length:Nat))):=by
           show _=_
           rw[gp.o]
           unfold mK
           rw[hG ao]
          have gb:¬(y.2.getD o 0<0):=by rcases cd.o with c|c;exact absurd c ao;omega
          generalize y.2.getD o 0=q at ff gb e3 f5
          obtain⟨gr,rfl,rfl,_,_⟩:=bc.o.l.read xaa
          clear ao cd gp go dv
          go_upto_region 27 with fail
          clear ff hg
          refine fH (M7 bc xaa hr xaa gA cA f5.o ?_)
          intro hw aA cap' _ _ _ _ _ _ _ _ _ _ _ _ _ _ S
          unfold hD
          have hd:(p++[eK 2 (vs.getD o hK).len q r 0]).length=p.length+1:=by simp
          generalize p++[eK 2 _ q r 0]=g2 at S e3 hd
          have aW:=S.o.l.g.c0
          have aq:=S.o.l.g.c1
          have aN:=S.o.l.g.c2
          have aF:V _:=λW=>je W N (some ⟨aA,0,none⟩) ad Y d1 _ cap' aa d3 (show g2.length<=1000000 by omega)
          rw[show(g2.length:Int)-1=(p.length:Nat) by omega]at aF
          clear bc hd f5 gb
          go_wp2_with fail
          refine yai (aF.o _) ?_
          rintro e hB ⟨rfl,hf⟩
          have bu:V _:=S.o.keep hf
          have ff:=IR.cell bu.o.m o (hT gA)
          have hg:=IR.free bu.o.m o
          generalize (y.2.take _).getD o 0=hC at ff
          have R3:V (∃R Z cap,LG w _ _ A _ _ _ _ _ _ _ _ (ki _ _ i _ _).1 ((ki _ _ i _ _).2.take _) _ _ R Z cap):=⟨_,_,_,by
           have h:=bu.o.set o ((p.length:Nat):Int)
           rw[e3.o]
           rw[rn]at h
           exact h⟩
          clear S bu aF aW aq aN hf
          exact xfu
     ·have bZ:¬(k<(cnt v.op:Int)):=xaa
      have eg:k=cnt v.op:=xaa
      have R2:V (∃R Z cap,LG w _ _ A _ _ _ _ _ _ _ _ (gdn _ _ s _).1 ((gdn _ _ s _).2.take _) _ _ R Z cap):=⟨_,_,_,by rw[g4.o eg];exact au.o⟩
      clear eg au cJ
      exact xfg
   have hp:¬((x:Int)<i):=xaa
   have ef:j=s-x:=xaa
   subst ef
   have bz:=IR.cell aj.m x (by rw[List.length_take,bn.l];omega)
   rw[m8 xaa]at bz
   have e0:=bn.i x ap
   have hu:=bn.z.1
   have hs:(gdn vs act s (s-x)).1.length<=800000:=xaa
   have e9:0<(gdn vs act s (s-x)).1.length:=by
    obtain⟨r,e⟩:=bn.p
    rw[e,yak,b0.o]
    omega
   have e5:V (grM vs s x=if (gdn vs act s (s-x)).2.getD x 0=-1 then ((gdn vs act s (s-x)).1++[eK 1 ca 0 0 0],(((gdn vs act s (s-x)).1.length:Nat):Int))else ((gdn vs act s (s-x)).1,(gdn vs act s (s-x)).2.getD x 0)):=by
    show _=_
    rw[bk.o,<-gq.o]
    rfl
   obtain⟨bx,rfl,rfl,_,_⟩:=aj.l.read e9
   have HL:V _:=aj.l
   have hh:V (a6≠w.heap.size+1/\a6≠w.heap.size):=⟨hO aj.fm.p,hO aj.fm.p⟩
   have cx:(x:Int)<s+1:=xaa
   generalize (gdn _ _ s _).2.getD x 0=mm at bz e0 e5
   clear bn aj hu bk
   generalize (gdn _ _ s _).1=us at HL e5 hs e9
   have aW:=HL.o.g.c0
   have aq:=HL.o.g.c1
   have aN:=HL.o.g.c2
   obtain⟨_,bf,aO,aX,bI,bL,bM⟩:=HL.o.b
   by_cases ao:mm=-1
   ·subst ao
    have cB:V (grM vs s x=(us++[eK 1 ca 0 0 0],(us.length:Int))):=by
     show _=_
     rw[e5.o,hI rfl]
    clear e5 e0 bf aO aX bI bL bM
    go_upto_region 30 with fail
    clear bz
    go_cut [] (λbp=>∃aA cap',V (LK w bp N Y d1 ad aa d3 ins outs (us++[eK 1 ca 0 0 0]) base (some aA) (some ⟨aA,0,none⟩) cap'))
    case first=>
     go_region_with (first
      |(go_at_call 37;refine yai (LK.call HL.o ((eG _).trans am) _ xaa) ?_;rintro e ag ⟨aA,cap',rfl,⟨_,bo⟩,⟨_,az⟩,⟨_,aZ⟩,ai,aD⟩;have bl:=ai 0;have bG:=ai 1;have bP:=ai 2;have co:V _:=aD.o.1;clear ai aD)
      |(go_at_call 57;refine yai (oW _ _) ?_;rintro e aG ⟨rfl,am⟩;have bi:=(LK.keep HL.o ((eG _).trans am)).g.c0;have a5:=(LK.keep HL.o ((eG _).trans am)).g.c1;have p2:=(LK.keep HL.o ((eG _).trans am)).g.c2))
     all_goals (go_wp2_with fail;go_meet;exact⟨_,_,co⟩)
    case rest=>
     obtain⟨aA,cap',aD⟩:=hcut
     have ci:(us++[eK 1 ca 0 0 0]).length=us.length+1:=by simp
     generalize aI:us++[eK 1 _ 0 0 0]=p at aD cB ci
     clear aW aq aN aI HL
     have aW:=aD.o.g.c0
     have aq:=aD.o.g.c1
     have aN:=aD.o.g.c2
     obtain⟨_,bf,aO,aX,bI,bL,bM⟩:=aD.o.b
     have aF:V _:=λW=>je W N (some ⟨aA,0,none⟩) ad Y d1 _ cap' aa d3 (show p.length<=1000000 by have:=ci;omega)
     rw[show(p.length:Int)-1=(us.length:Nat) by omega]at aF
     clear ci
     go_wp2_with fail
     go_region_with (first
      |(go_at_call 40;refine yai (aF.o _) ?_;rintro e a8 ⟨rfl,aJ⟩;clear bf aO aX bI bL bM;have a7:=(aD.o.keep ((eG _).trans aJ)).g.c0;have aK:=(aD.o.keep ((eG _).trans aJ)).g.c1;have aP:=(aD.o.keep ((eG _).trans aJ)).g.c2;obtain⟨_,bf,aO,aX,bI,bL,bM⟩:=(aD.o.keep ((eG _).trans aJ)).b))
     all_goals
      have ej:V _:=aD.o.a4
      have R1:V _:=aD.o.fin ((eG _).trans aJ)
      obtain⟨bd,aR,aV⟩:=fg _ _ _ _ _ bf aO aX (.slice N Y d1) (hE aA p.length cap') (.slice ad aa d3)
      go_wp2_with fail
      refine yay (v:=.tuple #[eX N Y d1 (some ⟨aA,0,none⟩) p.length cap' ad aa d3,hF us.length]) (by simp[results,results156,go_sem,bd,aR,aV]) rfl ⟨?_,R1.o.2⟩
      rw[cB.o]
      exact⟨_,_,_,_,_,_,rfl,R1.o.1.1,R1.o.1.2.1,R1.o.1.2.2,ej.o⟩
   have cB:V (grM vs s x=(us,mm)):=by
    show _=_
    rw[e5.o,hG ao]
   have hy:¬(mm<0):=by rcases e0 with c|c;exact absurd c ao;omega
   obtain⟨bd,aR,aV⟩:=fg _ _ _ _ _ bf aO aX (.slice N Y d1) (hE bx us.length fs) (.slice ad aa d3)
   have gv:w.heap.size≠w.heap.size+1:=xaa
   have fv:=hh.o.1
   have ho:=Ne.symm fv
   have cO:V (∀X bw cj:Value,(((wr.setCell _ X).setCell _ bw).setCell _ cj).drew.cell? _=some _):=λX bw cj=>(mi _ _ _ _ X bw cj fv).trans bz
   exact qhd):Zp:=h
theorem u.qhe(h:Zp:=by
 clear e5 e0 ao;go_upto_region 32 with fail;go_region_held3 (λW:World=>W.cell? ⟨w.heap.size,0,none⟩=some (.slice N Y d1)/\W.cell? ⟨w.heap.size,1,none⟩=some (hE bx us.length fs)/\W.cell? ⟨w.heap.size,2,none⟩=some (.slice ad aa d3)/\W.cell? ⟨a6,x,none⟩=some (hF mm)) (first|go_keep|(exact⟨(cX.o _ _ _ _).trans aW,(cX.o _ _ _ _).trans aq,(cX.o _ _ _ _).trans aN,cO.o _ _ _⟩)) (fail)
 all_goals
  go_wp2_with fail
  refine yay (v:=.tuple #[eX N Y d1 (some ⟨bx,0,none⟩) us.length fs ad aa d3,hF mm]) (by simp[results,results156,go_sem,bd,aR,aV]) rfl ⟨?_,R1.o.2⟩
  rw[cB.o]
  exact⟨_,_,_,_,_,_,rfl,R1.o.1.1,R1.o.1.2.1,R1.o.1.2.2,ej.o⟩):Zp:=h
open u in
theorem zv(w P af aC Y c1 ab c2 aa c3 s x ins vs outs)(f:GS w P Y (some ⟨aC,0,none⟩) ab af aa ins vs outs)(c7:VA w aC ab vs)(bJ:Y<=1000000)(b5:ab<=2000)(cu:aa<=1000000)(b6:(List.range ab).all (okV ins vs)=true)(cG:fd vs<=50000)(ae:s<ab)(ap:x<ab)(F:(jA vs x (s-x)).getD s false=true):
  Calls prog 156 #[eX P Y c1 (some ⟨aC,0,none⟩) ab c2 af aa c3,hF s,hF x] w λe J=>vw w J Y aa ins outs (grM vs s x) e/\Kept 0 0 w J:=by
 have bk:V (grM vs s x=MY vs x (gdn vs (jA vs x (s-x)) s (s-x))):=by
  show _=_;unfold grM FQ;rw[hI F,tz _ _ _ _ _ yad]
 have gE:¬s<x:=λc=>by
  rw[show s-x=0 by omega,jA,sj xaa,yah,List.getElem?_replicate]at F
  split at F<;>simp at F
 exact qed
