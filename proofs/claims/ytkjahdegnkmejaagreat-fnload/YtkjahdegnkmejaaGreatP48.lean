import Derived.Test.YtkjahdegnkmejaaGreatP29
import Derived.Test.YtkjahdegnkmejaaGreatP46
namespace Go.Proofs.Z
variable{Zp:Prop}
open Tryz
set_option maxRecDepth 1000000
set_option maxHeartbeats 0
open Go.RowKit Flt
attribute[local go_sem] eE eC eB
theorem u.qaf(h:Zp:=by
 exact qdv):Zp:=h
theorem u.qdw(h:Zp:=by
 have br:¬((s:Int)<x):=xaa;go_upto_region 7 with fail;clear bG bn p2 bT f1 f2 an;generalize ((ak.setCell _ _).setCell _ _).setCell _ _=ds at HL c9⊢;rw[<-bb.o]at HL e3;generalize (Value.slice K _ _).ownBlock=bu at HL e3;have g0:V _:=BG bb.o aw b9.o (qQ (jn bb.o ep.o)) aB (λi hi q am=>i4 (er.o i hi q am));have ef:V ((jg vs x (s-x)).length=ae):=by show _=_;rw[oe,bb.o]
 generalize jg _ x _=act at c9 bD g0 ef aB;clear aB;have aD:=EN (s+1) ds xaa;rw[show(s+1:Nat)=(s:Int)+1 from rfl]at aD;have f6:IntKind.i64.wrap (s+1)=s+1:=by rw[IntKind.wrap_i64];omega
 have eu:(0:Int)<=s+1:=xaa
 have c6:V (LG w (ds.alloc (.cells (madeCells #[ih 0] (s+1)) 3)) ds.heap.size A R Y aX U aa ab ins outs vs (lh 0 (s+1)) act aK.heap.size bu K bk):=by
  have bj:=eA 0 0 ds (.cells (madeCells #[ih 0] (s+1)) 3);have e:lh 0 (s+1)=List.replicate (s+1) 0:=by simp[lh]
  rw[e];exact⟨HL.o.keep bj,IR.made ds _,BR.keep c9.o bj yaa,HL.o.far yad,e3.o,i4 (BR.lt c9.o)⟩
 generalize ds.alloc _=aM at aD c6;generalize ds.heap.size=ay at aD c6;clear HL c9 e3;go_wp2_with fail;clear aD;generalize aK.heap.size=base at c6 b3;go_loopw [11] (λv W=>∃k:Nat,k<=s+1/\v=ih k/\V (LG w W ay A R Y aX U aa ab ins outs vs (lh k (s+1)) act base bu K bk)) (λv _=>s+1-(intOf v).toNat)
 case atStart=>exact⟨0,yae,rfl,c6⟩
 case round=>
  obtain⟨k,J,rfl,m⟩:=hrel
  clear c6
  by_cases aY:k<s+1
  ·have c1:=IR.cell m.o.m k (by rw[uO k _ J];exact aY)
   have c2:=IR.free m.o.m k
   have R1:V (LG w (wr.setCell ⟨ay,k,none⟩ (ih (-1))) ay A R Y aX U aa ab ins outs vs (lh (k+1) (s+1)) act base bu K bk):=by
    have:=m.o.set k (-1)
    rw[uQ aY]at this
    exact this
   clear m
   generalize (lh k _).getD k 0=z at c1
   have bF:(0:Int)<=k:=xaa
   have ap:(k:Int)<s+1:=xaa
   have aC:(k:Int)<=s:=xaa
   exact xhz
  obtain rfl:k=s+1:=xaa
  have dp:=m.o
  rw[uP]at dp
  have e5:V _:=dp
  have a0:=dp.l.g.c0
  have av:=dp.l.g.c1
  have aT:=dp.l.g.c2
  have aC:¬((s+1:Nat)<=(s:Int)):=xaa
  have ai:vs.length<=1000000:=i4 bb.o
  clear m dp
  go_wp2_with fail
  refine yaj (LK.call e5.o.l i3 ⟨1,1,0,0,0,_⟩ ai) ?_
  rintro e bx ⟨aI,cap',rfl,⟨_,bo⟩,⟨_,ar⟩,⟨_,aQ⟩,aj,a7⟩
  have bR:=aj 0
  have bV:=aj 1
  have bW:=aj 2
  have ce:V (LG w _ _ A _ _ _ _ _ _ _ _ (wC _ s).1 _ _ _ _ _ _):=e5.o.stq a7.o.1 a7.o.2
  clear aj a7 e5 a0 av aT
  unfold fk at ce
  have be:V _:=λW=>iV W R (some ⟨aI,0,none⟩) U Y aX _ cap' aa ab (show vs.length+1<=1000000 by have:=bb.o;omega)
  rw[show(vs.length+1:Nat)-1=(vs.length:Int) by omega]at be
  go_upto_region 13 with fail
  generalize ((bx.setCell _ _).setCell ⟨_,1,_⟩ _).setCell _ _=bz at ce⊢
  clear bo ar aQ bR bV bW
  have a0:=ce.o.l.g.c0
  have av:=ce.o.l.g.c1
  rw[show(wC _ s).1.length=vs.length+1 by simp[wC]]at av
  have aT:=ce.o.l.g.c2
  go_wp2_with fail
  refine yaj (be.o _) ?_
  rintro e ch ⟨rfl,b6⟩
  have aO:V _:=ce.o.keep b6
  have c1:=IR.cell aO.o.m s xac
  have c2:=IR.free aO.o.m s
  generalize (List.replicate _ (-1:Int)).getD s 0=z at c1
  have eg:V (∃H K cap,LG w _ _ A _ _ _ _ _ _ _ _ (gdn _ act s 0).1 ((gdn _ act s 0).2.take _) _ _ H K cap):=⟨_,_,_,by
   have:=aO.o.set s ((vs.length:Nat):Int)
   rw[C2 vs s (jn bb.o aw)]at this
   exact this⟩
  clear ce aO be a0 av aT b6
  have b7:(s:Int)<s+1:=xaa
  go_wp2_with fail
  clear c1 c2
  generalize ch.setCell ⟨_,s,_⟩ _=ci at eg⊢
  go_loopw [12] (λv W=>∃(i j:Nat),v=ih i/\i+j=s/\j<=s-x/\V (∃H K cap,LG w W ay A R Y aX U aa ab ins outs (gdn vs act s j).1 ((gdn vs act s j).2.take (s+1)) act base H K cap)) (λv _=>(intOf v).toNat)
  case atStart=>exact⟨s,0,rfl,rfl,yae,eg⟩
  case round=>
   obtain⟨i,j,rfl,gv,hj,m⟩:=hrel
   clear eg
   obtain⟨H,a4,eP,m⟩:=m.o
   have b1:=g0.o j xaa
   by_cases aY:j<s-x
   ·have Q:(x:Int)<i:=xaa
    have ah:i<ae:=xaa
    have gx:i<=s:=xaa
    have bY:(0:Int)<=i:=xaa
    have ct:(i:Int)<ae:=xaa
    have ew:(i:Int)<s+1:=xaa
    have cM:V (gdn vs act s (j+1)=giM vs act i (gdn vs act s j)):=by
     show _=_
     rw[gdn,show s-j=i by omega]
    have hp:IntKind.i64.wrap (i-1)=i-1:=by rw[IntKind.wrap_i64];omega
    have fv:V (i+j=s/\j<s-x):=⟨gv,aY⟩
    have cR:V (2001+12*j<=700000/\51000+12000*(j:Int)<=700000000):=by constructor<;>omega
    obtain⟨v,aL⟩:∃v,v=vs.getD i i0:=⟨_,rfl⟩
    have b2:V _:=aL
    have d6:=db.o i ah
    have dd:=er.o i ah
    rw[<-aL]at d6 dd
    have e6:V _:=dd
    have cx:V _:=yy _ d6.1 d6.2
    generalize gdn _ _ s j=st at m b1 cM
    generalize 2001+12*j=hl at b1 cR
    generalize 51000+12000*(j:Int)=C0 at b1 cR
    clear aL dd gv aY hj
    have cn:V _:=b1
    have fz:V _:=m
    have d0:i<st.1.length:=by have:=(b1.p.at_ (show i<vs.length by rw[bb.o];exact ah)).2;exact this
    have ev:st.1.getD i i0=v:=by rw[b2.o];exact(b1.p.at_ (show i<vs.length by rw[bb.o];exact ah)).1
    have ed:=io v.op
    obtain⟨b5,rfl,rfl,_,_⟩:=m.l.read xaa
    have hc:i<(st.1.length:Int):=xaa
    clear b1 m
    by_cases aN:st.2.getD i 0=-1
    ·
     have g6:giM vs act i st=st:=by unfold giM;rw[iv aN]
     have R1:V (∀W,LG w W ay A _ Y aX U aa ab _ outs _ _ _ _ (some b5) (some ⟨b5,0,none⟩) eP->∃H K cap,LG w W _ A R _ _ _ _ _ ins _ (gdn _ _ s _).1 ((gdn _ _ s _).2.take (s+1)) act base H K cap):=λW h=>⟨_,_,_,by rw[cM.o,g6];exact h⟩
     clear g6
     go_wp2_with fail
     go_loopw [13] (λu W=>∃k:Nat,k<=cnt v.op/\u=ih k/\V (LG w W ay A R Y aX U aa ab ins outs st.1 (st.2.take (s+1)) act base (some b5) (some ⟨b5,0,none⟩) eP)) (λu _=>cnt v.op-(intOf u).toNat)
     case atStart=>exact⟨0,yae,rfl,fz⟩
     case round=>
      obtain⟨k,J,rfl,a5⟩:=hrel
      clear fz
      have aJ:=a5.o.l.g.c1
      obtain⟨d2,cd,_,_,bl⟩:=a5.o.l.read xaa
      cases cd
      have bf:=bl i d0
      rw[ev]at bf
      obtain⟨bX,aV,bg,bq,bB,cF⟩:=bf
      clear bl
      by_cases cJ:k<cnt v.op
      ·obtain⟨o,aR,gy⟩:∃o:Nat,fld v k=o/\o<i:=by
        exact xjw
       have bI:V (∀W,Calls _ _ _ W λe O=>e=.returned (.int _ o)/\Kept 0 0 W _):=λW=>by rw[<-aR];exact mW W v k xaa
       have bO:k<(cnt v.op:Int):=xaa
       have fj:IntKind.i64.wrap (k+1)=k+1:=by rw[IntKind.wrap_i64];omega
       clear aR
       go_wp2_with (first|(go_at_call 38;refine yaj (cx.o _) ?_;rintro e ch ⟨rfl,rfl⟩)|fail)
       refine yaj (bI.o _) ?_
       rintro e ci ⟨rfl,b7⟩
       have t:V _:=a5.o.keep b7
       have an:=BR.cell t.o.a i (jn ef.o ah)
       have bw:=IR.cell t.o.m i (by rw[List.length_take,cn.o.l];omega)
       rw[mJ gx,aN]at bw
       clear aJ bX aV bg bq bB cF b7 bI a5
       cases hb:act.getD i false
       all_goals
        rw[hb]at an
        clear hb
        go_wp2_with fail
        clear an bw
        go_roundw;exact⟨k+1,by omega,by go_num,t⟩;simp[intOf];omega
      ·have bO:¬(k<(cnt v.op:Int)):=xaa
       have R2:V _:=R1.o _ a5.o
       clear a5
       exact xee
    
    have hd0:0<=st.2.getD i 0:=by rcases cn.o.i i ah with c|c;exact absurd c aN;exact c.1
    have g4:act.getD i false=true:=by rcases cn.o.i i ah with c|c;exact absurd c aN;exact c.2
    have hg:V (giM vs act i st=jM vs act i st (cnt v.op)):=by
     show _=_
     unfold giM
     rw[ip aN,<-b2.o]
    have g2:V (∀q,q<cnt _->(fld (vs.getD i _) q).toNat≠i):=λq am=>by rw[<-b2.o];have:=e6.o q am;omega
    have g3:V (∃H K cap,LG w _ _ A _ _ _ _ _ _ _ _ (jM vs act i _ 0).1 ((jM vs act i _ 0).2.take _) _ _ H K cap):=⟨_,_,_,fz.o⟩
    have ey:V _:=hd0
    have hh:V _:=g4
    clear aN hd0 g4 fz d0 ev
    go_wp2_with fail
    go_loopw [13] (λu W=>∃k:Nat,k<=cnt v.op/\u=ih k/\V (∃H K cap,LG w W ay A R Y aX U aa ab ins outs (jM vs act i st k).1 ((jM vs act i st k).2.take (s+1)) act base H K cap)) (λu _=>cnt v.op-(intOf u).toNat)
    case atStart=>exact⟨0,yae,rfl,g3⟩
    case round=>
     obtain⟨k,J,rfl,a5⟩:=hrel
     clear g3
     obtain⟨H,ba,bi,a5⟩:=a5.o
     have cS:Pre _ (jM _ act i _ k).1:=sW cn.o.p k
     have gB:=wA (qQ (jn bb.o ep.o)) (act:=act) (i:=i) cn.o.z k
     have gw:=tH cn.o.i cn.o.l ey.o k (λq am=>g2.o q xaa)
     have cg:(jM vs act i st k).2.length=ae:=by rw[qg];exact cn.o.l
     have g5:0<=(jM vs act i st k).2.getD i 0:=by rw[tG k (λq am=>g2.o q xaa)];exact ey.o
     have fM:V (jM vs act i st (k+1)=gkM _ _ i k _):=rfl
     have g1:V (k=cnt _->gdn _ _ s _=jM _ _ i _ k):=λe=>by rw[cM.o,hg.o,e]
     generalize jM _ _ i _ k=y at a5 cS gB gw cg g5 fM g1
     have cI:i<vs.length:=jn bb.o ah
     have d0:=(cS.at_ cI).2
     have ev:y.1.getD i i0=v:=by rw[b2.o];exact(cS.at_ cI).1
     obtain⟨b5,rfl,rfl,cr,bl⟩:=a5.l.read xaa
     have cH:y.1.length<=800000/\ae<=y.1.length:=⟨jj gB.1 cR.o,by obtain⟨r,e⟩:=cS;rw[e,yal,bb.o];omega⟩
     have bf:=bl i d0
     rw[ev]at bf
     have bP:V _:=bf
     obtain⟨bX,aV,bg,bq,bB,cF⟩:=bf
     have aJ:=a5.l.g.c1
     have hc:i<(y.1.length:Int):=xaa
     have aG:V _:=a5
     have bc:V _:=cS
     have hk:V _:=gw
     have dl:V _:=cg
     clear bl a5 cS gB gw cg
     by_cases cJ:k<cnt v.op
     ·obtain⟨o,aR,gy⟩:∃o:Nat,fld v k=o/\o<i:=by
       exact xjw
      have bI:V (∀W,Calls _ _ _ W λe O=>e=.returned (.int _ o)/\Kept 0 0 W _):=λW=>by rw[<-aR];exact mW W v k xaa
      have fu:V (gkM vs act i k y=if act.getD o false=true/\oY v k=true then mn vs o (mX (i:Int) v (laM vs i) k (y.2.getD i 0) y.1.length).2 (y.1++(mX (i:Int) v (laM vs i) k (y.2.getD i 0) y.1.length).1,y.2)else y):=by
       show _=_
       unfold gkM
       rw[<-b2.o,aR]
       rfl
      have bO:k<(cnt v.op:Int):=xaa
      have fj:IntKind.i64.wrap (k+1)=k+1:=by rw[IntKind.wrap_i64];omega
      have hs:(0:Int)<=o:=xaa
      have cy:(o:Int)<ae:=xaa
      have ck:(o:Int)<s+1:=xaa
      clear aR
      go_wp2_with (first|(go_at_call 38;refine yaj (cx.o _) ?_;rintro e ch ⟨rfl,rfl⟩)|fail)
      refine yaj (bI.o _) ?_
      rintro e ci ⟨rfl,b7⟩
      have t:V _:=aG.o.keep b7
      have gd:V _:=bP.o.keep cr b7 yaa
      have an:=BR.cell t.o.a i (jn ef.o ah)
      rw[hh.o]at an
      have bw:=IR.cell t.o.m i (by rw[List.length_take,dl.o];omega)
      rw[mJ gx]at bw
      have gb:=BR.cell t.o.a o (jx ef.o)
      generalize f0:y.2.getD i 0=d at bw fu g5
      have hw:¬(d<0):=xaa
      clear aJ bX aV bg bq bB cF b7 bI aG bP cr f0
      cases hb:act.getD o false
      ·rw[hb]at gb
       have R3:V (∃H K cap,LG w _ _ A _ _ _ _ _ _ _ _ (jM _ _ i _ _).1 ((jM _ _ i _ _).2.take _) _ _ H K cap):=⟨_,_,_,by
        rw[fM.o,fu.o,ip (by rw[hb];simp)]
        exact t.o⟩
       clear hb t gd
       go_wp2_with fail
       clear an bw gb
       exact xec
      ·rw[hb]at gb
       have gg:V (gkM vs act i k y=if oY v k=true then mn vs o (mX (i:Int) v (laM vs i) k d y.1.length).2 (y.1++(mX (i:Int) v (laM vs i) k d y.1.length).1,y.2)else y):=by
        show _=_
        rw[fu.o,hb]
        simp
       have a0:=t.o.l.g.c0
       have av:=t.o.l.g.c1
       have aT:=t.o.l.g.c2
       have dv:V (∀aq,Kept 0 0 ci aq->Calls prog 129 #[eX R Y aX (some ⟨b5,0,none⟩) y.1.length bi U aa ab,ih i,ih k,ih d] aq λe bz=>∃(C:List Vl) (r:Int) (ba:Option Addr) (bh:Nat) (cB:Option Nat),e=.returned (.tuple #[eX R Y aX ba C.length bh U aa ab,ih r,.bool (oY v k)])/\(∀I o,I<aq.heap.size->I≠b5->bz.cell? ⟨I,o,none⟩=aq.cell? ⟨I,o,none⟩)/\(∀I o,I<aq.heap.size->I≠b5->bz.frozen? ⟨I,o,none⟩=aq.frozen? ⟨I,o,none⟩)/\aq.heap.size<=bz.heap.size/\V (C=y.1++(ptM (i:Int) v (laM vs i) k d y.1.length).1/\r=(ptM (i:Int) v (laM vs i) k d y.1.length).2)/\
         V (∀(l h':Nat) (ch:World),Kept l h' bz ch->ci.heap.size<=l->(h'<=aq.heap.size\/bz.heap.size<=l)->(b5<l\/h'<=b5)->LG w (fk ch w.heap.size (.slice R Y aX) (.slice ba C.length bh) (.slice U aa ab)) ay A R Y aX U aa ab ins outs C (y.2.take (s+1)) act base cB ba bh)):=λaq al=>by
        refine(Oq aq R U Y aX bi aa ab base b5 i y.1 v (laM vs i) k d (t.o.keep al).l.g.own (t.o.keep al).l.g.sz cH.1 d0 (gd.o.keep (eF t.o.l.g.own (k:=b5) rfl).2 al yaa) d6 cJ (λhm=>by
         obtain⟨ga,B,N,h3,_⟩:=OZ (jn bb.o cV.o) i (jn bb.o ah) (jv b2.o hm)
         exact⟨_,jn b2.o B,jj cH.2 bb.o,by rw[(Pre.at_ bc.o N).1];exact h3⟩)).mono ?_
        rintro e bz ⟨ba,bh,cB,rfl,e0,e1,d4⟩
        have hn:∀I,I≠b5->¬((λ_=>False) I\/some b5=some I):=λI aZ=>by rintro (c|c);exact c;cases c;exact aZ rfl
        refine⟨_,_,_,_,cB,rfl,λI o aZ az=>d4.chg.cell aZ (hn I az),λI o aZ az=>d4.chg.frozen aZ (hn I az),d4.chg.size,⟨rfl,rfl⟩,λl h' ch b6 ag bN cr=>?_⟩
        have bE:=t.o.l.step al e0 e1 d4 b6 ag (λg az=>by
         rcases d4.row with c|⟨r,c,au⟩
         ·rw[c]at az;cases az;exact cr
         ·rw[c]at az;cases az
          have:=(eF e0 (e1.trans c)).2
          omega)
        exact t.o.stq bE.1 bE.2
       have b:V (w.heap.size<ci.heap.size/\ay<ci.heap.size/\w.heap.size≠b5/\ay≠b5/\b5<ci.heap.size):=⟨t.o.l.g.lt,IR.lt t.o.m,λc=>t.o.l.g.ne (by rw[c]),λc=>t.o.fm.r (by rw[c]),(eF t.o.l.g.own rfl).2⟩
       have eq:=t.o.l.g.free
       clear hb gd t
       go_upto_region 22 with fail
       clear an gb
       go_cut [15,16,17] (λex gR ec cq=>∃(X:Nat) (C:List Vl) (r:Int) (ba:Option Addr) (bh:Nat) (cB:Option Nat),ex=ge X/\gR=ih r/\ec=.bool (oY v k)/\V (C=y.1++(ptM (i:Int) v (laM vs i) k d y.1.length).1/\r=(ptM (i:Int) v (laM vs i) k d y.1.length).2)/\V (RB cq X (.slice R Y aX) (.slice ba C.length bh) (.slice U aa ab)/\((∃u,cq.cell? ⟨w.heap.size,0,none⟩=some u)/\(∃u,cq.cell? ⟨w.heap.size,1,none⟩=some u)/\(∃u,cq.cell? ⟨w.heap.size,2,none⟩=some u))/\(∀o,cq.frozen? ⟨w.heap.size,o,none⟩=false))/\V (LG w (fk cq w.heap.size (.slice R Y aX) (.slice ba C.length bh) (.slice U aa ab)) ay A R Y aX U aa ab ins outs C (y.2.take (s+1)) act base cB ba bh))
       case first=>
        have c8:w.heap.size≠ci.heap.size:=i4 b.o
        have gs:ay≠ci.heap.size:=i4 b.o
        have b4:V (∀I o,I<ci.heap.size->(ci.alloc _).drew.cell? ⟨I,o,none⟩=ci.cell? _):=λI o aZ=>(eA 0 0 _ fO).cell aZ xaa
        go_region_held3 (λW:World=>W.cell? ⟨w.heap.size,0,none⟩=some (.slice R Y aX)/\W.cell? ⟨w.heap.size,1,none⟩=some (ia b5 y.1.length bi)/\W.cell? ⟨w.heap.size,2,none⟩=some (.slice U aa ab)/\W.cell? ⟨ay,i,none⟩=some (ih d)) (first|go_keep|(simp only[lN _ _ _ _ _ _ _ c8,lN _ _ _ _ _ _ _ gs];exact⟨bK,a1,K,a3⟩)) (first
         |(go_at_call 129;refine yaj (dv.o _ ((eA 0 0 _ _).trans (eD _))) ?_;rintro e bz ⟨C,r,ba,bh,cB,rfl,cl,cQ,cW,cT,ad⟩;have bK:=(cl _ 0 (by have:=b.o;simp;omega) b.o.2.2.1).trans ((b4.o _ 0 b.o.1).trans a0);have a1:=(cl _ 1 (by have:=b.o;simp;omega) b.o.2.2.1).trans ((b4.o _ 1 b.o.1).trans av);have K:=(cl _ 2 (by have:=b.o;simp;omega) b.o.2.2.1).trans ((b4.o _ 2 b.o.1).trans aT);have a3:=(cl _ i (by have:=b.o;simp;omega) b.o.2.2.2.1).trans ((b4.o _ i b.o.2.1).trans bw);have cP:V _:=cQ;have bX:=cl ci.heap.size 0 xac (i4 b.o);have aV:=cl ci.heap.size 1 xac (i4 b.o);have bg:=cl ci.heap.size 2 xac (i4 b.o);have ek:=cQ ci.heap.size 0 xac (i4 b.o);have el:=cQ ci.heap.size 1 xac (i4 b.o);have en:=cQ ci.heap.size 2 xac (i4 b.o);have eb:V _:=cW;clear cl cQ cW)
         |(go_at_call 129;refine yaj (dv.o _ (eD _)) ?_;rintro e bz ⟨C,r,ba,bh,cB,rfl,cl,cQ,cW,cT,ad⟩;have bK:=(cl _ 0 b.o.1 b.o.2.2.1).trans a0;have a1:=(cl _ 1 b.o.1 b.o.2.2.1).trans av;have K:=(cl _ 2 b.o.1 b.o.2.2.1).trans aT;have a3:=(cl _ i b.o.2.1 b.o.2.2.2.1).trans bw;have cP:V _:=cQ;have cf:w.heap.size≠bz.heap.size:=(by have:=b.o;have:ci.heap.size<=bz.heap.size:=cW;omega);have cz:ay≠bz.heap.size:=(by have:=b.o;have:ci.heap.size<=bz.heap.size:=cW;omega);have eb:V _:=cW;clear cl cQ cW))
        ·have d3:ci.heap.size<=bz.heap.size:=eb.o
         have bj:=eA 0 0 bz (.cells #[.slice R Y aX,.slice ba C.length bh,.slice U aa ab] 73)
         have cX:w.heap.size<bz.heap.size:=i4 b.o
         have R2:V (RB (bz.alloc (.cells #[.slice R Y aX,.slice ba C.length bh,.slice U aa ab] 73)) bz.heap.size (.slice R Y aX) (.slice ba C.length bh) (.slice U aa ab)/\((∃u,(bz.alloc _).cell? _=some u)/\(∃u,(bz.alloc _).cell? _=some u)/\(∃u,(bz.alloc _).cell? _=some u))/\(∀o,(bz.alloc _).frozen? _=false)):=
          ⟨⟨by simp,by simp,by simp,by simp,by simp,by simp,by simp⟩,⟨⟨_,(bj.cell cX xaa).trans bK⟩,⟨_,(bj.cell cX xaa).trans a1⟩,⟨_,(bj.cell cX xaa).trans K⟩⟩,λo=>(bj.frozen cX xaa).trans ((cP.o _ o b.o.1 b.o.2.2.1).trans (eq o))⟩
         have R3:V _:=ad.o _ bz.heap.size _ (eA _ _ _ (.cells #[.slice R Y aX,.slice ba C.length bh,.slice U aa ab] 73)) d3 yab (.inl (i4 b.o))
         exact xjj
        ·have d3:=yao (eA 0 0 _ _).size eb.o
         have aS:=fy bz ci.heap.size (.slice R Y aX) (.slice ba C.length bh) (.slice U aa ab)
         have cX:w.heap.size<bz.heap.size:=i4 b.o
         have eR:ci.heap.size<bz.heap.size:=yak xac eb.o
         have fq:bz.cell? _=some (.slice none 0 0):=bX.trans xac
         have fs:bz.cell? _=some (.slice none 0 0):=aV.trans xac
         have ej:bz.cell? _=some (.slice none 0 0):=bg.trans xac
         obtain⟨a8,aJ,aP⟩:=fd _ _ _ _ _ fq fs ej (.slice R Y aX) (.slice ba C.length bh) (.slice U aa ab)
         have ee:∀o,bz.frozen? _=false:=λo=>(cP.o ci.heap.size o xac (i4 b.o)).trans xac
         have bp:∀o,_:=λo=>(cP.o _ o (by have:=b.o;simp;omega) b.o.2.2.1).trans (((eA 0 0 _ _).frozen b.o.1 xaa).trans (eq o))
         have R2:V (RB _ _ _ _ _/\((∃u,(((bz.setCell _ (.slice R Y aX)).setCell _ (.slice ba C.length bh)).setCell _ (.slice U aa ab)).cell? _=some u)/\(∃u,(((bz.setCell _ (.slice R Y aX)).setCell _ (.slice ba C.length bh)).setCell _ (.slice U aa ab)).cell? _=some u)/\(∃u,(((bz.setCell _ (.slice R Y aX)).setCell _ (.slice ba C.length bh)).setCell _ (.slice U aa ab)).cell? _=some u))/\(∀o,(((bz.setCell ⟨ci.heap.size,0,none⟩ (.slice R Y aX)).setCell ⟨ci.heap.size,1,none⟩ (.slice ba C.length bh)).setCell ⟨ci.heap.size,2,none⟩ (.slice U aa ab)).frozen? ⟨w.heap.size,o,none⟩=false)):=
          ⟨⟨yak eR aS.size,a8,aJ,aP,by simp[ee 0],by simp[ee 1],by simp[ee 2]⟩,⟨⟨_,(lN _ _ _ _ _ _ _ c8).trans bK⟩,⟨_,(lN _ _ _ _ _ _ _ c8).trans a1⟩,⟨_,(lN _ _ _ _ _ _ _ c8).trans K⟩⟩,λo=>by simp[bp o]⟩
         have R3:V _:=ad.o _ _ _ aS yad (.inl xac) (.inl b.o.2.2.2.2)
         clear aS fq fs ej ee bp a8 aJ aP bX aV bg ek el en
         exact xjj
       case rest=>
        clear a0 av aT bw dv eq
        obtain⟨X,C,r,ba,bh,cB,rfl,rfl,rfl,cT,bU,ad⟩:=hcut
        obtain⟨⟨_,bm,aW,bd,bC,bH,bJ⟩,⟨⟨_,bG⟩,⟨_,bn⟩,⟨_,p2⟩⟩,bp⟩:=bU.o
        have gC:=bp 0
        have gE:=bp 1
        have gP:=bp 2
        clear bp bU
        go_upto_region 24 with fail
        clear bm aW bd bC bH bJ bG bn p2 gC gE gP
        unfold fk at ad
        generalize ((wc.setCell _ _).setCell ⟨_,1,_⟩ _).setCell _ _=di at ad⊢
        cases bA:oY v k
        ·have R3:V (∃H K cap,LG w _ _ A _ _ _ _ _ _ _ _ (jM _ _ i _ _).1 ((jM _ _ i _ _).2.take _) _ _ H K cap):=⟨_,_,_,by
          have e:C=y.1:=by rw[cT.o.1];unfold ptM;rw[ip (by rw[bA];simp)];simp
          rw[fM.o,gg.o,ip (by rw[bA];simp),<-e]
          exact ad.o⟩
         clear ad cT bA
         exact xeu
        ·have d9:C=y.1++(mX i v (laM vs i) k d y.1.length).1/\r=(mX i v (laM vs i) k d y.1.length).2:=by
          have e:=cT.o
          unfold ptM at e
          rw[iv bA]at e
          exact e
         have gp:V (jM vs act i st (k+1)=mn vs o r (C,y.2)):=by
          show _=_
          rw[fM.o,gg.o,iv bA,d9.1,d9.2]
         have f5:o<vs.length:=i4 bb.o
         have ha:C.length<=810000/\o<C.length/\(C.getD o i0).len=(vs.getD o i0).len:=by
          have d8:=yJ i v (laM _ i) k d y.1.length (by rw[b2.o];exact(qQ (jn bb.o ep.o) i).1) (by rw[b2.o];exact(qQ (jn bb.o ep.o) i).2) (qQ (jn bb.o ep.o) _).1 (qQ (jn bb.o ep.o) _).2
          have fm:Pre vs C:=by rw[d9.1];exact Pre.app bc.o
          refine⟨?_,(Pre.at_ fm f5).2,by rw[(Pre.at_ fm f5).1]⟩
          rw[d9.1,yal]
          have:=d8.1
          omega
         obtain⟨ha,hq,d1⟩:=ha
         have eS:(y.2.take (s+1)).length=s+1:=by rw[List.length_take,dl.o];omega
         have e2:=IR.cell ad.o.m o (jx eS)
         rw[mJ xaa]at e2
         have he:=IR.free ad.o.m o
         have bQ:V _:=(hk.o o xaa).imp (λc=>c) (λc=>c.1)
         have fP:V ((y.2.take (s+1)).getD o 0=y.2.getD o 0):=mJ xaa
         clear cT d9 f5 bA
         by_cases am:y.2.getD o 0=-1
         ·rw[am]at e2
          have R3:V (∃H K cap,LG w _ _ A _ _ _ _ _ _ _ _ (jM _ _ i _ _).1 ((jM _ _ i _ _).2.take _) _ _ H K cap):=⟨_,_,_,by
           have h:=ad.o.set o r
           rw[gp.o]
           unfold mn
           rw[iv am]
           rw[qS]at h
           exact h⟩
          clear ad am bQ fP
          exact xeu
         ·have gf:V (jM vs act i st (k+1)=(C++[eK 2 (vs.getD o i0).len (y.2.getD o 0) r 0],y.2.set o (C.length:Nat))):=by
           show _=_
           rw[gp.o]
           unfold mn
           rw[ip am]
          have fG:¬(y.2.getD o 0<0):=by rcases bQ.o with c|c;exact absurd c am;omega
          generalize y.2.getD o 0=q at e2 fG gf fP
          obtain⟨hv,rfl,rfl,_,_⟩:=ad.o.l.read xaa
          clear am bQ gp gg fu
          go_upto_region 27 with fail
          clear e2 he
          refine fo (Nt ad xaa hq xaa eS d1 fP.o ?_)
          intro hu aI cap' _ _ _ _ _ _ _ _ _ _ _ _ _ _ aO
          unfold ge
          have g8:(C++[eK 2 (vs.getD o i0).len q r 0]).length=C.length+1:=by simp
          generalize C++[eK 2 _ q r 0]=gT at aO gf g8
          have a0:=aO.o.l.g.c0
          have av:=aO.o.l.g.c1
          have aT:=aO.o.l.g.c2
          have be:V _:=λW=>iV W R (some ⟨aI,0,none⟩) U Y aX _ cap' aa ab (show gT.length<=1000000 by omega)
          rw[show(gT.length:Int)-1=(C.length:Nat) by omega]at be
          clear ad g8 fP fG
          go_wp2_with fail
          refine yaj (be.o _) ?_
          rintro e hy ⟨rfl,hd⟩
          have cA:V _:=aO.o.keep hd
          have e2:=IR.cell cA.o.m o (jx eS)
          have he:=IR.free cA.o.m o
          generalize (y.2.take _).getD o 0=hz at e2
          have R3:V (∃H K cap,LG w _ _ A _ _ _ _ _ _ _ _ (jM _ _ i _ _).1 ((jM _ _ i _ _).2.take _) _ _ H K cap):=⟨_,_,_,by
           have h:=cA.o.set o ((C.length:Nat):Int)
           rw[gf.o]
           rw[qS]at h
           exact h⟩
          clear aO cA be a0 av aT hd
          exact xeu
     ·have bO:¬(k<(cnt v.op:Int)):=xaa
      have d5:k=cnt v.op:=xaa
      have R2:V (∃H K cap,LG w _ _ A _ _ _ _ _ _ _ _ (gdn _ _ s _).1 ((gdn _ _ s _).2.take _) _ _ H K cap):=⟨_,_,_,by rw[g1.o d5];exact aG.o⟩
      clear d5 aG bP
      exact xee
   have Q:¬((x:Int)<i):=xaa
   have bS:j=s-x:=xaa
   subst bS
   have bw:=IR.cell m.m x (by rw[List.length_take,b1.l];omega)
   rw[mJ xaa]at bw
   have d7:=b1.i x aH
   have f7:=b1.z.1
   have hr:(gdn vs act s (s-x)).1.length<=800000:=xaa
   have eT:0<(gdn vs act s (s-x)).1.length:=by
    obtain⟨r,e⟩:=b1.p
    rw[e,yal,bb.o]
    omega
   have ez:V (grM vs s x=if (gdn vs act s (s-x)).2.getD x 0=-1 then ((gdn vs act s (s-x)).1++[eK 1 dg 0 0 0],(((gdn vs act s (s-x)).1.length:Nat):Int))else ((gdn vs act s (s-x)).1,(gdn vs act s (s-x)).2.getD x 0)):=by
    show _=_
    rw[bD.o,<-gr.o]
    rfl
   obtain⟨b5,rfl,rfl,_,_⟩:=m.l.read eT
   have HL:V _:=m.l
   have hf:V (ay≠w.heap.size+1/\ay≠w.heap.size):=⟨i4 m.fm.p,i4 m.fm.p⟩
   have cO:(x:Int)<s+1:=xaa
   generalize (gdn _ _ s _).2.getD x 0=mm at bw d7 ez
   clear b1 m f7 bD
   generalize (gdn _ _ s _).1=us at HL ez hr eT
   have a0:=HL.o.g.c0
   have av:=HL.o.g.c1
   have aT:=HL.o.g.c2
   obtain⟨_,bm,aW,bd,bC,bH,bJ⟩:=HL.o.b
   by_cases am:mm=-1
   ·subst am
    have cG:V (grM vs s x=(us++[eK 1 dg 0 0 0],(us.length:Int))):=by
     show _=_
     rw[ez.o,iv rfl]
    clear ez d7 bm aW bd bC bH bJ
    go_upto_region 30 with fail
    clear bw
    go_cut [] (λcq=>∃aI cap',V (LK w cq R Y aX U aa ab ins outs (us++[eK 1 dg 0 0 0]) base (some aI) (some ⟨aI,0,none⟩) cap'))
    case first=>
     go_region_with (first
      |(go_at_call 59;refine yaj (LK.call HL.o ((eD _).trans ap) _ xaa) ?_;rintro e ak ⟨aI,cap',rfl,⟨_,bo⟩,⟨_,ar⟩,⟨_,aQ⟩,aj,b0⟩;have bR:=aj 0;have bV:=aj 1;have bW:=aj 2;have cu:V _:=b0.o.1;clear aj b0)
      |(go_at_call 83;refine yaj (oJ _ _) ?_;rintro e aK ⟨rfl,ap⟩;have bG:=(LK.keep HL.o ((eD _).trans ap)).g.c0;have bn:=(LK.keep HL.o ((eD _).trans ap)).g.c1;have p2:=(LK.keep HL.o ((eD _).trans ap)).g.c2))
     all_goals (go_wp2_with fail;go_meet;exact⟨_,_,cu⟩)
    case rest=>
     obtain⟨aI,cap',b0⟩:=hcut
     have cp:(us++[eK 1 dg 0 0 0]).length=us.length+1:=by simp
     generalize G:us++[eK 1 _ 0 0 0]=C at b0 cG cp
     clear a0 av aT G HL
     have a0:=b0.o.g.c0
     have av:=b0.o.g.c1
     have aT:=b0.o.g.c2
     obtain⟨_,bm,aW,bd,bC,bH,bJ⟩:=b0.o.b
     have be:V _:=λW=>iV W R (some ⟨aI,0,none⟩) U Y aX _ cap' aa ab (show C.length<=1000000 by have:=cp;omega)
     rw[show(C.length:Int)-1=(us.length:Nat) by omega]at be
     clear cp
     go_wp2_with fail
     go_region_with (first
      |(go_at_call 66;refine yaj (be.o _) ?_;rintro e aM ⟨rfl,a9⟩;clear bm aW bd bC bH bJ;have aU:=(b0.o.keep ((eD _).trans a9)).g.c0;have ax:=(b0.o.keep ((eD _).trans a9)).g.c1;have aF:=(b0.o.keep ((eD _).trans a9)).g.c2;obtain⟨_,bm,aW,bd,bC,bH,bJ⟩:=(b0.o.keep ((eD _).trans a9)).b))
     all_goals
      have ea:V _:=b0.o.a4
      have R1:V _:=b0.o.fin ((eD _).trans a9)
      obtain⟨a8,aJ,aP⟩:=fd _ _ _ _ _ bm aW bd (.slice R Y aX) (ia aI C.length cap') (.slice U aa ab)
      go_wp2_with fail
      refine yaz (v:=.tuple #[eX R Y aX (some ⟨aI,0,none⟩) C.length cap' U aa ab,ih us.length]) (by simp[results,results124,go_sem,a8,aJ,aP]) rfl ⟨?_,R1.o.2⟩
      rw[cG.o]
      exact⟨_,_,_,_,_,_,rfl,R1.o.1.1,R1.o.1.2.1,R1.o.1.2.2,ea.o⟩
   have cG:V (grM vs s x=(us,mm)):=by
    show _=_
    rw[ez.o,ip am]
   have hx:¬(mm<0):=by rcases d7 with c|c;exact absurd c am;omega
   obtain⟨a8,aJ,aP⟩:=fd _ _ _ _ _ bm aW bd (.slice R Y aX) (ia b5 us.length eP) (.slice U aa ab)
   have gu:w.heap.size≠w.heap.size+1:=xaa
   have ff:=hf.o.1
   have ho:=Ne.symm ff
   have cc:V (∀X cC b8:Value,(((wr.setCell _ X).setCell _ cC).setCell _ b8).drew.cell? _=some _):=λX cC b8=>(lN _ _ _ _ X cC b8 ff).trans bw
   exact qfz):Zp:=h
theorem u.qga(h:Zp:=by
 clear ez d7 am;go_upto_region 32 with fail;go_region_held3 (λW:World=>W.cell? ⟨w.heap.size,0,none⟩=some (.slice R Y aX)/\W.cell? ⟨w.heap.size,1,none⟩=some (ia b5 us.length eP)/\W.cell? ⟨w.heap.size,2,none⟩=some (.slice U aa ab)/\W.cell? ⟨ay,x,none⟩=some (ih mm)) (first|go_keep|(exact⟨(da.o _ _ _ _).trans a0,(da.o _ _ _ _).trans av,(da.o _ _ _ _).trans aT,cc.o _ _ _⟩)) (fail)
 all_goals
  go_wp2_with fail
  refine yaz (v:=.tuple #[eX R Y aX (some ⟨b5,0,none⟩) us.length eP U aa ab,ih mm]) (by simp[results,results124,go_sem,a8,aJ,aP]) rfl ⟨?_,R1.o.2⟩
  rw[cG.o]
  exact⟨_,_,_,_,_,_,rfl,R1.o.1.1,R1.o.1.2.1,R1.o.1.2.2,ea.o⟩):Zp:=h
open u in
theorem zZ(w F P a2 Y c1 ae c2 aa c3 s x ins vs outs)(f:GS w F Y (some ⟨a2,0,none⟩) ae P aa ins vs outs)(dc:VA w a2 ae vs)(cj:Y<=1000000)(cw:ae<=2000)(cK:aa<=1000000)(af:(List.range ae).all (okV ins vs)=true)(c7:eY vs<=50000)(aw:s<ae)(aH:x<ae)(aB:(jg vs x (s-x)).getD s false=true):
  Calls prog 124 #[eX F Y c1 (some ⟨a2,0,none⟩) ae c2 P aa c3,ih s,ih x] w λe O=>uW w O Y aa ins outs (grM vs s x) e/\Kept 0 0 w O:=by
 have bD:V (grM vs s x=ML vs x (gdn vs (jg vs x (s-x)) s (s-x))):=by
  show _=_;unfold grM Fi;rw[iv aB,tF _ _ _ _ _ yad]
 have gA:¬s<x:=λc=>by
  rw[show s-x=0 by omega,jg,se xaa,yai,List.getElem?_replicate]at aB
  split at aB<;>simp at aB
 exact qdm
