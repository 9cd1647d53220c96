import Derived.Test.YtbhmhdllnfkjhaaGreatP39
import Derived.Test.YtbhmhdllnfkjhaaGreatP23
namespace Go.Proofs.Z
variable{Zp:Prop}
open Tryz
set_option maxRecDepth 1000000
set_option maxHeartbeats 0
open Go.RowKit Flt
attribute[local go_sem] eG eE eD
theorem u.qaf(h:Zp:=by
 exact qea):Zp:=h
theorem u.qeb(h:Zp:=by
 have bF:¬((s:Int)<x):=xaa;go_upto_region 7 with fail;clear a8 aV p2 bG f1 f2 Q;generalize ((ag.setCell _ _).setCell _ _).setCell _ _=di at HL bn⊢;rw[<-b6.o]at HL e7;generalize (Value.slice Y _ _).ownBlock=eb at HL e7;have g1:V _:=Cg b6.o ar b7.o (rF (hO b6.o ea.o)) F (λi hi q am=>hM (er.o i hi q am));have bK:V ((jA vs x (s-x)).length=T):=by show _=_;rw[oN,b6.o]
 generalize jA _ x _=act at bn aX g1 bK F;clear F;have aq:=rx (s+1) di xaa;rw[show(s+1:Nat)=(s:Int)+1 from rfl]at aq;have hy:IntKind.i64.wrap (s+1)=s+1:=by rw[IntKind.wrap_i64];omega
 have hx:(0:Int)<=s+1:=xaa
 have cV:V (LG w (di.alloc (.cells (madeCells #[hD 0] (s+1)) 3)) di.heap.size A O n1 d1 Z n3 d3 ins outs vs (lK 0 (s+1)) act aO.heap.size eb Y d2):=by
  have bx:=ez 0 0 di (.cells (madeCells #[hD 0] (s+1)) 3);have e:lK 0 (s+1)=List.replicate (s+1) 0:=by simp[lK]
  rw[e];exact⟨HL.o.keep bx,IR.made di _,BR.keep bn.o bx yaa,HL.o.far yad,e7.o,hM (BR.lt bn.o)⟩
 generalize di.alloc _=a7 at aq cV;generalize di.heap.size=aI at aq cV;clear HL bn e7;go_wp2_with fail;clear aq;generalize aO.heap.size=base at cV cB;go_loopw [11] (λv W=>∃k:Nat,k<=s+1/\v=hD k/\V (LG w W aI A O n1 d1 Z n3 d3 ins outs vs (lK k (s+1)) act base eb Y d2)) (λv _=>s+1-(intOf v).toNat)
 case atStart=>exact⟨0,yae,rfl,cV⟩
 case round=>
  obtain⟨k,N,rfl,ax⟩:=hrel
  clear cV
  by_cases aC:k<s+1
  ·have c1:=IR.cell ax.o.m k (by rw[vn k _ N];exact aC)
   have c2:=IR.free ax.o.m k
   have R1:V (LG w (wr.setCell ⟨aI,k,none⟩ (hD (-1))) aI A O n1 d1 Z n3 d3 ins outs vs (lK (k+1) (s+1)) act base eb Y d2):=by
    have:=ax.o.set k (-1)
    rw[vq aC]at this
    exact this
   clear ax
   generalize (lK k _).getD k 0=z at c1
   have an:(0:Int)<=k:=xaa
   have aj:(k:Int)<s+1:=xaa
   have ah:(k:Int)<=s:=xaa
   exact xhn
  obtain rfl:k=s+1:=xaa
  have dg:=ax.o
  rw[vp]at dg
  have e8:V _:=dg
  have aT:=dg.l.g.c0
  have ao:=dg.l.g.c1
  have aG:=dg.l.g.c2
  have ah:¬((s+1:Nat)<=(s:Int)):=xaa
  have bc:vs.length<=1000000:=hM b6.o
  clear ax dg
  go_wp2_with fail
  refine yaj (LK.call e8.o.l hL ⟨1,1,0,0,0,_⟩ bc) ?_
  rintro e bj ⟨aB,cap',rfl,⟨_,bm⟩,⟨_,ay⟩,⟨_,aW⟩,ae,a0⟩
  have bv:=ae 0
  have bA:=ae 1
  have bM:=ae 2
  have bJ:V (LG w _ _ A _ _ _ _ _ _ _ _ (xF _ s).1 _ _ _ _ _ _):=e8.o.stq a0.o.1 a0.o.2
  clear ae a0 e8 aT ao aG
  unfold fw at bJ
  have aK:V _:=λW=>jf W O (some ⟨aB,0,none⟩) Z n1 d1 _ cap' n3 d3 (show vs.length+1<=1000000 by have:=b6.o;omega)
  rw[show(vs.length+1:Nat)-1=(vs.length:Int) by omega]at aK
  go_upto_region 13 with fail
  generalize ((bj.setCell _ _).setCell ⟨_,1,_⟩ _).setCell _ _=br at bJ⊢
  clear bm ay aW bv bA bM
  have aT:=bJ.o.l.g.c0
  have ao:=bJ.o.l.g.c1
  rw[show(xF _ s).1.length=vs.length+1 by simp[xF]]at ao
  have aG:=bJ.o.l.g.c2
  go_wp2_with fail
  refine yaj (aK.o _) ?_
  rintro e cq ⟨rfl,cc⟩
  have C:V _:=bJ.o.keep cc
  have c1:=IR.cell C.o.m s xac
  have c2:=IR.free C.o.m s
  generalize (List.replicate _ (-1:Int)).getD s 0=z at c1
  have ep:V (∃U Y cap,LG w _ _ A _ _ _ _ _ _ _ _ (gdn _ act s 0).1 ((gdn _ act s 0).2.take _) _ _ U Y cap):=⟨_,_,_,by
   have:=C.o.set s ((vs.length:Nat):Int)
   rw[D4 vs s (hO b6.o ar)]at this
   exact this⟩
  clear bJ C aK aT ao aG cc
  have bU:(s:Int)<s+1:=xaa
  go_wp2_with fail
  clear c1 c2
  generalize cq.setCell ⟨_,s,_⟩ _=ci at ep⊢
  go_loopw [12] (λv W=>∃(i j:Nat),v=hD i/\i+j=s/\j<=s-x/\V (∃U Y cap,LG w W aI A O n1 d1 Z n3 d3 ins outs (gdn vs act s j).1 ((gdn vs act s j).2.take (s+1)) act base U Y cap)) (λv _=>(intOf v).toNat)
  case atStart=>exact⟨s,0,rfl,rfl,yae,ep⟩
  case round=>
   obtain⟨i,j,rfl,f5,hj,ax⟩:=hrel
   clear ep
   obtain⟨U,a4,fl,ax⟩:=ax.o
   have a6:=g1.o j xaa
   by_cases aC:j<s-x
   ·have hm:(x:Int)<i:=xaa
    have bi:i<T:=xaa
    have gv:i<=s:=xaa
    have b3:(0:Int)<=i:=xaa
    have b0:(i:Int)<T:=xaa
    have et:(i:Int)<s+1:=xaa
    have bg:V (gdn vs act s (j+1)=giM vs act i (gdn vs act s j)):=by
     show _=_
     rw[gdn,show s-j=i by omega]
    have ho:IntKind.i64.wrap (i-1)=i-1:=by rw[IntKind.wrap_i64];omega
    have fM:V (i+j=s/\j<s-x):=⟨f5,aC⟩
    have cW:V (2001+12*j<=700000/\51000+12000*(j:Int)<=700000000):=by constructor<;>omega
    obtain⟨v,aD⟩:∃v,v=vs.getD i hI:=⟨_,rfl⟩
    have bL:V _:=aD
    have cI:=cC.o i bi
    have ee:=er.o i bi
    rw[<-aD]at cI ee
    have e9:V _:=ee
    have ca:V _:=B4 _ cI.1 cI.2
    generalize gdn _ _ s j=st at ax a6 bg
    generalize 2001+12*j=gp at a6 cW
    generalize 51000+12000*(j:Int)=g0 at a6 cW
    clear aD ee f5 aC hj
    have bW:V _:=a6
    have fP:V _:=ax
    have cK:i<st.1.length:=by have:=(a6.p.at_ (show i<vs.length by rw[b6.o];exact bi)).2;exact this
    have eC:st.1.getD i hI=v:=by rw[bL.o];exact(a6.p.at_ (show i<vs.length by rw[b6.o];exact bi)).1
    have cT:=f9 v.op
    obtain⟨bp,rfl,rfl,_,_⟩:=ax.l.read xaa
    have hs:i<(st.1.length:Int):=xaa
    clear a6 ax
    by_cases G:st.2.getD i 0=-1
    ·
     have g7:giM vs act i st=st:=by unfold giM;rw[hG G]
     have R1:V (∀W,LG w W aI A _ n1 d1 Z n3 d3 _ outs _ _ _ _ (some bp) (some ⟨bp,0,none⟩) fl->∃U Y cap,LG w W _ A O _ _ _ _ _ ins _ (gdn _ _ s _).1 ((gdn _ _ s _).2.take (s+1)) act base U Y cap):=λW h=>⟨_,_,_,by rw[bg.o,g7];exact h⟩
     clear g7
     go_wp2_with fail
     go_loopw [13] (λu W=>∃k:Nat,k<=cnt v.op/\u=hD k/\V (LG w W aI A O n1 d1 Z n3 d3 ins outs st.1 (st.2.take (s+1)) act base (some bp) (some ⟨bp,0,none⟩) fl)) (λu _=>cnt v.op-(intOf u).toNat)
     case atStart=>exact⟨0,yae,rfl,fP⟩
     case round=>
      obtain⟨k,N,rfl,aZ⟩:=hrel
      clear fP
      have aM:=aZ.o.l.g.c1
      obtain⟨cf,d0,_,_,aU⟩:=aZ.o.l.read xaa
      cases d0
      have be:=aU i cK
      rw[eC]at be
      obtain⟨bC,aN,a2,bk,bq,co⟩:=be
      clear aU
      by_cases cA:k<cnt v.op
      ·obtain⟨o,al,gx⟩:∃o:Nat,fld v k=o/\o<i:=by
        exact xjt
       have c7:V (∀W,Calls _ _ _ W λe I=>e=.returned (.int _ o)/\Kept 0 0 W _):=λW=>by rw[<-al];exact lW W v k xaa
       have b2:k<(cnt v.op:Int):=xaa
       have fs:IntKind.i64.wrap (k+1)=k+1:=by rw[IntKind.wrap_i64];omega
       clear al
       go_wp2_with (first|(go_at_call 48;refine yaj (ca.o _) ?_;rintro e cq ⟨rfl,rfl⟩)|fail)
       refine yaj (c7.o _) ?_
       rintro e ci ⟨rfl,bU⟩
       have p:V _:=aZ.o.keep bU
       have Q:=BR.cell p.o.a i (hO bK.o bi)
       have aw:=IR.cell p.o.m i (by rw[List.length_take,bW.o.l];omega)
       rw[m7 gv,G]at aw
       clear aM bC aN a2 bk bq co bU c7 aZ
       cases hb:act.getD i false
       all_goals
        rw[hb]at Q
        clear hb
        go_wp2_with fail
        clear Q aw
        go_roundw;exact⟨k+1,by omega,by go_num,p⟩;simp[intOf];omega
      ·have b2:¬(k<(cnt v.op:Int)):=xaa
       have R2:V _:=R1.o _ aZ.o
       clear aZ
       exact xea
    
    have hd0:0<=st.2.getD i 0:=by rcases bW.o.i i bi with c|c;exact absurd c G;exact c.1
    have g5:act.getD i false=true:=by rcases bW.o.i i bi with c|c;exact absurd c G;exact c.2
    have eo:V (giM vs act i st=jY vs act i st (cnt v.op)):=by
     show _=_
     unfold giM
     rw[hF G,<-bL.o]
    have g3:V (∀q,q<cnt _->(fld (vs.getD i _) q).toNat≠i):=λq am=>by rw[<-bL.o];have:=e9.o q am;omega
    have g4:V (∃U Y cap,LG w _ _ A _ _ _ _ _ _ _ _ (jY vs act i _ 0).1 ((jY vs act i _ 0).2.take _) _ _ U Y cap):=⟨_,_,_,fP.o⟩
    have cy:V _:=hd0
    have hg:V _:=g5
    clear G hd0 g5 fP cK eC
    go_wp2_with fail
    go_loopw [13] (λu W=>∃k:Nat,k<=cnt v.op/\u=hD k/\V (∃U Y cap,LG w W aI A O n1 d1 Z n3 d3 ins outs (jY vs act i st k).1 ((jY vs act i st k).2.take (s+1)) act base U Y cap)) (λu _=>cnt v.op-(intOf u).toNat)
    case atStart=>exact⟨0,yae,rfl,g4⟩
    case round=>
     obtain⟨k,N,rfl,aZ⟩:=hrel
     clear g4
     obtain⟨U,bR,bT,aZ⟩:=aZ.o
     have S:Pre _ (jY _ act i _ k).1:=ug bW.o.p k
     have gA:=xE (rF (hO b6.o ea.o)) (act:=act) (i:=i) bW.o.z k
     have gs:=uq bW.o.i bW.o.l cy.o k (λq am=>g3.o q xaa)
     have cx:(jY vs act i st k).2.length=T:=by rw[qT];exact bW.o.l
     have g6:0<=(jY vs act i st k).2.getD i 0:=by rw[uo k (λq am=>g3.o q xaa)];exact cy.o
     have fT:V (jY vs act i st (k+1)=gkM _ _ i k _):=rfl
     have g2:V (k=cnt _->gdn _ _ s _=jY _ _ i _ k):=λe=>by rw[bg.o,eo.o,e]
     generalize jY _ _ i _ k=y at aZ S gA gs cx g6 fT g2
     have cu:i<vs.length:=hO b6.o bi
     have cK:=(S.at_ cu).2
     have eC:y.1.getD i hI=v:=by rw[bL.o];exact(S.at_ cu).1
     obtain⟨bp,rfl,rfl,bQ,aU⟩:=aZ.l.read xaa
     have ba:y.1.length<=800000/\T<=y.1.length:=⟨hN gA.1 cW.o,by obtain⟨r,e⟩:=S;rw[e,yal,b6.o];omega⟩
     have be:=aU i cK
     rw[eC]at be
     have t:V _:=be
     obtain⟨bC,aN,a2,bk,bq,co⟩:=be
     have aM:=aZ.l.g.c1
     have hs:i<(y.1.length:Int):=xaa
     have au:V _:=aZ
     have fa:V _:=S
     have hh:V _:=gs
     have af:V _:=cx
     clear aU aZ S gA gs cx
     by_cases cA:k<cnt v.op
     ·obtain⟨o,al,gx⟩:∃o:Nat,fld v k=o/\o<i:=by
       exact xjt
      have c7:V (∀W,Calls _ _ _ W λe I=>e=.returned (.int _ o)/\Kept 0 0 W _):=λW=>by rw[<-al];exact lW W v k xaa
      have dp:V (gkM vs act i k y=if act.getD o false=true/\pJ v k=true then mM vs o (nH (i:Int) v (laM vs i) k (y.2.getD i 0) y.1.length).2 (y.1++(nH (i:Int) v (laM vs i) k (y.2.getD i 0) y.1.length).1,y.2)else y):=by
       show _=_
       unfold gkM
       rw[<-bL.o,al]
       rfl
      have b2:k<(cnt v.op:Int):=xaa
      have fs:IntKind.i64.wrap (k+1)=k+1:=by rw[IntKind.wrap_i64];omega
      have eu:(0:Int)<=o:=xaa
      have ch:(o:Int)<T:=xaa
      have bO:(o:Int)<s+1:=xaa
      clear al
      go_wp2_with (first|(go_at_call 48;refine yaj (ca.o _) ?_;rintro e cq ⟨rfl,rfl⟩)|fail)
      refine yaj (c7.o _) ?_
      rintro e ci ⟨rfl,bU⟩
      have p:V _:=au.o.keep bU
      have gc:V _:=t.o.keep bQ bU yaa
      have Q:=BR.cell p.o.a i (hO bK.o bi)
      rw[hg.o]at Q
      have aw:=IR.cell p.o.m i (by rw[List.length_take,af.o];omega)
      rw[m7 gv]at aw
      have gb:=BR.cell p.o.a o (hR bK.o)
      generalize f4:y.2.getD i 0=d at aw dp g6
      have hw:¬(d<0):=xaa
      clear aM bC aN a2 bk bq co bU c7 au t bQ f4
      cases hb:act.getD o false
      ·rw[hb]at gb
       have R3:V (∃U Y cap,LG w _ _ A _ _ _ _ _ _ _ _ (jY _ _ i _ _).1 ((jY _ _ i _ _).2.take _) _ _ U Y cap):=⟨_,_,_,by
        rw[fT.o,dp.o,hF (by rw[hb];simp)]
        exact p.o⟩
       clear hb p gc
       go_wp2_with fail
       clear Q aw gb
       exact xdx
      ·rw[hb]at gb
       have gd:V (gkM vs act i k y=if pJ v k=true then mM vs o (nH (i:Int) v (laM vs i) k d y.1.length).2 (y.1++(nH (i:Int) v (laM vs i) k d y.1.length).1,y.2)else y):=by
        show _=_
        rw[dp.o,hb]
        simp
       have aT:=p.o.l.g.c0
       have ao:=p.o.l.g.c1
       have aG:=p.o.l.g.c2
       have ds:V (∀az,Kept 0 0 ci az->Calls prog 164 #[eV O n1 d1 (some ⟨bp,0,none⟩) y.1.length bT Z n3 d3,hD i,hD k,hD d] az λe br=>∃(H:List Vl) (r:Int) (bR:Option Addr) (n:Nat) (cj:Option Nat),e=.returned (.tuple #[eV O n1 d1 bR H.length n Z n3 d3,hD r,.bool (pJ v k)])/\(∀R o,R<az.heap.size->R≠bp->br.cell? ⟨R,o,none⟩=az.cell? ⟨R,o,none⟩)/\(∀R o,R<az.heap.size->R≠bp->br.frozen? ⟨R,o,none⟩=az.frozen? ⟨R,o,none⟩)/\az.heap.size<=br.heap.size/\V (H=y.1++(ptM (i:Int) v (laM vs i) k d y.1.length).1/\r=(ptM (i:Int) v (laM vs i) k d y.1.length).2)/\
         V (∀(l h':Nat) (cq:World),Kept l h' br cq->ci.heap.size<=l->(h'<=az.heap.size\/br.heap.size<=l)->(bp<l\/h'<=bp)->LG w (fw cq w.heap.size (.slice O n1 d1) (.slice bR H.length n) (.slice Z n3 d3)) aI A O n1 d1 Z n3 d3 ins outs H (y.2.take (s+1)) act base cj bR n)):=λaz ai=>by
        refine(Oc az O Z n1 d1 bT n3 d3 base bp i y.1 v (laM vs i) k d (p.o.keep ai).l.g.own (p.o.keep ai).l.g.sz ba.1 cK (gc.o.keep (eH p.o.l.g.own (k:=bp) rfl).2 ai yaa) cI cA (λhk=>by
         obtain⟨ga,B,J,h3,_⟩:=Pg (hO b6.o cd.o) i (hO b6.o bi) (hQ bL.o hk)
         exact⟨_,hO bL.o B,hN ba.2 b6.o,by rw[(Pre.at_ fa.o J).1];exact h3⟩)).mono ?_
        rintro e br ⟨bR,n,cj,rfl,e3,e5,d5⟩
        have hn:∀R,R≠bp->¬((λ_=>False) R\/some bp=some R):=λR aS=>by rintro (c|c);exact c;cases c;exact aS rfl
        refine⟨_,_,_,_,cj,rfl,λR o aS aR=>d5.chg.cell aS (hn R aR),λR o aS aR=>d5.chg.frozen aS (hn R aR),d5.chg.size,⟨rfl,rfl⟩,λl h' cq cc ab cG bQ=>?_⟩
        have bl:=p.o.l.step ai e3 e5 d5 cc ab (λg aR=>by
         rcases d5.row with c|⟨r,c,av⟩
         ·rw[c]at aR;cases aR;exact bQ
         ·rw[c]at aR;cases aR
          have:=(eH e3 (e5.trans c)).2
          omega)
        exact p.o.stq bl.1 bl.2
       have m:V (w.heap.size<ci.heap.size/\aI<ci.heap.size/\w.heap.size≠bp/\aI≠bp/\bp<ci.heap.size):=⟨p.o.l.g.lt,IR.lt p.o.m,λc=>p.o.l.g.ne (by rw[c]),λc=>p.o.fm.r (by rw[c]),(eH p.o.l.g.own rfl).2⟩
       have ey:=p.o.l.g.free
       clear hb gc p
       go_upto_region 22 with fail
       clear Q gb
       go_cut [15,16,17] (λen gR dv cl=>∃(X:Nat) (H:List Vl) (r:Int) (bR:Option Addr) (n:Nat) (cj:Option Nat),en=hB X/\gR=hD r/\dv=.bool (pJ v k)/\V (H=y.1++(ptM (i:Int) v (laM vs i) k d y.1.length).1/\r=(ptM (i:Int) v (laM vs i) k d y.1.length).2)/\V (RB cl X (.slice O n1 d1) (.slice bR H.length n) (.slice Z n3 d3)/\((∃u,cl.cell? ⟨w.heap.size,0,none⟩=some u)/\(∃u,cl.cell? ⟨w.heap.size,1,none⟩=some u)/\(∃u,cl.cell? ⟨w.heap.size,2,none⟩=some u))/\(∀o,cl.frozen? ⟨w.heap.size,o,none⟩=false))/\V (LG w (fw cl w.heap.size (.slice O n1 d1) (.slice bR H.length n) (.slice Z n3 d3)) aI A O n1 d1 Z n3 d3 ins outs H (y.2.take (s+1)) act base cj bR n))
       case first=>
        have ek:w.heap.size≠ci.heap.size:=hM m.o
        have gq:aI≠ci.heap.size:=hM m.o
        have bH:V (∀R o,R<ci.heap.size->(ci.alloc _).drew.cell? ⟨R,o,none⟩=ci.cell? _):=λR o aS=>(ez 0 0 _ fj).cell aS xaa
        go_region_held3 (λW:World=>W.cell? ⟨w.heap.size,0,none⟩=some (.slice O n1 d1)/\W.cell? ⟨w.heap.size,1,none⟩=some (hC bp y.1.length bT)/\W.cell? ⟨w.heap.size,2,none⟩=some (.slice Z n3 d3)/\W.cell? ⟨aI,i,none⟩=some (hD d)) (first|go_keep|(simp only[mi _ _ _ _ _ _ _ ek,mi _ _ _ _ _ _ _ gq];exact⟨bV,a1,Y,a3⟩)) (first
         |(go_at_call 164;refine yaj (ds.o _ ((ez 0 0 _ _).trans (eF _))) ?_;rintro e br ⟨H,r,bR,n,cj,rfl,bo,cM,cR,cO,bu⟩;have bV:=(bo _ 0 (by have:=m.o;simp;omega) m.o.2.2.1).trans ((bH.o _ 0 m.o.1).trans aT);have a1:=(bo _ 1 (by have:=m.o;simp;omega) m.o.2.2.1).trans ((bH.o _ 1 m.o.1).trans ao);have Y:=(bo _ 2 (by have:=m.o;simp;omega) m.o.2.2.1).trans ((bH.o _ 2 m.o.1).trans aG);have a3:=(bo _ i (by have:=m.o;simp;omega) m.o.2.2.2.1).trans ((bH.o _ i m.o.2.1).trans aw);have cU:V _:=cM;have bC:=bo ci.heap.size 0 xac (hM m.o);have aN:=bo ci.heap.size 1 xac (hM m.o);have a2:=bo ci.heap.size 2 xac (hM m.o);have ev:=cM ci.heap.size 0 xac (hM m.o);have ew:=cM ci.heap.size 1 xac (hM m.o);have ex:=cM ci.heap.size 2 xac (hM m.o);have ej:V _:=cR;clear bo cM cR)
         |(go_at_call 164;refine yaj (ds.o _ (eF _)) ?_;rintro e br ⟨H,r,bR,n,cj,rfl,bo,cM,cR,cO,bu⟩;have bV:=(bo _ 0 m.o.1 m.o.2.2.1).trans aT;have a1:=(bo _ 1 m.o.1 m.o.2.2.1).trans ao;have Y:=(bo _ 2 m.o.1 m.o.2.2.1).trans aG;have a3:=(bo _ i m.o.2.1 m.o.2.2.2.1).trans aw;have cU:V _:=cM;have cn:w.heap.size≠br.heap.size:=(by have:=m.o;have:ci.heap.size<=br.heap.size:=cR;omega);have cX:aI≠br.heap.size:=(by have:=m.o;have:ci.heap.size<=br.heap.size:=cR;omega);have ej:V _:=cR;clear bo cM cR))
        ·have d4:ci.heap.size<=br.heap.size:=ej.o
         have bx:=ez 0 0 br (.cells #[.slice O n1 d1,.slice bR H.length n,.slice Z n3 d3] 26)
         have cS:w.heap.size<br.heap.size:=hM m.o
         have R2:V (RB (br.alloc (.cells #[.slice O n1 d1,.slice bR H.length n,.slice Z n3 d3] 26)) br.heap.size (.slice O n1 d1) (.slice bR H.length n) (.slice Z n3 d3)/\((∃u,(br.alloc _).cell? _=some u)/\(∃u,(br.alloc _).cell? _=some u)/\(∃u,(br.alloc _).cell? _=some u))/\(∀o,(br.alloc _).frozen? _=false)):=
          ⟨⟨by simp,by simp,by simp,by simp,by simp,by simp,by simp⟩,⟨⟨_,(bx.cell cS xaa).trans bV⟩,⟨_,(bx.cell cS xaa).trans a1⟩,⟨_,(bx.cell cS xaa).trans Y⟩⟩,λo=>(bx.frozen cS xaa).trans ((cU.o _ o m.o.1 m.o.2.2.1).trans (ey o))⟩
         have R3:V _:=bu.o _ br.heap.size _ (ez _ _ _ (.cells #[.slice O n1 d1,.slice bR H.length n,.slice Z n3 d3] 26)) d4 yab (.inl (hM m.o))
         exact xjf
        ·have d4:=yao (ez 0 0 _ _).size ej.o
         have K:=fg br ci.heap.size (.slice O n1 d1) (.slice bR H.length n) (.slice Z n3 d3)
         have cS:w.heap.size<br.heap.size:=hM m.o
         have fq:ci.heap.size<br.heap.size:=yak xac ej.o
         have fz:br.cell? _=some (.slice none 0 0):=bC.trans xac
         have fG:br.cell? _=some (.slice none 0 0):=aN.trans xac
         have fL:br.cell? _=some (.slice none 0 0):=a2.trans xac
         obtain⟨bb,aM,aQ⟩:=eZ _ _ _ _ _ fz fG fL (.slice O n1 d1) (.slice bR H.length n) (.slice Z n3 d3)
         have eg:∀o,br.frozen? _=false:=λo=>(cU.o ci.heap.size o xac (hM m.o)).trans xac
         have b5:∀o,_:=λo=>(cU.o _ o (by have:=m.o;simp;omega) m.o.2.2.1).trans (((ez 0 0 _ _).frozen m.o.1 xaa).trans (ey o))
         have R2:V (RB _ _ _ _ _/\((∃u,(((br.setCell _ (.slice O n1 d1)).setCell _ (.slice bR H.length n)).setCell _ (.slice Z n3 d3)).cell? _=some u)/\(∃u,(((br.setCell _ (.slice O n1 d1)).setCell _ (.slice bR H.length n)).setCell _ (.slice Z n3 d3)).cell? _=some u)/\(∃u,(((br.setCell _ (.slice O n1 d1)).setCell _ (.slice bR H.length n)).setCell _ (.slice Z n3 d3)).cell? _=some u))/\(∀o,(((br.setCell ⟨ci.heap.size,0,none⟩ (.slice O n1 d1)).setCell ⟨ci.heap.size,1,none⟩ (.slice bR H.length n)).setCell ⟨ci.heap.size,2,none⟩ (.slice Z n3 d3)).frozen? ⟨w.heap.size,o,none⟩=false)):=
          ⟨⟨yak fq K.size,bb,aM,aQ,by simp[eg 0],by simp[eg 1],by simp[eg 2]⟩,⟨⟨_,(mi _ _ _ _ _ _ _ ek).trans bV⟩,⟨_,(mi _ _ _ _ _ _ _ ek).trans a1⟩,⟨_,(mi _ _ _ _ _ _ _ ek).trans Y⟩⟩,λo=>by simp[b5 o]⟩
         have R3:V _:=bu.o _ _ _ K yad (.inl xac) (.inl m.o.2.2.2.2)
         clear K fz fG fL eg b5 bb aM aQ bC aN a2 ev ew ex
         exact xjf
       case rest=>
        clear aT ao aG aw ds ey
        obtain⟨X,H,r,bR,n,cj,rfl,rfl,rfl,cO,bz,bu⟩:=hcut
        obtain⟨⟨_,bf,aP,aY,bI,bB,bE⟩,⟨⟨_,a8⟩,⟨_,aV⟩,⟨_,p2⟩⟩,b5⟩:=bz.o
        have gB:=b5 0
        have gE:=b5 1
        have gP:=b5 2
        clear b5 bz
        go_upto_region 24 with fail
        clear bf aP aY bI bB bE a8 aV p2 gB gE gP
        unfold fw at bu
        generalize ((wc.setCell _ _).setCell ⟨_,1,_⟩ _).setCell _ _=dd at bu⊢
        cases el:pJ v k
        ·have R3:V (∃U Y cap,LG w _ _ A _ _ _ _ _ _ _ _ (jY _ _ i _ _).1 ((jY _ _ i _ _).2.take _) _ _ U Y cap):=⟨_,_,_,by
          have e:H=y.1:=by rw[cO.o.1];unfold ptM;rw[hF (by rw[el];simp)];simp
          rw[fT.o,gd.o,hF (by rw[el];simp),<-e]
          exact bu.o⟩
         clear bu cO el
         exact xen
        ·have b4:H=y.1++(nH i v (laM vs i) k d y.1.length).1/\r=(nH i v (laM vs i) k d y.1.length).2:=by
          have e:=cO.o
          unfold ptM at e
          rw[hG el]at e
          exact e
         have gf:V (jY vs act i st (k+1)=mM vs o r (H,y.2)):=by
          show _=_
          rw[fT.o,gd.o,hG el,b4.1,b4.2]
         have f6:o<vs.length:=hM b6.o
         have hc:H.length<=810000/\o<H.length/\(H.getD o hI).len=(vs.getD o hI).len:=by
          have ef:=zn i v (laM _ i) k d y.1.length (by rw[bL.o];exact(rF (hO b6.o ea.o) i).1) (by rw[bL.o];exact(rF (hO b6.o ea.o) i).2) (rF (hO b6.o ea.o) _).1 (rF (hO b6.o ea.o) _).2
          have fv:Pre vs H:=by rw[b4.1];exact Pre.app fa.o
          refine⟨?_,(Pre.at_ fv f6).2,by rw[(Pre.at_ fv f6).1]⟩
          rw[b4.1,yal]
          have:=ef.1
          omega
         obtain⟨hc,hp,cH⟩:=hc
         have gw:(y.2.take (s+1)).length=s+1:=by rw[List.length_take,af.o];omega
         have e6:=IR.cell bu.o.m o (hR gw)
         rw[m7 xaa]at e6
         have he:=IR.free bu.o.m o
         have bZ:V _:=(hh.o o xaa).imp (λc=>c) (λc=>c.1)
         have f0:V ((y.2.take (s+1)).getD o 0=y.2.getD o 0):=m7 xaa
         clear cO b4 f6 el
         by_cases am:y.2.getD o 0=-1
         ·rw[am]at e6
          have R3:V (∃U Y cap,LG w _ _ A _ _ _ _ _ _ _ _ (jY _ _ i _ _).1 ((jY _ _ i _ _).2.take _) _ _ U Y cap):=⟨_,_,_,by
           have h:=bu.o.set o r
           rw[gf.o]
           unfold mM
           rw[hG am]
           rw[rQ]at h
           exact h⟩
          clear bu am bZ f0
          exact xen
         ·have eS:V (jY vs act i st (k+1)=(H++[eL 2 (vs.getD o hI).len (y.2.getD o 0) r 0],y.2.set o (H.length:Nat))):=by
           show _=_
           rw[gf.o]
           unfold mM
           rw[hF am]
          have f7:¬(y.2.getD o 0<0):=by rcases bZ.o with c|c;exact absurd c am;omega
          generalize y.2.getD o 0=q at e6 f7 eS f0
          obtain⟨hv,rfl,rfl,_,_⟩:=bu.o.l.read xaa
          clear am bZ gf gd dp
          go_upto_region 27 with fail
          clear e6 he
          refine fx (Nq bu xaa hp xaa gw cH f0.o ?_)
          intro hu aB cap' _ _ _ _ _ _ _ _ _ _ _ _ _ _ C
          unfold hB
          have g8:(H++[eL 2 (vs.getD o hI).len q r 0]).length=H.length+1:=by simp
          generalize H++[eL 2 _ q r 0]=gT at C eS g8
          have aT:=C.o.l.g.c0
          have ao:=C.o.l.g.c1
          have aG:=C.o.l.g.c2
          have aK:V _:=λW=>jf W O (some ⟨aB,0,none⟩) Z n1 d1 _ cap' n3 d3 (show gT.length<=1000000 by omega)
          rw[show(gT.length:Int)-1=(H.length:Nat) by omega]at aK
          clear bu g8 f0 f7
          go_wp2_with fail
          refine yaj (aK.o _) ?_
          rintro e hz ⟨rfl,hd⟩
          have ad:V _:=C.o.keep hd
          have e6:=IR.cell ad.o.m o (hR gw)
          have he:=IR.free ad.o.m o
          generalize (y.2.take _).getD o 0=hA at e6
          have R3:V (∃U Y cap,LG w _ _ A _ _ _ _ _ _ _ _ (jY _ _ i _ _).1 ((jY _ _ i _ _).2.take _) _ _ U Y cap):=⟨_,_,_,by
           have h:=ad.o.set o ((H.length:Nat):Int)
           rw[eS.o]
           rw[rQ]at h
           exact h⟩
          clear C ad aK aT ao aG hd
          exact xen
     ·have b2:¬(k<(cnt v.op:Int)):=xaa
      have ed:k=cnt v.op:=xaa
      have R2:V (∃U Y cap,LG w _ _ A _ _ _ _ _ _ _ _ (gdn _ _ s _).1 ((gdn _ _ s _).2.take _) _ _ U Y cap):=⟨_,_,_,by rw[g2.o ed];exact au.o⟩
      clear ed au t
      exact xea
   have hm:¬((x:Int)<i):=xaa
   have ec:j=s-x:=xaa
   subst ec
   have aw:=IR.cell ax.m x (by rw[List.length_take,a6.l];omega)
   rw[m7 xaa]at aw
   have eB:=a6.i x ak
   have hr:=a6.z.1
   have hq:(gdn vs act s (s-x)).1.length<=800000:=xaa
   have e0:0<(gdn vs act s (s-x)).1.length:=by
    obtain⟨r,e⟩:=a6.p
    rw[e,yal,b6.o]
    omega
   have eT:V (grM vs s x=if (gdn vs act s (s-x)).2.getD x 0=-1 then ((gdn vs act s (s-x)).1++[eL 1 b8 0 0 0],(((gdn vs act s (s-x)).1.length:Nat):Int))else ((gdn vs act s (s-x)).1,(gdn vs act s (s-x)).2.getD x 0)):=by
    show _=_
    rw[aX.o,<-go.o]
    rfl
   obtain⟨bp,rfl,rfl,_,_⟩:=ax.l.read e0
   have HL:V _:=ax.l
   have hf:V (aI≠w.heap.size+1/\aI≠w.heap.size):=⟨hM ax.fm.p,hM ax.fm.p⟩
   have ct:(x:Int)<s+1:=xaa
   generalize (gdn _ _ s _).2.getD x 0=mm at aw eB eT
   clear a6 ax hr aX
   generalize (gdn _ _ s _).1=us at HL eT hq e0
   have aT:=HL.o.g.c0
   have ao:=HL.o.g.c1
   have aG:=HL.o.g.c2
   obtain⟨_,bf,aP,aY,bI,bB,bE⟩:=HL.o.b
   by_cases am:mm=-1
   ·subst am
    have cD:V (grM vs s x=(us++[eL 1 b8 0 0 0],(us.length:Int))):=by
     show _=_
     rw[eT.o,hG rfl]
    clear eT eB bf aP aY bI bB bE
    go_upto_region 30 with fail
    clear aw
    go_cut [] (λcl=>∃aB cap',V (LK w cl O n1 d1 Z n3 d3 ins outs (us++[eL 1 b8 0 0 0]) base (some aB) (some ⟨aB,0,none⟩) cap'))
    case first=>
     go_region_with (first
      |(go_at_call 38;refine yaj (LK.call HL.o ((eF _).trans aj) _ xaa) ?_;rintro e ag ⟨aB,cap',rfl,⟨_,bm⟩,⟨_,ay⟩,⟨_,aW⟩,ae,bP⟩;have bv:=ae 0;have bA:=ae 1;have bM:=ae 2;have cJ:V _:=bP.o.1;clear ae bP)
      |(go_at_call 65;refine yaj (pw _ _) ?_;rintro e aO ⟨rfl,aj⟩;have a8:=(LK.keep HL.o ((eF _).trans aj)).g.c0;have aV:=(LK.keep HL.o ((eF _).trans aj)).g.c1;have p2:=(LK.keep HL.o ((eF _).trans aj)).g.c2))
     all_goals (go_wp2_with fail;go_meet;exact⟨_,_,cJ⟩)
    case rest=>
     obtain⟨aB,cap',bP⟩:=hcut
     have ck:(us++[eL 1 b8 0 0 0]).length=us.length+1:=by simp
     generalize aH:us++[eL 1 _ 0 0 0]=H at bP cD ck
     clear aT ao aG aH HL
     have aT:=bP.o.g.c0
     have ao:=bP.o.g.c1
     have aG:=bP.o.g.c2
     obtain⟨_,bf,aP,aY,bI,bB,bE⟩:=bP.o.b
     have aK:V _:=λW=>jf W O (some ⟨aB,0,none⟩) Z n1 d1 _ cap' n3 d3 (show H.length<=1000000 by have:=ck;omega)
     rw[show(H.length:Int)-1=(us.length:Nat) by omega]at aK
     clear ck
     go_wp2_with fail
     go_region_with (first
      |(go_at_call 41;refine yaj (aK.o _) ?_;rintro e a7 ⟨rfl,aF⟩;clear bf aP aY bI bB bE;have bd:=(bP.o.keep ((eF _).trans aF)).g.c0;have aL:=(bP.o.keep ((eF _).trans aF)).g.c1;have aJ:=(bP.o.keep ((eF _).trans aF)).g.c2;obtain⟨_,bf,aP,aY,bI,bB,bE⟩:=(bP.o.keep ((eF _).trans aF)).b))
     all_goals
      have ei:V _:=bP.o.a4
      have R1:V _:=bP.o.fin ((eF _).trans aF)
      obtain⟨bb,aM,aQ⟩:=eZ _ _ _ _ _ bf aP aY (.slice O n1 d1) (hC aB H.length cap') (.slice Z n3 d3)
      go_wp2_with fail
      refine yaz (v:=.tuple #[eV O n1 d1 (some ⟨aB,0,none⟩) H.length cap' Z n3 d3,hD us.length]) (by simp[results,results159,go_sem,bb,aM,aQ]) rfl ⟨?_,R1.o.2⟩
      rw[cD.o]
      exact⟨_,_,_,_,_,_,rfl,R1.o.1.1,R1.o.1.2.1,R1.o.1.2.2,ei.o⟩
   have cD:V (grM vs s x=(us,mm)):=by
    show _=_
    rw[eT.o,hF am]
   have ha:¬(mm<0):=by rcases eB with c|c;exact absurd c am;omega
   obtain⟨bb,aM,aQ⟩:=eZ _ _ _ _ _ bf aP aY (.slice O n1 d1) (hC bp us.length fl) (.slice Z n3 d3)
   have gr:w.heap.size≠w.heap.size+1:=xaa
   have fo:=hf.o.1
   have hl:=Ne.symm fo
   have cQ:V (∀X cz cw:Value,(((wr.setCell _ X).setCell _ cz).setCell _ cw).drew.cell? _=some _):=λX cz cw=>(mi _ _ _ _ X cz cw fo).trans aw
   exact qgh):Zp:=h
theorem u.qgi(h:Zp:=by
 clear eT eB am;go_upto_region 32 with fail;go_region_held3 (λW:World=>W.cell? ⟨w.heap.size,0,none⟩=some (.slice O n1 d1)/\W.cell? ⟨w.heap.size,1,none⟩=some (hC bp us.length fl)/\W.cell? ⟨w.heap.size,2,none⟩=some (.slice Z n3 d3)/\W.cell? ⟨aI,x,none⟩=some (hD mm)) (first|go_keep|(exact⟨(c6.o _ _ _ _).trans aT,(c6.o _ _ _ _).trans ao,(c6.o _ _ _ _).trans aG,cQ.o _ _ _⟩)) (fail)
 all_goals
  go_wp2_with fail
  refine yaz (v:=.tuple #[eV O n1 d1 (some ⟨bp,0,none⟩) us.length fl Z n3 d3,hD mm]) (by simp[results,results159,go_sem,bb,aM,aQ]) rfl ⟨?_,R1.o.2⟩
  rw[cD.o]
  exact⟨_,_,_,_,_,_,rfl,R1.o.1.1,R1.o.1.2.1,R1.o.1.2.2,ei.o⟩):Zp:=h
open u in
theorem Ad(w bh P ap n1 c1 T c2 n3 c3 s x ins vs outs)(f:GS w bh n1 (some ⟨ap,0,none⟩) T P n3 ins vs outs)(c8:VA w ap T vs)(b1:n1<=1000000)(ce:T<=2000)(a9:n3<=1000000)(bN:(List.range T).all (okV ins vs)=true)(cN:fd vs<=50000)(ar:s<T)(ak:x<T)(F:(jA vs x (s-x)).getD s false=true):
  Calls prog 159 #[eV bh n1 c1 (some ⟨ap,0,none⟩) T c2 P n3 c3,hD s,hD x] w λe I=>vO w I n1 n3 ins outs (grM vs s x) e/\Kept 0 0 w I:=by
 have aX:V (grM vs s x=Nd vs x (gdn vs (jA vs x (s-x)) s (s-x))):=by
  show _=_;unfold grM Gm;rw[hG F,um _ _ _ _ _ yad]
 have gy:¬s<x:=λc=>by
  rw[show s-x=0 by omega,jA,sS xaa,yai,List.getElem?_replicate]at F
  split at F<;>simp at F
 exact qdn
