import Derived.Test.YtcagphgmfbjneaaGreatP48
namespace Go.Proofs.Z
variable{Zp:Prop}
open Tryz
set_option maxRecDepth 1000000
set_option maxHeartbeats 0
open Go.RowKit Flt
attribute[local go_sem] eE eD eC
theorem t.qaf(h:Zp:=by
 exact qec):Zp:=h
theorem t.qed(h:Zp:=by
 have a8:¬((s:Int)<x):=xaa;go_upto_region 7 with fail;clear bH bk p2 bN f1 f2 bc;generalize ((am.setCell _ _).setCell _ _).setCell _ _=c6 at HL c7⊢;rw[<-N.o]at HL ez;generalize (Value.slice J _ _).ownBlock=cM at HL ez;have gx:V _:=CE N.o aw HZ.o (rG (i1 N.o b2.o)) az (λi hi q aA=>ix (ej.o i hi q aA));have t:V ((jo vs x (s-x)).length=ae):=by show _=_;rw[oK,N.o]
 generalize jo _ x _=act at c7 bv gx t az;clear az;have ao:=FY (s+1) c6 xaa;rw[show(s+1:Nat)=(s:Int)+1 from rfl]at ao;have fG:IntKind.i64.wrap (s+1)=s+1:=by rw[IntKind.wrap_i64];omega
 have ep:(0:Int)<=s+1:=xaa
 have cG:V (LG w (c6.alloc (.cells (madeCells #[h1 0] (s+1)) 3)) c6.heap.size A U Z aM aa ab aI ins outs vs (lD 0 (s+1)) act aH.heap.size cM J bi):=by
  have bj:=eA 0 0 c6 (.cells (madeCells #[h1 0] (s+1)) 3);have e:lD 0 (s+1)=List.replicate (s+1) 0:=by simp[lD]
  rw[e];exact⟨HL.o.keep bj,IR.made c6 _,BR.keep c7.o bj yaa,HL.o.far yad,ez.o,ix (BR.lt c7.o)⟩
 generalize c6.alloc _=aU at ao cG;generalize c6.heap.size=aD at ao cG;clear HL c7 ez;go_wp2_with fail;clear ao;generalize aH.heap.size=base at cG bm;go_loopw [11] (λv W=>∃k:Nat,k<=s+1/\v=h1 k/\V (LG w W aD A U Z aM aa ab aI ins outs vs (lD k (s+1)) act base cM J bi)) (λv _=>s+1-(intOf v).toNat)
 case atStart=>exact⟨0,yae,rfl,cG⟩
 case round=>
  obtain⟨k,O,rfl,m⟩:=hrel
  clear cG
  by_cases hlt:k<s+1
  ·have c1:=IR.cell m.o.m k (by rw[vT k _ O];exact hlt)
   have c2:=IR.free m.o.m k
   have R1:V (LG w (wr.setCell ⟨aD,k,none⟩ (h1 (-1))) aD A U Z aM aa ab aI ins outs vs (lD (k+1) (s+1)) act base cM J bi):=by
    have:=m.o.set k (-1)
    rw[vV hlt]at this
    exact this
   clear m
   generalize (lD k _).getD k 0=z at c1
   have ad:(0:Int)<=k:=xaa
   have an:(k:Int)<s+1:=xaa
   have av:(k:Int)<=s:=xaa
   exact xhn
  obtain rfl:k=s+1:=xaa
  have cU:=m.o
  rw[vU]at cU
  have eB:V _:=cU
  have aY:=cU.l.g.c0
  have ar:=cU.l.g.c1
  have aW:=cU.l.g.c2
  have av:¬((s+1:Nat)<=(s:Int)):=xaa
  have C:vs.length<=1000000:=ix N.o
  clear m cU
  go_wp2_with fail
  refine yaj (LK.call eB.o.l iv ⟨1,1,0,0,0,_⟩ C) ?_
  rintro e bA ⟨aC,cap',rfl,⟨_,bq⟩,⟨_,aq⟩,⟨_,aT⟩,ak,aG⟩
  have bR:=ak 0
  have bS:=ak 1
  have bT:=ak 2
  have bV:V (LG w _ _ A _ _ _ _ _ _ _ _ (xS _ s).1 _ _ _ _ _ _):=eB.o.stq aG.o.1 aG.o.2
  clear ak aG eB aY ar aW
  unfold fg at bV
  have b:V _:=λW=>iY W U (some ⟨aC,0,none⟩) aa Z aM _ cap' ab aI (show vs.length+1<=1000000 by have:=N.o;omega)
  rw[show(vs.length+1:Nat)-1=(vs.length:Int) by omega]at b
  go_upto_region 13 with fail
  generalize ((bA.setCell _ _).setCell ⟨_,1,_⟩ _).setCell _ _=bD at bV⊢
  clear bq aq aT bR bS bT
  have aY:=bV.o.l.g.c0
  have ar:=bV.o.l.g.c1
  rw[show(xS _ s).1.length=vs.length+1 by simp[xS]]at ar
  have aW:=bV.o.l.g.c2
  go_wp2_with fail
  refine yaj (b.o _) ?_
  rintro e cn ⟨rfl,bY⟩
  have bQ:V _:=bV.o.keep bY
  have c1:=IR.cell bQ.o.m s xac
  have c2:=IR.free bQ.o.m s
  generalize (List.replicate _ (-1:Int)).getD s 0=z at c1
  have ea:V (∃R J cap,LG w _ _ A _ _ _ _ _ _ _ _ (gdn _ act s 0).1 ((gdn _ act s 0).2.take _) _ _ R J cap):=⟨_,_,_,by
   have:=bQ.o.set s ((vs.length:Nat):Int)
   rw[Eb vs s (i1 N.o aw)]at this
   exact this⟩
  clear bV bQ b aY ar aW bY
  have a5:(s:Int)<s+1:=xaa
  go_wp2_with fail
  clear c1 c2
  generalize cn.setCell ⟨_,s,_⟩ _=cd at ea⊢
  go_loopw [12] (λv W=>∃(i j:Nat),v=h1 i/\i+j=s/\j<=s-x/\V (∃R J cap,LG w W aD A U Z aM aa ab aI ins outs (gdn vs act s j).1 ((gdn vs act s j).2.take (s+1)) act base R J cap)) (λv _=>(intOf v).toNat)
  case atStart=>exact⟨s,0,rfl,rfl,yae,ea⟩
  case round=>
   obtain⟨i,j,rfl,e2,hj,m⟩:=hrel
   clear ea
   obtain⟨R,a4,eT,m⟩:=m.o
   have aL:=gx.o j xaa
   by_cases hlt:j<s-x
   ·have fu:(x:Int)<i:=xaa
    have bg:i<ae:=xaa
    have gd:i<=s:=xaa
    have b1:(0:Int)<=i:=xaa
    have cc:(i:Int)<ae:=xaa
    have ds:(i:Int)<s+1:=xaa
    have cT:V (gdn vs act s (j+1)=giM vs act i (gdn vs act s j)):=by
     show _=_
     rw[gdn,show s-j=i by omega]
    have he:IntKind.i64.wrap (i-1)=i-1:=by rw[IntKind.wrap_i64];omega
    have ff:V (i+j=s/\j<s-x):=⟨e2,hlt⟩
    have cI:V (2001+12*j<=700000/\51000+12000*(j:Int)<=700000000):=by constructor<;>omega
    obtain⟨v,aN⟩:∃v,v=vs.getD i h9:=⟨_,rfl⟩
    have bX:V _:=aN
    have cK:=ca.o i bg
    have dg:=ej.o i bg
    rw[<-aN]at cK dg
    have eL:V _:=dg
    have aQ:V _:=zD _ cK.1 cK.2
    generalize gdn _ _ s j=st at m aL cT
    generalize 2001+12*j=f8 at aL cI
    generalize 51000+12000*(j:Int)=C0 at aL cI
    clear aN dg e2 hlt hj
    have b8:V _:=aL
    have fj:V _:=m
    have dc:i<st.1.length:=by have:=(aL.p.at_ (show i<vs.length by rw[N.o];exact bg)).2;exact this
    have eq:st.1.getD i h9=v:=by rw[bX.o];exact(aL.p.at_ (show i<vs.length by rw[N.o];exact bg)).1
    have d1:=gK v.op
    obtain⟨b0,rfl,rfl,_,_⟩:=m.l.read xaa
    have gr:i<(st.1.length:Int):=xaa
    clear aL m
    by_cases aO:st.2.getD i 0=-1
    ·
     have gP:giM vs act i st=st:=by unfold giM;rw[h7 aO]
     have R1:V (∀W,LG w W aD A _ Z aM aa ab aI _ outs _ _ _ _ (some b0) (some ⟨b0,0,none⟩) eT->∃R J cap,LG w W _ A U _ _ _ _ _ ins _ (gdn _ _ s _).1 ((gdn _ _ s _).2.take (s+1)) act base R J cap):=λW h=>⟨_,_,_,by rw[cT.o,gP];exact h⟩
     clear gP
     go_wp2_with fail
     go_loopw [13] (λu W=>∃k:Nat,k<=cnt v.op/\u=h1 k/\V (LG w W aD A U Z aM aa ab aI ins outs st.1 (st.2.take (s+1)) act base (some b0) (some ⟨b0,0,none⟩) eT)) (λu _=>cnt v.op-(intOf u).toNat)
     case atStart=>exact⟨0,yae,rfl,fj⟩
     case round=>
      obtain⟨k,O,rfl,a2⟩:=hrel
      clear fj
      have aJ:=a2.o.l.g.c1
      obtain⟨d0,da,_,_,be⟩:=a2.o.l.read xaa
      cases da
      have bw:=be i dc
      rw[eq]at bw
      obtain⟨bP,aR,bd,bu,bC,ct⟩:=bw
      clear be
      by_cases cD:k<cnt v.op
      ·obtain⟨o,ho,gf⟩:∃o:Nat,fld v k=o/\o<i:=by
        exact xjg
       have cP:V (∀W,Calls _ _ _ W λe B=>e=.returned (.int _ o)/\Kept 0 0 W _):=λW=>by rw[<-ho];exact nz W v k xaa
       have bM:k<(cnt v.op:Int):=xaa
       have e3:IntKind.i64.wrap (k+1)=k+1:=by rw[IntKind.wrap_i64];omega
       clear ho
       go_wp2_with (first|(go_at_call 19;refine yaj (aQ.o _) ?_;rintro e cn ⟨rfl,rfl⟩)|fail)
       refine yaj (cP.o _) ?_
       rintro e cd ⟨rfl,a5⟩
       have a:V _:=a2.o.keep a5
       have bc:=BR.cell a.o.a i (i1 t.o bg)
       have cq:=IR.cell a.o.m i (by rw[List.length_take,b8.o.l];omega)
       rw[mR gd,aO]at cq
       clear aJ bP aR bd bu bC ct a5 cP a2
       cases hb:act.getD i false
       all_goals
        rw[hb]at bc
        clear hb
        go_wp2_with fail
        clear bc cq
        go_roundw;exact⟨k+1,by omega,by go_num,a⟩;simp[intOf];omega
      ·have bM:¬(k<(cnt v.op:Int)):=xaa
       have R2:V _:=R1.o _ a2.o
       clear a2
       exact xdy
    
    have hd0:0<=st.2.getD i 0:=by rcases b8.o.i i bg with c|c;exact absurd c aO;exact c.1
    have gC:act.getD i false=true:=by rcases b8.o.i i bg with c|c;exact absurd c aO;exact c.2
    have g6:V (giM vs act i st=jS vs act i st (cnt v.op)):=by
     show _=_
     unfold giM
     rw[h6 aO,<-bX.o]
    have gA:V (∀q,q<cnt _->(fld (vs.getD i _) q).toNat≠i):=λq aA=>by rw[<-bX.o];have:=eL.o q aA;omega
    have gB:V (∃R J cap,LG w _ _ A _ _ _ _ _ _ _ _ (jS vs act i _ 0).1 ((jS vs act i _ 0).2.take _) _ _ R J cap):=⟨_,_,_,fj.o⟩
    have et:V _:=hd0
    have g8:V _:=gC
    clear aO hd0 gC fj dc eq
    go_wp2_with fail
    go_loopw [13] (λu W=>∃k:Nat,k<=cnt v.op/\u=h1 k/\V (∃R J cap,LG w W aD A U Z aM aa ab aI ins outs (jS vs act i st k).1 ((jS vs act i st k).2.take (s+1)) act base R J cap)) (λu _=>cnt v.op-(intOf u).toNat)
    case atStart=>exact⟨0,yae,rfl,gB⟩
    case round=>
     obtain⟨k,O,rfl,a2⟩:=hrel
     clear gB
     obtain⟨R,bp,af,a2⟩:=a2.o
     have cV:Pre _ (jS _ act i _ k).1:=uu b8.o.p k
     have gp:=xR (rG (i1 N.o b2.o)) (act:=act) (i:=i) b8.o.z k
     have gc:=uz b8.o.i b8.o.l et.o k (λq aA=>gA.o q xaa)
     have cH:(jS vs act i st k).2.length=ae:=by rw[qK];exact b8.o.l
     have gE:0<=(jS vs act i st k).2.getD i 0:=by rw[uy k (λq aA=>gA.o q xaa)];exact et.o
     have fl:V (jS vs act i st (k+1)=gkM _ _ i k _):=rfl
     have gz:V (k=cnt _->gdn _ _ s _=jS _ _ i _ k):=λe=>by rw[cT.o,g6.o,e]
     generalize jS _ _ i _ k=y at a2 cV gp gc cH gE fl gz
     have cr:i<vs.length:=i1 N.o bg
     have dc:=(cV.at_ cr).2
     have eq:y.1.getD i h9=v:=by rw[bX.o];exact(cV.at_ cr).1
     obtain⟨b0,rfl,rfl,ck,be⟩:=a2.l.read xaa
     have br:y.1.length<=800000/\ae<=y.1.length:=⟨i0 gp.1 cI.o,by obtain⟨r,e⟩:=cV;rw[e,yal,N.o];omega⟩
     have bw:=be i dc
     rw[eq]at bw
     have al:V _:=bw
     obtain⟨bP,aR,bd,bu,bC,ct⟩:=bw
     have aJ:=a2.l.g.c1
     have gr:i<(y.1.length:Int):=xaa
     have au:V _:=a2
     have c9:V _:=cV
     have ha:V _:=gc
     have cS:V _:=cH
     clear be a2 cV gp gc cH
     by_cases cD:k<cnt v.op
     ·obtain⟨o,ho,gf⟩:∃o:Nat,fld v k=o/\o<i:=by
       exact xjg
      have cP:V (∀W,Calls _ _ _ W λe B=>e=.returned (.int _ o)/\Kept 0 0 W _):=λW=>by rw[<-ho];exact nz W v k xaa
      have fc:V (gkM vs act i k y=if act.getD o false=true/\pG v k=true then mF vs o (nD (i:Int) v (laM vs i) k (y.2.getD i 0) y.1.length).2 (y.1++(nD (i:Int) v (laM vs i) k (y.2.getD i 0) y.1.length).1,y.2)else y):=by
       show _=_
       unfold gkM
       rw[<-bX.o,ho]
       rfl
      have bM:k<(cnt v.op:Int):=xaa
      have e3:IntKind.i64.wrap (k+1)=k+1:=by rw[IntKind.wrap_i64];omega
      have ed:(0:Int)<=o:=xaa
      have ch:(o:Int)<ae:=xaa
      have b9:(o:Int)<s+1:=xaa
      clear ho
      go_wp2_with (first|(go_at_call 19;refine yaj (aQ.o _) ?_;rintro e cn ⟨rfl,rfl⟩)|fail)
      refine yaj (cP.o _) ?_
      rintro e cd ⟨rfl,a5⟩
      have a:V _:=au.o.keep a5
      have f0:V _:=al.o.keep ck a5 yaa
      have bc:=BR.cell a.o.a i (i1 t.o bg)
      rw[g8.o]at bc
      have cq:=IR.cell a.o.m i (by rw[List.length_take,cS.o];omega)
      rw[mR gd]at cq
      have fP:=BR.cell a.o.a o (i3 t.o)
      generalize fs:y.2.getD i 0=d at cq fc gE
      have hl:¬(d<0):=xaa
      clear aJ bP aR bd bu bC ct a5 cP au al ck fs
      cases hb:act.getD o false
      ·rw[hb]at fP
       have R3:V (∃R J cap,LG w _ _ A _ _ _ _ _ _ _ _ (jS _ _ i _ _).1 ((jS _ _ i _ _).2.take _) _ _ R J cap):=⟨_,_,_,by
        rw[fl.o,fc.o,h6 (by rw[hb];simp)]
        exact a.o⟩
       clear hb a f0
       go_wp2_with fail
       clear bc cq fP
       exact xdw
      ·rw[hb]at fP
       have f5:V (gkM vs act i k y=if pG v k=true then mF vs o (nD (i:Int) v (laM vs i) k d y.1.length).2 (y.1++(nD (i:Int) v (laM vs i) k d y.1.length).1,y.2)else y):=by
        show _=_
        rw[fc.o,hb]
        simp
       have aY:=a.o.l.g.c0
       have ar:=a.o.l.g.c1
       have aW:=a.o.l.g.c2
       have c8:V (∀ax,Kept 0 0 cd ax->Calls prog 139 #[eX U Z aM (some ⟨b0,0,none⟩) y.1.length af aa ab aI,h1 i,h1 k,h1 d] ax λe bD=>∃(G:List Vl) (r:Int) (bp:Option Addr) (n:Nat) (ah:Option Nat),e=.returned (.tuple #[eX U Z aM bp G.length n aa ab aI,h1 r,.bool (pG v k)])/\(∀I o,I<ax.heap.size->I≠b0->bD.cell? ⟨I,o,none⟩=ax.cell? ⟨I,o,none⟩)/\(∀I o,I<ax.heap.size->I≠b0->bD.frozen? ⟨I,o,none⟩=ax.frozen? ⟨I,o,none⟩)/\ax.heap.size<=bD.heap.size/\V (G=y.1++(ptM (i:Int) v (laM vs i) k d y.1.length).1/\r=(ptM (i:Int) v (laM vs i) k d y.1.length).2)/\
         V (∀(l h':Nat) (cn:World),Kept l h' bD cn->cd.heap.size<=l->(h'<=ax.heap.size\/bD.heap.size<=l)->(b0<l\/h'<=b0)->LG w (fg cn w.heap.size (.slice U Z aM) (.slice bp G.length n) (.slice aa ab aI)) aD A U Z aM aa ab aI ins outs G (y.2.take (s+1)) act base ah bp n)):=λax aj=>by
        refine(Pz ax U aa Z aM af ab aI base b0 i y.1 v (laM vs i) k d (a.o.keep aj).l.g.own (a.o.keep aj).l.g.sz br.1 dc (f0.o.keep (eG a.o.l.g.own (k:=b0) rfl).2 aj yaa) cK cD (λhc=>by
         obtain⟨fM,F,h2,h3,_⟩:=P6 (i1 N.o cB.o) i (i1 N.o bg) (i2 bX.o hc)
         exact⟨_,i1 bX.o F,i0 br.2 N.o,by rw[(Pre.at_ c9.o h2).1];exact h3⟩)).mono ?_
        rintro e bD ⟨bp,n,ah,rfl,ew,ex,dv⟩
        have ag:∀I,I≠b0->¬((λ_=>False) I\/some b0=some I):=λI a7=>by rintro (c|c);exact c;cases c;exact a7 rfl
        refine⟨_,_,_,_,ah,rfl,λI o a7 aK=>dv.chg.cell a7 (ag I aK),λI o a7 aK=>dv.chg.frozen a7 (ag I aK),dv.chg.size,⟨rfl,rfl⟩,λl h' cn bY ai bx ck=>?_⟩
        have hst:=a.o.l.step aj ew ex dv bY ai (λg aK=>by
         rcases dv.row with c|⟨r,c,aF⟩
         ·rw[c]at aK;cases aK;exact ck
         ·rw[c]at aK;cases aK
          have:=(eG ew (ex.trans c)).2
          omega)
        exact a.o.stq hst.1 hst.2
       have H:V (w.heap.size<cd.heap.size/\aD<cd.heap.size/\w.heap.size≠b0/\aD≠b0/\b0<cd.heap.size):=⟨a.o.l.g.lt,IR.lt a.o.m,λc=>a.o.l.g.ne (by rw[c]),λc=>a.o.fm.r (by rw[c]),(eG a.o.l.g.own rfl).2⟩
       have ek:=a.o.l.g.free
       clear hb f0 a
       go_upto_region 22 with fail
       clear bc fP
       go_cut [15,16,17] (λer cX eb bb=>∃(X:Nat) (G:List Vl) (r:Int) (bp:Option Addr) (n:Nat) (ah:Option Nat),er=hZ X/\cX=h1 r/\eb=.bool (pG v k)/\V (G=y.1++(ptM (i:Int) v (laM vs i) k d y.1.length).1/\r=(ptM (i:Int) v (laM vs i) k d y.1.length).2)/\V (RB bb X (.slice U Z aM) (.slice bp G.length n) (.slice aa ab aI)/\((∃u,bb.cell? ⟨w.heap.size,0,none⟩=some u)/\(∃u,bb.cell? ⟨w.heap.size,1,none⟩=some u)/\(∃u,bb.cell? ⟨w.heap.size,2,none⟩=some u))/\(∀o,bb.frozen? ⟨w.heap.size,o,none⟩=false))/\V (LG w (fg bb w.heap.size (.slice U Z aM) (.slice bp G.length n) (.slice aa ab aI)) aD A U Z aM aa ab aI ins outs G (y.2.take (s+1)) act base ah bp n))
       case first=>
        have d7:w.heap.size≠cd.heap.size:=ix H.o
        have ga:aD≠cd.heap.size:=ix H.o
        have bL:V (∀I o,I<cd.heap.size->(cd.alloc _).drew.cell? ⟨I,o,none⟩=cd.cell? _):=λI o a7=>(eA 0 0 _ fH).cell a7 xaa
        go_region_held3 (λW:World=>W.cell? ⟨w.heap.size,0,none⟩=some (.slice U Z aM)/\W.cell? ⟨w.heap.size,1,none⟩=some (h0 b0 y.1.length af)/\W.cell? ⟨w.heap.size,2,none⟩=some (.slice aa ab aI)/\W.cell? ⟨aD,i,none⟩=some (h1 d)) (first|go_keep|(simp only[jK _ _ _ _ _ _ _ d7,jK _ _ _ _ _ _ _ ga];exact⟨cg,a1,J,a3⟩)) (first
         |(go_at_call 139;refine yaj (c8.o _ ((eA 0 0 _ _).trans (eF _))) ?_;rintro e bD ⟨G,r,bp,n,ah,rfl,ce,b3,cC,cx,Y⟩;have cg:=(ce _ 0 (by have:=H.o;simp;omega) H.o.2.2.1).trans ((bL.o _ 0 H.o.1).trans aY);have a1:=(ce _ 1 (by have:=H.o;simp;omega) H.o.2.2.1).trans ((bL.o _ 1 H.o.1).trans ar);have J:=(ce _ 2 (by have:=H.o;simp;omega) H.o.2.2.1).trans ((bL.o _ 2 H.o.1).trans aW);have a3:=(ce _ i (by have:=H.o;simp;omega) H.o.2.2.2.1).trans ((bL.o _ i H.o.2.1).trans cq);have cz:V _:=b3;have bP:=ce cd.heap.size 0 xac (ix H.o);have aR:=ce cd.heap.size 1 xac (ix H.o);have bd:=ce cd.heap.size 2 xac (ix H.o);have ee:=b3 cd.heap.size 0 xac (ix H.o);have ef:=b3 cd.heap.size 1 xac (ix H.o);have eg:=b3 cd.heap.size 2 xac (ix H.o);have d6:V _:=cC;clear ce b3 cC)
         |(go_at_call 139;refine yaj (c8.o _ (eF _)) ?_;rintro e bD ⟨G,r,bp,n,ah,rfl,ce,b3,cC,cx,Y⟩;have cg:=(ce _ 0 H.o.1 H.o.2.2.1).trans aY;have a1:=(ce _ 1 H.o.1 H.o.2.2.1).trans ar;have J:=(ce _ 2 H.o.1 H.o.2.2.1).trans aW;have a3:=(ce _ i H.o.2.1 H.o.2.2.2.1).trans cq;have cz:V _:=b3;have b5:w.heap.size≠bD.heap.size:=(by have:=H.o;have:cd.heap.size<=bD.heap.size:=cC;omega);have cA:aD≠bD.heap.size:=(by have:=H.o;have:cd.heap.size<=bD.heap.size:=cC;omega);have d6:V _:=cC;clear ce b3 cC))
        ·have di:cd.heap.size<=bD.heap.size:=d6.o
         have bj:=eA 0 0 bD (.cells #[.slice U Z aM,.slice bp G.length n,.slice aa ab aI] 108)
         have cF:w.heap.size<bD.heap.size:=ix H.o
         have R2:V (RB (bD.alloc (.cells #[.slice U Z aM,.slice bp G.length n,.slice aa ab aI] 108)) bD.heap.size (.slice U Z aM) (.slice bp G.length n) (.slice aa ab aI)/\((∃u,(bD.alloc _).cell? _=some u)/\(∃u,(bD.alloc _).cell? _=some u)/\(∃u,(bD.alloc _).cell? _=some u))/\(∀o,(bD.alloc _).frozen? _=false)):=
          ⟨⟨by simp,by simp,by simp,by simp,by simp,by simp,by simp⟩,⟨⟨_,(bj.cell cF xaa).trans cg⟩,⟨_,(bj.cell cF xaa).trans a1⟩,⟨_,(bj.cell cF xaa).trans J⟩⟩,λo=>(bj.frozen cF xaa).trans ((cz.o _ o H.o.1 H.o.2.2.1).trans (ek o))⟩
         have R3:V _:=Y.o _ bD.heap.size _ (eA _ _ _ (.cells #[.slice U Z aM,.slice bp G.length n,.slice aa ab aI] 108)) di yab (.inl (ix H.o))
         exact xis
        ·have di:=yao (eA 0 0 _ _).size d6.o
         have aX:=fk bD cd.heap.size (.slice U Z aM) (.slice bp G.length n) (.slice aa ab aI)
         have cF:w.heap.size<bD.heap.size:=ix H.o
         have fq:cd.heap.size<bD.heap.size:=yak xac d6.o
         have e7:bD.cell? _=some (.slice none 0 0):=bP.trans xac
         have e9:bD.cell? _=some (.slice none 0 0):=aR.trans xac
         have fa:bD.cell? _=some (.slice none 0 0):=bd.trans xac
         obtain⟨bh,aJ,y2⟩:=fd _ _ _ _ _ e7 e9 fa (.slice U Z aM) (.slice bp G.length n) (.slice aa ab aI)
         have d9:∀o,bD.frozen? _=false:=λo=>(cz.o cd.heap.size o xac (ix H.o)).trans xac
         have ba:∀o,_:=λo=>(cz.o _ o (by have:=H.o;simp;omega) H.o.2.2.1).trans (((eA 0 0 _ _).frozen H.o.1 xaa).trans (ek o))
         have R2:V (RB _ _ _ _ _/\((∃u,(((bD.setCell _ (.slice U Z aM)).setCell _ (.slice bp G.length n)).setCell _ (.slice aa ab aI)).cell? _=some u)/\(∃u,(((bD.setCell _ (.slice U Z aM)).setCell _ (.slice bp G.length n)).setCell _ (.slice aa ab aI)).cell? _=some u)/\(∃u,(((bD.setCell _ (.slice U Z aM)).setCell _ (.slice bp G.length n)).setCell _ (.slice aa ab aI)).cell? _=some u))/\(∀o,(((bD.setCell ⟨cd.heap.size,0,none⟩ (.slice U Z aM)).setCell ⟨cd.heap.size,1,none⟩ (.slice bp G.length n)).setCell ⟨cd.heap.size,2,none⟩ (.slice aa ab aI)).frozen? ⟨w.heap.size,o,none⟩=false)):=
          ⟨⟨yak fq aX.size,bh,aJ,y2,by simp[d9 0],by simp[d9 1],by simp[d9 2]⟩,⟨⟨_,(jK _ _ _ _ _ _ _ d7).trans cg⟩,⟨_,(jK _ _ _ _ _ _ _ d7).trans a1⟩,⟨_,(jK _ _ _ _ _ _ _ d7).trans J⟩⟩,λo=>by simp[ba o]⟩
         have R3:V _:=Y.o _ _ _ aX yad (.inl xac) (.inl H.o.2.2.2.2)
         clear aX e7 e9 fa d9 ba bh aJ y2 bP aR bd ee ef eg
         exact xis
       case rest=>
        clear aY ar aW cq c8 ek
        obtain⟨X,G,r,bp,n,ah,rfl,rfl,rfl,cx,bK,Y⟩:=hcut
        obtain⟨⟨_,bl,aS,a9,bF,bB,bG⟩,⟨⟨_,bH⟩,⟨_,bk⟩,⟨_,p2⟩⟩,ba⟩:=bK.o
        have gs:=ba 0
        have gu:=ba 1
        have gv:=ba 2
        clear ba bK
        go_upto_region 24 with fail
        clear bl aS a9 bF bB bG bH bk p2 gs gu gv
        unfold fg at Y
        generalize ((wc.setCell _ _).setCell ⟨_,1,_⟩ _).setCell _ _=cR at Y⊢
        cases ec:pG v k
        ·have R3:V (∃R J cap,LG w _ _ A _ _ _ _ _ _ _ _ (jS _ _ i _ _).1 ((jS _ _ i _ _).2.take _) _ _ R J cap):=⟨_,_,_,by
          have e:G=y.1:=by rw[cx.o.1];unfold ptM;rw[h6 (by rw[ec];simp)];simp
          rw[fl.o,f5.o,h6 (by rw[ec];simp),<-e]
          exact Y.o⟩
         clear Y cx ec
         exact xen
        ·have cJ:G=y.1++(nD i v (laM vs i) k d y.1.length).1/\r=(nD i v (laM vs i) k d y.1.length).2:=by
          have e:=cx.o
          unfold ptM at e
          rw[h7 ec]at e
          exact e
         have f6:V (jS vs act i st (k+1)=mF vs o r (G,y.2)):=by
          show _=_
          rw[fl.o,f5.o,h7 ec,cJ.1,cJ.2]
         have fv:o<vs.length:=ix N.o
         have g1:G.length<=810000/\o<G.length/\(G.getD o h9).len=(vs.getD o h9).len:=by
          have d4:=zM i v (laM _ i) k d y.1.length (by rw[bX.o];exact(rG (i1 N.o b2.o) i).1) (by rw[bX.o];exact(rG (i1 N.o b2.o) i).2) (rG (i1 N.o b2.o) _).1 (rG (i1 N.o b2.o) _).2
          have e6:Pre vs G:=by rw[cJ.1];exact Pre.app c9.o
          refine⟨?_,(Pre.at_ e6 fv).2,by rw[(Pre.at_ e6 fv).1]⟩
          rw[cJ.1,yal]
          have:=d4.1
          omega
         obtain⟨g1,en,dd⟩:=g1
         have eu:(y.2.take (s+1)).length=s+1:=by rw[List.length_take,cS.o];omega
         have ey:=IR.cell Y.o.m o (i3 eu)
         rw[mR xaa]at ey
         have g3:=IR.free Y.o.m o
         have HQ:V _:=(ha.o o xaa).imp (λc=>c) (λc=>c.1)
         have fm:V ((y.2.take (s+1)).getD o 0=y.2.getD o 0):=mR xaa
         clear cx cJ fv ec
         by_cases aA:y.2.getD o 0=-1
         ·rw[aA]at ey
          have R3:V (∃R J cap,LG w _ _ A _ _ _ _ _ _ _ _ (jS _ _ i _ _).1 ((jS _ _ i _ _).2.take _) _ _ R J cap):=⟨_,_,_,by
           have h:=Y.o.set o r
           rw[f6.o]
           unfold mF
           rw[h7 aA]
           rw[rH]at h
           exact h⟩
          clear Y aA HQ fm
          exact xen
         ·have f4:V (jS vs act i st (k+1)=(G++[eJ 2 (vs.getD o h9).len (y.2.getD o 0) r 0],y.2.set o (G.length:Nat))):=by
           show _=_
           rw[f6.o]
           unfold mF
           rw[h6 aA]
          have g0:¬(y.2.getD o 0<0):=by rcases HQ.o with c|c;exact absurd c aA;omega
          generalize y.2.getD o 0=q at ey g0 f4 fm
          obtain⟨hk,rfl,rfl,_,_⟩:=Y.o.l.read xaa
          clear aA HQ f6 f5 fc
          go_upto_region 27 with fail
          clear ey g3
          refine fh (Ot Y xaa en xaa eu dd fm.o ?_)
          intro hh aC cap' _ _ _ _ _ _ _ _ _ _ _ _ _ _ bQ
          unfold hZ
          have gR:(G++[eJ 2 (vs.getD o h9).len q r 0]).length=G.length+1:=by simp
          generalize G++[eJ 2 _ q r 0]=gw at bQ f4 gR
          have aY:=bQ.o.l.g.c0
          have ar:=bQ.o.l.g.c1
          have aW:=bQ.o.l.g.c2
          have b:V _:=λW=>iY W U (some ⟨aC,0,none⟩) aa Z aM _ cap' ab aI (show gw.length<=1000000 by omega)
          rw[show(gw.length:Int)-1=(G.length:Nat) by omega]at b
          clear Y gR fm g0
          go_wp2_with fail
          refine yaj (b.o _) ?_
          rintro e hm ⟨rfl,g2⟩
          have S:V _:=bQ.o.keep g2
          have ey:=IR.cell S.o.m o (i3 eu)
          have g3:=IR.free S.o.m o
          generalize (y.2.take _).getD o 0=g4 at ey
          have R3:V (∃R J cap,LG w _ _ A _ _ _ _ _ _ _ _ (jS _ _ i _ _).1 ((jS _ _ i _ _).2.take _) _ _ R J cap):=⟨_,_,_,by
           have h:=S.o.set o ((G.length:Nat):Int)
           rw[f4.o]
           rw[rH]at h
           exact h⟩
          clear bQ S b aY ar aW g2
          exact xen
     ·have bM:¬(k<(cnt v.op:Int)):=xaa
      have d3:k=cnt v.op:=xaa
      have R2:V (∃R J cap,LG w _ _ A _ _ _ _ _ _ _ _ (gdn _ _ s _).1 ((gdn _ _ s _).2.take _) _ _ R J cap):=⟨_,_,_,by rw[gz.o d3];exact au.o⟩
      clear d3 au al
      exact xdy
   have fu:¬((x:Int)<i):=xaa
   have d2:j=s-x:=xaa
   subst d2
   have cq:=IR.cell m.m x (by rw[List.length_take,aL.l];omega)
   rw[mR xaa]at cq
   have fz:=aL.i x ap
   have hg:=aL.z.1
   have hf:(gdn vs act s (s-x)).1.length<=800000:=xaa
   have ev:0<(gdn vs act s (s-x)).1.length:=by
    obtain⟨r,e⟩:=aL.p
    rw[e,yal,N.o]
    omega
   have dT:V (grM vs s x=if (gdn vs act s (s-x)).2.getD x 0=-1 then ((gdn vs act s (s-x)).1++[eJ 1 bE 0 0 0],(((gdn vs act s (s-x)).1.length:Nat):Int))else ((gdn vs act s (s-x)).1,(gdn vs act s (s-x)).2.getD x 0)):=by
    show _=_
    rw[bv.o,<-f7.o]
    rfl
   obtain⟨b0,rfl,rfl,_,_⟩:=m.l.read ev
   have HL:V _:=m.l
   have g5:V (aD≠w.heap.size+1/\aD≠w.heap.size):=⟨ix m.fm.p,ix m.fm.p⟩
   have cu:(x:Int)<s+1:=xaa
   generalize (gdn _ _ s _).2.getD x 0=mm at cq fz dT
   clear aL m hg bv
   generalize (gdn _ _ s _).1=us at HL dT hf ev
   have aY:=HL.o.g.c0
   have ar:=HL.o.g.c1
   have aW:=HL.o.g.c2
   obtain⟨_,bl,aS,a9,bF,bB,bG⟩:=HL.o.b
   by_cases aA:mm=-1
   ·subst aA
    have bW:V (grM vs s x=(us++[eJ 1 bE 0 0 0],(us.length:Int))):=by
     show _=_
     rw[dT.o,h7 rfl]
    clear dT fz bl aS a9 bF bB bG
    go_upto_region 30 with fail
    clear cq
    go_cut [] (λbb=>∃aC cap',V (LK w bb U Z aM aa ab aI ins outs (us++[eJ 1 bE 0 0 0]) base (some aC) (some ⟨aC,0,none⟩) cap'))
    case first=>
     go_region_with (first
      |(go_at_call 78;refine yaj (LK.call HL.o ((eF _).trans an) _ xaa) ?_;rintro e am ⟨aC,cap',rfl,⟨_,bq⟩,⟨_,aq⟩,⟨_,aT⟩,ak,bU⟩;have bR:=ak 0;have bS:=ak 1;have bT:=ak 2;have co:V _:=bU.o.1;clear ak bU)
      |(go_at_call 94;refine yaj (pt _ _) ?_;rintro e aH ⟨rfl,an⟩;have bH:=(LK.keep HL.o ((eF _).trans an)).g.c0;have bk:=(LK.keep HL.o ((eF _).trans an)).g.c1;have p2:=(LK.keep HL.o ((eF _).trans an)).g.c2))
     all_goals (go_wp2_with fail;go_meet;exact⟨_,_,co⟩)
    case rest=>
     obtain⟨aC,cap',bU⟩:=hcut
     have ci:(us++[eJ 1 bE 0 0 0]).length=us.length+1:=by simp
     generalize a6:us++[eJ 1 _ 0 0 0]=G at bU bW ci
     clear aY ar aW a6 HL
     have aY:=bU.o.g.c0
     have ar:=bU.o.g.c1
     have aW:=bU.o.g.c2
     obtain⟨_,bl,aS,a9,bF,bB,bG⟩:=bU.o.b
     have b:V _:=λW=>iY W U (some ⟨aC,0,none⟩) aa Z aM _ cap' ab aI (show G.length<=1000000 by have:=ci;omega)
     rw[show(G.length:Int)-1=(us.length:Nat) by omega]at b
     clear ci
     go_wp2_with fail
     go_region_with (first
      |(go_at_call 85;refine yaj (b.o _) ?_;rintro e aU ⟨rfl,aZ⟩;clear bl aS a9 bF bB bG;have aP:=(bU.o.keep ((eF _).trans aZ)).g.c0;have ay:=(bU.o.keep ((eF _).trans aZ)).g.c1;have aB:=(bU.o.keep ((eF _).trans aZ)).g.c2;obtain⟨_,bl,aS,a9,bF,bB,bG⟩:=(bU.o.keep ((eF _).trans aZ)).b))
     all_goals
      have d5:V _:=bU.o.a4
      have R1:V _:=bU.o.fin ((eF _).trans aZ)
      obtain⟨bh,aJ,y2⟩:=fd _ _ _ _ _ bl aS a9 (.slice U Z aM) (h0 aC G.length cap') (.slice aa ab aI)
      go_wp2_with fail
      refine yaz (v:=.tuple #[eX U Z aM (some ⟨aC,0,none⟩) G.length cap' aa ab aI,h1 us.length]) (by simp[results,results134,go_sem,bh,aJ,y2]) rfl ⟨?_,R1.o.2⟩
      rw[bW.o]
      exact⟨_,_,_,_,_,_,rfl,R1.o.1.1,R1.o.1.2.1,R1.o.1.2.2,d5.o⟩
   have bW:V (grM vs s x=(us,mm)):=by
    show _=_
    rw[dT.o,h6 aA]
   have gT:¬(mm<0):=by rcases fz with c|c;exact absurd c aA;omega
   obtain⟨bh,aJ,y2⟩:=fd _ _ _ _ _ bl aS a9 (.slice U Z aM) (h0 b0 us.length eT) (.slice aa ab aI)
   have gb:w.heap.size≠w.heap.size+1:=xaa
   have e1:=g5.o.1
   have hd:=Ne.symm e1
   have cp:V (∀X bo cl:Value,(((wr.setCell _ X).setCell _ bo).setCell _ cl).drew.cell? _=some _):=λX bo cl=>(jK _ _ _ _ X bo cl e1).trans cq
   exact qgd):Zp:=h
theorem t.qge(h:Zp:=by
 clear dT fz aA;go_upto_region 32 with fail;go_region_held3 (λW:World=>W.cell? ⟨w.heap.size,0,none⟩=some (.slice U Z aM)/\W.cell? ⟨w.heap.size,1,none⟩=some (h0 b0 us.length eT)/\W.cell? ⟨w.heap.size,2,none⟩=some (.slice aa ab aI)/\W.cell? ⟨aD,x,none⟩=some (h1 mm)) (first|go_keep|(exact⟨(cO.o _ _ _ _).trans aY,(cO.o _ _ _ _).trans ar,(cO.o _ _ _ _).trans aW,cp.o _ _ _⟩)) (fail)
 all_goals
  go_wp2_with fail
  refine yaz (v:=.tuple #[eX U Z aM (some ⟨b0,0,none⟩) us.length eT aa ab aI,h1 mm]) (by simp[results,results134,go_sem,bh,aJ,y2]) rfl ⟨?_,R1.o.2⟩
  rw[bW.o]
  exact⟨_,_,_,_,_,_,rfl,R1.o.1.1,R1.o.1.2.1,R1.o.1.2.2,d5.o⟩):Zp:=h
open t in
theorem A0(w K P a0 Z c1 ae c2 ab c3 s x ins vs outs)(f:GS w K Z (some ⟨a0,0,none⟩) ae P ab ins vs outs)(cQ:VA w a0 ae vs)(b6:Z<=1000000)(cf:ae<=2000)(b7:ab<=1000000)(Q:(List.range ae).all (okV ins vs)=true)(cN:eZ vs<=50000)(aw:s<ae)(ap:x<ae)(az:(jo vs x (s-x)).getD s false=true):
  Calls prog 134 #[eX K Z c1 (some ⟨a0,0,none⟩) ae c2 P ab c3,h1 s,h1 x] w λe B=>v7 w B Z ab ins outs (grM vs s x) e/\Kept 0 0 w B:=by
 have bv:V (grM vs s x=NR vs x (gdn vs (jo vs x (s-x)) s (s-x))):=by
  show _=_;unfold grM Gy;rw[h7 az,ux _ _ _ _ _ yad]
 have gg:¬s<x:=λc=>by
  rw[show s-x=0 by omega,jo,tv xaa,yai,List.getElem?_replicate]at az
  split at az<;>simp at az
 exact qdr
