import Derived.Test.YtdpbpcnldpkljaaGreatP47
import Derived.Test.YtdpbpcnldpkljaaGreatP43
namespace Go.Proofs.Z
open Tryz Go.RowKit Flt
set_option maxRecDepth 1000000
set_option maxHeartbeats 0
section
attribute [local go_sem] eD eB eA
variable {k:Tok}{st:LSt}{a x d:Nat}
def IL (k:Tok)(a v:Nat)(r2:Rs (LSt×Nat)):Rs (LSt×Nat):=match r2 with
 |.error f=>.error f
 |.ok (s2,y)=>mD s2 k a v y
def G8 (k:Tok)(q:Rs Nat)(r1 r2:Rs (LSt×Nat)):Rs (LSt×Nat):=match q with
 |.error f=>.error f
 |.ok v=>match r1 with
  |.error f=>.error f
  |.ok (_,a)=>IL k a v r2
def IM (k:Tok)(a v:Nat)(r3:Rs (LSt×Nat)):Rs (LSt×Nat):=match r3 with
 |.error f=>.error f
 |.ok (s3,d)=>gZ s3 (iy s3.vs a v d) k.pos
theorem yC (h1:eU st d=1)(h2:1<eU st x):mD st k a x d=IM k a x (fI st (eI 10 (eU st x) (d:Int) 0 0) k.pos):=by
 unfold mD
 rw[if_pos ⟨h1,h2⟩]
 rfl
theorem BF (h1:eU st d≠1)(h2:eU st d≠eU st x):mD st k a x d=.error (4,k.pos):=by
 unfold mD
 rw[if_neg (λc=>h1 c.1),if_pos h2]
theorem q8 (h1:¬(eU st d=1/\1<eU st x))(h2:eU st d=eU st x):mD st k a x d=gZ st (iy st.vs a x d) k.pos:=by
 unfold mD
 rw[if_neg h1,if_neg (λc=>c h2)]
theorem yD {W:World}{P B:Nat}{u1 u2 u3 u4:Value}{bs:List Bc}{aL:Option Addr}{nL cL:Nat}{loc:Loc}(h:WS W P B u1 u2 u3 u4 bs st)(hm:st.names.length<=5000)(hL:LcR (Mst P u1 u2 u3 u4) W aL nL loc)(hn:nL<=5000)(kp:Nat)(kt:List UInt8){gr ns cp q o n0 c0 q1 o1 c1 q2 o2 n2 c2:Nat}(xt:Tok)(hns:3<=ns)(hgr:gr<W.heap.size)(hgM:¬Mst P u1 u2 u3 u4 gr)(hS:W.cell? ⟨gr,0,none⟩=some (.slice (some ⟨q,o,none⟩) n0 c0))(hS1:Sg1 W gr 1 q1 o1 c1 xt)(hS2:W.cell? ⟨gr,2,none⟩=some (.slice (some ⟨q2,o2,none⟩) n2 c2))(r1 r2:Rs (LSt×Nat))(hG:(∃v,fh st loc xt=.ok v)->RsG st r1)(hv:∀v,fh st loc xt=.ok v->v<st.vs.length)(hG2:(∃v,fh st loc xt=.ok v)->∀s a,r1=.ok (s,a)->RsG s r2)
  (HC:(∃v,fh st loc xt=.ok v)->∀W',Kept 0 0 W W'->Calls prog 75 #[.pointer (some ⟨P,0,none⟩),.slice aL nL cL,.slice (some ⟨q,o,none⟩) n0 c0] W' (TrO W' P B u1 u2 u3 u4 bs r1))
  (HC2:(∃v,fh st loc xt=.ok v)->∀s a,r1=.ok (s,a)->∀W' z1 z2 z3 z4,WS W' P B z1 z2 z3 z4 bs s->Mv (Mst P u1 u2 u3 u4) W (Mst P z1 z2 z3 z4) W'->Calls prog 75 #[.pointer (some ⟨P,0,none⟩),.slice aL nL cL,.slice (some ⟨q2,o2,none⟩) n2 c2] W' (TrO W' P B z1 z2 z3 z4 bs r2)):
  Calls prog 113 #[.pointer (some ⟨P,0,none⟩),.slice aL nL cL,ik ⟨[106,118,112],kp,kt⟩,.slice (some ⟨gr,0,none⟩) ns cp] W (TrO W P B u1 u2 u3 u4 bs (G8 ⟨[106,118,112],kp,kt⟩ (fh st loc xt) r1 r2)):=by
 have HB:Hid (TB (W.alloc (.cells #[eE [106,118,112],.int .i64 (kp:Int),eE kt] 74)) W.heap.size [106,118,112] kp kt):=gH W [106,118,112] kp kt
 have HK:Hid _:=ez 0 0 W (.cells #[eE [106,118,112],.int .i64 (kp:Int),eE kt] 74)
 have HF:Hid _:=h.far
 have HS0:Hid (∀W',Kept 0 0 W W'->W'.cell? ⟨gr,0,none⟩=some (.slice (some ⟨q,o,none⟩) n0 c0)):=λW' kk=>(kk.cell (p:=⟨gr,0,none⟩) hgr xaa).trans hS
 have HS1:Hid _:=hS1
 have HS2:Hid (∀W' M',Mv (Mst P u1 u2 u3 u4) W M' W'->W'.cell? ⟨gr,2,none⟩=some (.slice (some ⟨q2,o2,none⟩) n2 c2)):=λW' M' kk=>(kk.chg.cell (p:=⟨gr,2,none⟩) hgr hgM).trans hS2
 have HV:Hid (∀W',Kept 0 0 W W'->_):=λW' kk=>sx (h.keep kk) hm aL nL cL loc (hL.keep kk) hn xt
 have HC':Hid _:=HC
 have HC2':Hid _:=HC2
 have HG:Hid _:=hG
 have HG2:Hid _:=hG2
 have HVl:Hid _:=hv
 obtain⟨r,hr⟩:∃r,r=G8 ⟨[106,118,112],kp,kt⟩ (fh st loc xt) r1 r2:=⟨_,rfl⟩
 rw[<-hr]
 have HR:Hid _:=hr
 clear hr h hG HC hS hS1 hS2 hv hL hm HC2 hG2 hgM
 unfold ik at HV ⊢
 obtain⟨xs,xp,xx⟩:=xt
 simp only at HV ⊢
 go_enter func113,ntmps113
 go_upto_region 2 with fail
 change Code.wp _ _ _ _ (W.alloc (.cells #[eE [106,118,112],.int .i64 (kp:Int),eE kt] 74))
 generalize W.alloc (.cells #[eE [106,118,112],.int .i64 (kp:Int),eE kt] 74)=W1 at HB HK ⊢
 generalize W.heap.size=bx at HB HF hgr ⊢
 have HV1:Hid _:=HV.out W1 HK.out
 obtain⟨s1,s2,s3,s4⟩:=(HS1.out.keep HK.out).cells
 simp only at s2 s3 s4
 have b0:=HB.out.c0
 clear HV HS1
 generalize fh st loc ⟨xs,xp,xx⟩=qv at HV1 HR HVl HC' HG HC2' HG2
 rcases qv with⟨c,p⟩|v
 ·exact xei
 ·have hv0:¬((v:Int)<0):=xaa
  go_upto_region 6 with (go_at_call 110;refine yai HV1.out ?_;rintro e w2 ⟨rfl,k2⟩)
  have HK2:Hid _:=HK.out.trans k2
  have HBa:Hid _:=HB.out.keep k2
  have s0:=HS0.out w2 HK2.out
  have HC1:Hid _:=HC'.out ⟨v,rfl⟩ w2 HK2.out
  clear HV1 HB HK k2 b0 s1 s2 s3 s4 HS0 HC'
  rcases r1 with⟨c,p⟩|⟨s,a⟩
  ·exact xgs
  ·obtain⟨w,ha⟩:=HG.out ⟨v,rfl⟩ s a rfl
   have hx:=yaj (HVl.out v rfl) w.n
   have ha0:¬((a:Int)<0):=xaa
   go_upto_region 7 with (go_at_call 75;refine yai HC1.out ?_;rintro e w3 ⟨rfl,v1,v2,v3,v4,hW3,hM3⟩)
   have HB3:Hid _:=HBa.out.keepC hM3.chg HF.out
   have HF3:Hid (¬Mst P v1 v2 v3 v4 bx):=λc=>(hM3.new bx c).elim HF.out (λc=>by have:=HBa.out.lt;omega)
   obtain⟨gv,cv,e2,hgv,cl⟩:=hW3.lenc ha
   have HM:Hid _:=(Mv.of HK2.out).trans hM3
   have d0:=HB3.out.c0
   have hN:=w.g.n
   have p1:=hW3.c1
   rw[e2] at p1
   have s2:=HS2.out w3 _ HM.out
   have HR2:Hid (r=IL ⟨[106,118,112],kp,kt⟩ a v r2):=HR.out
   have HC3:Hid _:=HC2'.out ⟨v,rfl⟩ s a rfl w3 v1 v2 v3 v4 hW3 HM.out
   have HG3:Hid _:=HG2.out ⟨v,rfl⟩ s a rfl
   clear HR HC1 HBa s0 hM3 hW3 HC2' HG2 HG HVl HF HK2 e2 hgv HS2
   generalize eU s a=l at cl
   generalize hNN:s.vs.length=N at*
   go_upto_region 22 with fail
   clear cl p1
   rcases r2 with⟨c,p⟩|⟨s2',y⟩
   ·go_wp2_with (go_at_call 75;refine yai HC3.out ?_;rintro e w4 ⟨rfl,hT⟩)
    go_ret
    rw[HR2.out]
    exact TrO.after HM.out ⟨rfl,hT⟩
   ·obtain⟨gw2,hy⟩:=HG3.out s2' y rfl
    subst hNN
    have hx2:=yaj hx gw2.n
    have ha2:=yaj ha gw2.n
    have hy0:¬((y:Int)<0):=xaa
    clear hN
    generalize s.vs.length=N at*
    go_upto_region 25 with (go_at_call 75;refine yai HC3.out ?_;rintro e w4 ⟨rfl,z1,z2,z3,z4,hW4,hM4⟩)
    have HB4:Hid _:=HB3.out.keepC hM4.chg HF3.out
    have HF4:Hid (¬Mst P z1 z2 z3 z4 bx):=λc=>(hM4.new bx c).elim HF3.out (λc=>by have:=HB3.out.lt;omega)
    have HM4:Hid _:=HM.out.trans hM4
    have HR3:Hid (r=mD s2' ⟨[106,118,112],kp,kt⟩ a v y):=HR2.out
    have hgd4:=gw2.g
    have lxB:=hgd4.lenB hx2
    obtain⟨gv4,cv4,e4,hg4,clx⟩:=hW4.lenc hx2
    obtain⟨gv5,cv5,e5,_,cly⟩:=hW4.lenc hy
    rw[e4] at e5
    cases e5
    have p1:=hW4.c1
    rw[e4] at p1
    have hN:=hgd4.n
    have b1:=HB4.out.c1
    clear HC3 HR2 hM4 HM HB3 HF3 HG3 d0 s2 gw2 hg4
    by_cases h1:eU s2' y=1
    ·by_cases h2:1<eU s2' v
     ·have HP:Hid _:=yC (k:=⟨[106,118,112],kp,kt⟩) (a:=a) h1 h2
      have HR4:Hid (r=IM ⟨[106,118,112],kp,kt⟩ a v (fI s2' (eI 10 (eU s2' v) (y:Int) 0 0) kp)):=HR3.out.trans HP.out
      have HOk:Hid _:=λs3 d2 (hp:fI s2' (eI 10 (eU s2' v) (y:Int) 0 0) kp=.ok (s3,d2))=>lN hgd4 (hgd4.v.p10 lxB (by have ld:=i5 hy;rw[h1] at ld;exact ld)) hp
      have HPt:Hid (∀W',Kept 0 0 w4 W'->Calls prog 78 #[.pointer (some ⟨P,0,none⟩),(eI 10 (eU s2' v) (y:Int) 0 0).agg,.int .i64 (kp:Int)] W' λe W''=>Hid (TrO w4 P B z1 z2 z3 z4 bs (fI s2' (eI 10 (eU s2' v) (y:Int) 0 0) kp) e W'')/\(∃x:Int,e=.returned (.int .i64 x))/\W''.cell? ⟨bx,1,none⟩=some (.int .i64 (kp:Int))):=λW' kk=>yai (jV (hW4.keep kk) hgd4 (eI 10 (eU s2' v) (y:Int) 0 0) lxB yag kp) (λe W'' t=>⟨TrO.back kk t,t.ret,(t.chg.cell (p:=⟨bx,1,none⟩) (HB4.out.keep kk).lt HF4.out).trans (HB4.out.keep kk).c1⟩)
      have HLx:Hid (∀s3,Gw s2' s3->eU s3 v=eU s2' v):=λs3 w1=>w1.l v hx2
      rw[h1] at cly
      clear HR3 HP
      generalize hpm:fI s2' (eI 10 (eU s2' v) (y:Int) 0 0) kp=r3 at HR4 HOk HPt
      clear hpm
      generalize hlx:eU s2' v=lx at*
      clear hlx
      clear hW4
      subst e4
      rcases r3 with⟨c,p⟩|⟨s3,d2⟩
      ·generalize s2'.vs.length=NN at*
       go_upto_region 27 with fail
       clear clx cly p1
       go_region_held3 (λw'=>w'.cell? ⟨bx,1,none⟩=some (.int .i64 (kp:Int))) (go_keep)
        (first
         |(go_at_call 26;refine yai (gj _ _ _ _ _ _) ?_;rintro e w6 ⟨rfl,k6⟩;have t1:=(HB4.out.keep ((eC w4).trans k6)).c1)
         |(go_at_call 78;refine yai (HPt.out _ ((eC w4).trans k6)) ?_;rintro e w7 ⟨hT,⟨_,_⟩,g1⟩;obtain rfl:=hT.out.1))
       all_goals (
        go_wp2_with fail
        go_ret
        rw[HR4.out]
        exact TrO.after HM4.out ⟨rfl,hT.out.2⟩)
      ·obtain⟨w1,hdT,hl3⟩:=HOk.out s3 d2 rfl
       have hd0:¬((d2:Int)<0):=xaa
       have haT:=yaj ha2 w1.n
       have hxT:=yaj hx2 w1.n
       have hl4:=HLx.out s3 w1
       have hgd:=w1.g
       have HRT:Hid (r=gZ s3 (iy s3.vs a v d2) kp):=HR4.out
       have hln:Ln s3.vs (d2:Int) (iD s3.vs (v:Int)):=by
        have l2:=i5 hdT
        rw[iC,show(s3.vs.getD v Vl.zero).len=eU s3 v from rfl,hl4,<-(show eU s3 d2=lx from hl3)]
        exact l2
       have hlT:eU s3 d2=lx:=hl3
       clear HR4 HOk HLx w1 hl3 hl4 lxB
       generalize s2'.vs.length=NN at*
       go_upto_region 27 with fail
       clear clx cly p1
       go_region_held3 (λw'=>w'.cell? ⟨bx,1,none⟩=some (.int .i64 (kp:Int))) (go_keep)
        (first
         |(go_at_call 26;refine yai (gj _ _ _ _ _ _) ?_;rintro e w6 ⟨rfl,k6⟩;have t1:=(HB4.out.keep ((eC w4).trans k6)).c1)
         |(go_at_call 78;refine yai (HPt.out _ ((eC w4).trans k6)) ?_;rintro e w7 ⟨hT,⟨_,_⟩,g1⟩;obtain rfl:=hT.out.1))
       all_goals (
        obtain⟨_,y1,y2,y3,y4,hWT,hMT⟩:=hT.out
        have HMT:Hid _:=HM4.out.trans hMT
        have HBT:Hid _:=HB4.out.keepC hMT.chg HF4.out
        clear hT hMT HM4 HB4 HPt
        obtain⟨a1,x1,g2,x2,a3,x3,e1,e2',e3,_,hjc⟩:=hWT.grad hgd haT hxT
        have hgc:=hjc d2
        obtain⟨gm1,gm2,gm3⟩:=kJ hgd.v haT hxT hln
        obtain⟨j,hj⟩:∃j:Nat,(iy s3.vs a v d2).2=(j:Int):=⟨_,(Int.toNat_of_nonneg gm2.1).symm⟩
        have HR4:Hid (r=if ji (iy s3.vs a v d2).1=true then .error (5,kp) else .ok ({s3 with vs:=(iy s3.vs a v d2).1},j)):=by
         show r=_
         rw[HRT.out]
         unfold gZ
         rw[hj,Int.toNat_natCast]
        have hlen:∀k,k<(iy s3.vs a v d2).1.length->1<=((iy s3.vs a v d2).1.getD k Vl.zero).len/\((iy s3.vs a v d2).1.getD k Vl.zero).len<=1000:=λk hk=>il (gm1.1 k hk)
        obtain⟨gvT,cvT,eT,_,clT⟩:=hWT.lenc hdT
        rw[eT] at e2'
        cases e2'
        rw[hlT] at clT
        have p0:=hWT.c0
        have p1:=hWT.c1
        have p2:=hWT.c2
        subst e1 eT e3
        have HGr:Hid _:=hgc
        have hk2:=gm1.2
        generalize iy s3.vs a v d2=MM at*
        obtain⟨M1,M2⟩:=MM
        simp only at hj hlen hk2 HR4
        subst hj
        have HBc:Hid (∀W' b1 d1 a2 cap b3 d3,Kept 0 0 w7 W'->W'.ownsRow w7.heap.size 3 1 (.slice b1 s3.ins.length d1) s3.ins.length (s3.ins.map (Value.int .i64))->W'.ownsRow w7.heap.size 35 6 (.slice a2 M1.length cap) M1.length (fp M1)->W'.ownsRow w7.heap.size 3 1 (.slice b3 s3.outs.length d3) s3.outs.length (s3.outs.map (Value.int .i64))->Apart (.slice b1 s3.ins.length d1) (.slice b3 s3.outs.length d3)->Calls prog 129 #[.pointer (some ⟨P,0,none⟩),eR b1 s3.ins.length d1 a2 M1.length cap b3 s3.outs.length d3,.int .i64 (j:Int),.int .i64 (kp:Int)] W' λe W''=>(∃x:Int,e=.returned (.int .i64 x))/\Hid (TrO W P B u1 u2 u3 u4 bs r e W'')):=λW' b1 d1 a2 cap b3 d3 kk q1 q2 q3 ap=>yai (m8 hWT kk q1 q2 q3 ap hk2 hlen j kp) (λe W'' t=>⟨t.ret,by
         show TrO W P B u1 u2 u3 u4 bs r e W''
         rw[HR4.out]
         exact TrO.after HMT.out t⟩)
        clear hgc hjc hWT HRT HR4 gm1 gm2 gm3 hlen hk2 hgd HMT hln
        generalize s3.vs.length=NT at*
        generalize s3.ins.length=nI at*
        generalize s3.outs.length=nO at*
        go_upto_region 33 with (go_at_call 130;refine yai HGr.out ?_;rintro e w8 ⟨⟨b1,dd1,b3,dd3,a2,cap2,rfl,q1,q2,q3,ap⟩,k8⟩)
        have HBd:Hid (∀W',Kept 0 0 w8 W'->_):=λW' kk=>HBc.out W' b1 dd1 a2 cap2 b3 dd3 (k8.trans kk) (eO q1 kk) (eO q2 kk) (eO q3 kk) ap
        have HBe:Hid (∀W',Kept 0 0 w8 W'->_):=λW' kk=>(HBT.out.keep (k8.trans kk)).c1
        clear q1 q2 q3 ap HBc HGr clT p0 p1 p2
        have d2:=HBe.out _ (ez 0 0 w8 (eP b1 nI dd1 a2 M1.length cap2 b3 nO dd3))
        have HB6:Hid _:=HBd.out _ (ez 0 0 w8 (eP b1 nI dd1 a2 M1.length cap2 b3 nO dd3))
        go_wp2_with (go_at_call 129;refine yai HB6.out ?_;rintro e w9 ⟨⟨x,rfl⟩,hT⟩)
        go_ret
        exact hT.out)
     ·have hlx1:eU s2' v=1:=xaa
      have HRT:Hid (r=gZ s2' (iy s2'.vs a v y) kp):=HR3.out.trans (q8 (λc=>h2 c.2) (h1.trans hlx1.symm))
      have hln:Ln s2'.vs (y:Int) (iD s2'.vs (v:Int)):=by
       have l2:=i5 hy
       rw[iC,show(s2'.vs.getD v Vl.zero).len=eU s2' v from rfl,hlx1,<-h1]
       exact l2
      rw[h1] at cly
      rw[hlx1] at clx
      have hlT:eU s2' y=1:=h1
      have hdT:=hy
      have haT:=ha2
      have hxT:=hx2
      have hgd:=hgd4
      have hWT:=hW4
      have HMT:Hid _:=HM4.out
      have HBT:Hid _:=HB4.out
      clear HR3 hW4 HM4 HB4 lxB hgd4
      obtain⟨a1,x1,g2,x2,a3,x3,e1,e2',e3,_,hjc⟩:=hWT.grad hgd haT hxT
      have hgc:=hjc y
      obtain⟨gm1,gm2,gm3⟩:=kJ hgd.v haT hxT hln
      obtain⟨j,hj⟩:∃j:Nat,(iy s2'.vs a v y).2=(j:Int):=⟨_,(Int.toNat_of_nonneg gm2.1).symm⟩
      have HR4:Hid (r=if ji (iy s2'.vs a v y).1=true then .error (5,kp) else .ok ({s2' with vs:=(iy s2'.vs a v y).1},j)):=by
       show r=_
       rw[HRT.out]
       unfold gZ
       rw[hj,Int.toNat_natCast]
      have hlen:∀k,k<(iy s2'.vs a v y).1.length->1<=((iy s2'.vs a v y).1.getD k Vl.zero).len/\((iy s2'.vs a v y).1.getD k Vl.zero).len<=1000:=λk hk=>il (gm1.1 k hk)
      obtain⟨gvT,cvT,eT,_,clT⟩:=hWT.lenc hdT
      rw[eT] at e2'
      cases e2'
      rw[hlT] at clT
      have p0:=hWT.c0
      have p1:=hWT.c1
      have p2:=hWT.c2
      subst e1 eT e3
      have HGr:Hid _:=hgc
      have hk2:=gm1.2
      generalize iy s2'.vs a v y=MM at*
      obtain⟨M1,M2⟩:=MM
      simp only at hj hlen hk2 HR4
      subst hj
      have HBc:Hid (∀W' b1 d1 a2 cap b3 d3,Kept 0 0 w4 W'->W'.ownsRow w4.heap.size 3 1 (.slice b1 s2'.ins.length d1) s2'.ins.length (s2'.ins.map (Value.int .i64))->W'.ownsRow w4.heap.size 35 6 (.slice a2 M1.length cap) M1.length (fp M1)->W'.ownsRow w4.heap.size 3 1 (.slice b3 s2'.outs.length d3) s2'.outs.length (s2'.outs.map (Value.int .i64))->Apart (.slice b1 s2'.ins.length d1) (.slice b3 s2'.outs.length d3)->Calls prog 129 #[.pointer (some ⟨P,0,none⟩),eR b1 s2'.ins.length d1 a2 M1.length cap b3 s2'.outs.length d3,.int .i64 (j:Int),.int .i64 (kp:Int)] W' λe W''=>(∃x:Int,e=.returned (.int .i64 x))/\Hid (TrO W P B u1 u2 u3 u4 bs r e W'')):=λW' b1 d1 a2 cap b3 d3 kk q1 q2 q3 ap=>yai (m8 hWT kk q1 q2 q3 ap hk2 hlen j kp) (λe W'' t=>⟨t.ret,by
       show TrO W P B u1 u2 u3 u4 bs r e W''
       rw[HR4.out]
       exact TrO.after HMT.out t⟩)
      clear hgc hjc hWT HRT HR4 gm1 gm2 gm3 hlen hk2 hgd HMT hln
      exact xbw
    ·by_cases h2:eU s2' y=eU s2' v
     ·have HRT:Hid (r=gZ s2' (iy s2'.vs a v y) kp):=HR3.out.trans (q8 (λc=>h1 c.1) h2)
      have hln:Ln s2'.vs (y:Int) (iD s2'.vs (v:Int)):=by
       have l2:=i5 hy
       rw[iC,show(s2'.vs.getD v Vl.zero).len=eU s2' v from rfl,<-h2]
       exact l2
      rw[<-h2] at clx
      have hlT:eU s2' y=eU s2' y:=rfl
      have hdT:=hy
      have haT:=ha2
      have hxT:=hx2
      have hgd:=hgd4
      have hWT:=hW4
      have h1':(eU s2' y==1)=false:=yaw h1
      have HMT:Hid _:=HM4.out
      have HBT:Hid _:=HB4.out
      clear HR3 hW4 HM4 HB4 lxB hgd4
      obtain⟨a1,x1,g2,x2,a3,x3,e1,e2',e3,_,hjc⟩:=hWT.grad hgd haT hxT
      have hgc:=hjc y
      obtain⟨gm1,gm2,gm3⟩:=kJ hgd.v haT hxT hln
      obtain⟨j,hj⟩:∃j:Nat,(iy s2'.vs a v y).2=(j:Int):=⟨_,(Int.toNat_of_nonneg gm2.1).symm⟩
      have HR4:Hid (r=if ji (iy s2'.vs a v y).1=true then .error (5,kp) else .ok ({s2' with vs:=(iy s2'.vs a v y).1},j)):=by
       show r=_
       rw[HRT.out]
       unfold gZ
       rw[hj,Int.toNat_natCast]
      have hlen:∀k,k<(iy s2'.vs a v y).1.length->1<=((iy s2'.vs a v y).1.getD k Vl.zero).len/\((iy s2'.vs a v y).1.getD k Vl.zero).len<=1000:=λk hk=>il (gm1.1 k hk)
      obtain⟨gvT,cvT,eT,_,clT⟩:=hWT.lenc hdT
      rw[eT] at e2'
      cases e2'
      rw[hlT] at clT
      have p0:=hWT.c0
      have p1:=hWT.c1
      have p2:=hWT.c2
      subst e1 eT e3
      have HGr:Hid _:=hgc
      have hk2:=gm1.2
      generalize iy s2'.vs a v y=MM at*
      obtain⟨M1,M2⟩:=MM
      simp only at hj hlen hk2 HR4
      subst hj
      have HBc:Hid (∀W' b1 d1 a2 cap b3 d3,Kept 0 0 w4 W'->W'.ownsRow w4.heap.size 3 1 (.slice b1 s2'.ins.length d1) s2'.ins.length (s2'.ins.map (Value.int .i64))->W'.ownsRow w4.heap.size 35 6 (.slice a2 M1.length cap) M1.length (fp M1)->W'.ownsRow w4.heap.size 3 1 (.slice b3 s2'.outs.length d3) s2'.outs.length (s2'.outs.map (Value.int .i64))->Apart (.slice b1 s2'.ins.length d1) (.slice b3 s2'.outs.length d3)->Calls prog 129 #[.pointer (some ⟨P,0,none⟩),eR b1 s2'.ins.length d1 a2 M1.length cap b3 s2'.outs.length d3,.int .i64 (j:Int),.int .i64 (kp:Int)] W' λe W''=>(∃x:Int,e=.returned (.int .i64 x))/\Hid (TrO W P B u1 u2 u3 u4 bs r e W'')):=λW' b1 d1 a2 cap b3 d3 kk q1 q2 q3 ap=>yai (m8 hWT kk q1 q2 q3 ap hk2 hlen j kp) (λe W'' t=>⟨t.ret,by
       show TrO W P B u1 u2 u3 u4 bs r e W''
       rw[HR4.out]
       exact TrO.after HMT.out t⟩)
      clear hgc hjc hWT HRT HR4 gm1 gm2 gm3 hlen hk2 hgd HMT hln
      generalize eU s2' y=ly at*
      exact xbw
     ·have R:Hid (r=.error (4,kp)):=HR3.out.trans (BF h1 h2)
      have h1':(eU s2' y==1)=false:=yaw h1
      have h2':(eU s2' y==eU s2' v)=false:=yaw h2
      have HSt:Hid _:=iL hW4.c5 hW4.c6 hW4.fr 4 kp (Mst P z1 z2 z3 z4) (.inl rfl)
      clear hW4 HR3
      subst e4
      generalize eU s2' y=ly at*
      generalize eU s2' v=lx at*
      generalize s2'.vs.length=NN at*
      go_wp2_with (go_at_call 74;refine yai HSt.out ?_;rintro e w5 ⟨rfl,hbad⟩)
      go_ret
      rw[R.out]
      exact⟨rfl,hbad.c5,hbad.c6,HM4.out.bad hbad.chg⟩
end
section
theorem yE {f:Nat}{st:LSt}{loc:Loc}{k x:Tok}{a d:Ex}{r:Rs (LSt×Nat)}(h:eJ (f+1) st loc (.jvp k a x d)=some r):∃r1 r2,r=G8 k (fh st loc x) r1 r2/\(∀v,fh st loc x=.ok v->eJ f st loc a=some r1)/\(∀v,fh st loc x=.ok v->∀s y,r1=.ok (s,y)->eJ f s loc d=some r2):=by
 rw[eJ] at h
 cases hv:fh st loc x with
 |error q=>rw[hv] at h;cases h;exact⟨.error q,.error q,rfl,λv e=>(by cases e),λv e=>(by cases e)⟩
 |ok v=>
  rw[hv] at h
  simp only at h
  cases h1:eJ f st loc a with
  |none=>rw[h1] at h;cases h
  |some r1=>
   rw[h1] at h
   rcases r1 with⟨c,p⟩|⟨s1,y⟩
   ·cases h;exact⟨.error (c,p),.error (c,p),rfl,λ_ _=>rfl,λ_ _ s y e=>by cases e⟩
   ·simp only[iK] at h
    cases h2:eJ f s1 loc d with
    |none=>rw[h2] at h;cases h
    |some r2=>
     rw[h2] at h
     refine⟨.ok (s1,y),r2,?_,λ_ _=>rfl,λ_ _ s y' e=>(by cases e;exact h2)⟩
     rcases r2 with⟨c,p⟩|⟨s2,z⟩<;>(cases h;rfl)
section
variable {f:Nat}{W:World}{P B:Nat}{u1 u2 u3 u4:Value}{bs:List Bc}{st:LSt}{aL:Option Addr}{nL cL:Nat}{loc:Loc}{g off m cap:Nat}{ts us:List Tok}{a b:Ex}{r:Rs (LSt×Nat)}
theorem BG {k l c n d q:Tok}(IH:TrC f)(H:TrIn W P B u1 u2 u3 u4 bs st aL nL loc g off m cap (k::l::(ts++c::n::d::(us++[q]))))(hk:k.sym=Cx)(hl:l.sym=[40])(ha:Pr 2 [a] ts)(hc:c.sym=[44])(hn:n.sym=f8)(hd:d.sym=[44])(hb:Pr 2 [b] us)(hq:q.sym=[41])(h:eJ (f+1) st loc (.jvp k a n b)=some r):
  Calls prog 75 #[.pointer (some ⟨P,0,none⟩),.slice aL nL cL,.slice (some ⟨g,off,none⟩) m cap] W (TrO W P B u1 u2 u3 u4 bs r):=by
 obtain⟨r1,r2,rfl,e1,e2⟩:=yE h
 have hm:(k::l::(ts++c::n::d::(us++[q]))).length=m:=H.tk.len
 simp only[yap,yak,List.length_nil] at hm
 have hp:=ii ha
 have hp2:=ii hb
 have hne:us≠[]:=λc=>by rw[c] at hp2;simp at hp2
 have hcm:=iV ha yad
 have hcm2:=iV hb yad
 have hmc:=H.mc
 have ea:EOK a:=iE ha (λt ht=>H.ti t (by simp[ht])) a xac
 have eb:EOK b:=iE hb (λt ht=>H.ti t (by simp[ht])) b xac
 have hcn:cm 0 [n]=some 0:=pB (by rw[hn];decide) (by rw[hn];decide) (by rw[hn];decide)
 have hsp:fx (ts++c::([n]++d::us))=[ts,[n],us]:=vg hcm hc hcn hd hcm2
 have hu:ts++c::([n]++d::us)=((k::l::(ts++c::n::d::(us++[q]))).drop 2).take (m-1-2):=by
  rw[List.drop_succ_cons,List.drop_succ_cons,List.drop_zero,show ts++c::n::d::(us++[q])=(ts++c::([n]++d::us))++[q] by simp,List.take_append_of_le_length yaf,yao yaf]
 have t1:∀x:List UInt8,x≠Cx->(k.sym==x)=false:=λx h1=>by
  rw[beq_eq_false_iff_ne]
  rintro rfl
  exact h1 hk
 refine ju H (Pr.jvp hk hl ha hc hn hd hb hq) (t1 _ xab) (t1 _ xab) (t1 _ xab) (t1 _ xab) (t1 _ xab) xaa (ts++c::([n]++d::us)) hu (by rw[l8 (X:=[ts,[n]]) (y:=us) xac hsp _ yaf];exact hne) _ (λW' aS cS kk hS=>?_)
 rw[hsp] at hS ⊢
 obtain⟨gr,rfl,hlo,hgr,hS2⟩:=hS.at_ xac
 obtain⟨o,c0,c1,c2,c3⟩:=hS2 0 xac
 obtain⟨o',c0',c1',c2',c3'⟩:=hS2 1 xac
 obtain⟨o2,c02,c12,c22,c32⟩:=hS2 2 xac
 have HC:(∃v,fh st loc n=.ok v)->∀W'',Kept 0 0 W' W''->Calls prog 75 #[.pointer (some ⟨P,0,none⟩),.slice aL nL cL,.slice (some ⟨g,o,none⟩) ts.length c0] W'' (TrO W'' P B u1 u2 u3 u4 bs r1):=λev W'' k2=>
  IH W'' P B u1 u2 u3 u4 bs st aL nL cL loc g o ts.length c0 ts (H.seg (H.ws.keep (kk.trans k2)) (Gw.refl H.gd) (Mv.of (kk.trans k2)) (c2.keep k2) xaa c3 (λt ht=>by simp[ht])) 2 a ha yad r1 (ev.elim e1)
 have hG:(∃v,fh st loc n=.ok v)->RsG st r1:=λev=>fW f st loc a H.gd H.nm H.lo ea r1 (ev.elim e1)
 have hG2:(∃v,fh st loc n=.ok v)->∀s x,r1=.ok (s,x)->RsG s r2:=λev s x e=>by
  obtain⟨w,_⟩:=hG ev s x e
  obtain⟨v,hv⟩:=ev
  exact fW f s loc b w.g (H.nm.gw w) (H.lo.le w.n) eb r2 (e2 v hv s x e)
 have HC2:(∃v,fh st loc n=.ok v)->∀s x,r1=.ok (s,x)->∀W'' z1 z2 z3 z4,WS W'' P B z1 z2 z3 z4 bs s->Mv (Mst P u1 u2 u3 u4) W' (Mst P z1 z2 z3 z4) W''->Calls prog 75 #[.pointer (some ⟨P,0,none⟩),.slice aL nL cL,.slice (some ⟨g,o2,none⟩) us.length c02] W'' (TrO W'' P B z1 z2 z3 z4 bs r2):=λev s x e W'' z1 z2 z3 z4 hw hM=>by
  obtain⟨w,_⟩:=hG ev s x e
  obtain⟨v,hv⟩:=ev
  exact IH W'' P B z1 z2 z3 z4 bs s aL nL cL loc g o2 us.length c02 us (H.seg hw w ((Mv.of kk).trans hM) (c22.keepC hM.chg H.tg) xaa c32 (λt ht=>by simp[ht])) 2 b hb yad r2 (e2 v hv s x e)
 obtain⟨ks,kp,kt⟩:=k
 simp only at hk
 subst hk
 exact yD (H.ws.keep kk) H.gd.m (H.lc.keep kk) H.ln kp kt n xac hgr (H.ws.far2 hlo) c1 ⟨hgr,c1',c2'⟩ c12 r1 r2 hG (λv hv=>lO H.nm H.lo hv) hG2 HC HC2
end
theorem BH {f:Nat}(IH:TrC f){n:Nat}{es:List Ex}{ts:List Tok}(hp:Pr n es ts):∀e,es=[e]->n<=2->∀(W:World) (P B:Nat) (u1 u2 u3 u4:Value) (bs:List Bc) (st:LSt) (aL:Option Addr) (nL cL:Nat) (loc:Loc) (g off m cap:Nat),TrIn W P B u1 u2 u3 u4 bs st aL nL loc g off m cap ts->∀r,eJ (f+1) st loc e=some r->
  Calls prog 75 #[.pointer (some ⟨P,0,none⟩),.slice aL nL cL,.slice (some ⟨g,off,none⟩) m cap] W (TrO W P B u1 u2 u3 u4 bs r):=by
 induction hp with
 |up01 _ ih=>intro e he hn;exact ih e he xaa
 |up12 _ ih=>intro e he hn;exact ih e he xaa
 |arg1 _ _=>intro e he hn;omega
 |argM _ _ _ _ _=>intro e he hn;omega
 |add ha ho hb _ _=>intro e he hn;cases he;intro W P B u1 u2 u3 u4 bs st aL nL cL loc g off m cap H r h;exact Bq IH H ha ho hb h
 |mul ha ho hb _ _=>intro e he hn;cases he;intro W P B u1 u2 u3 u4 bs st aL nL cL loc g off m cap H r h;exact Br IH H ha ho hb h
 |neg ho ha _=>intro e he hn;cases he;intro W P B u1 u2 u3 u4 bs st aL nL cL loc g off m cap H r h;exact Bs IH H ho ha h
 |num ht=>intro e he hn;cases he;intro W P B u1 u2 u3 u4 bs st aL nL cL loc g off m cap H r h;exact Bx H ht h
 |name ht=>intro e he hn;cases he;intro W P B u1 u2 u3 u4 bs st aL nL cL loc g off m cap H r h;exact yi H ht h
 |par hl ha hq ih=>intro e he hn;cases he;intro W P B u1 u2 u3 u4 bs st aL nL cL loc g off m cap H r h;exact Bt H hl ha hq (λW' H'=>ih _ rfl yad W' P B u1 u2 u3 u4 bs st aL nL cL loc g _ _ _ H' r h)
 |call0 ht hl hq=>intro e he hn;cases he;intro W P B u1 u2 u3 u4 bs st aL nL cL loc g off m cap H r h;exact vJ IH H ht hl hq h
 |call ht hl ha hq _=>intro e he hn;cases he;intro W P B u1 u2 u3 u4 bs st aL nL cL loc g off m cap H r h;exact yz IH H ht hl ha hq h
 |key1 hk hl ha hq _=>intro e he hn;cases he;intro W P B u1 u2 u3 u4 bs st aL nL cL loc g off m cap H r h;exact yl IH H hk hl ha hq h
 |key2 hk hl ha hc hb hq _ _=>intro e he hn;cases he;intro W P B u1 u2 u3 u4 bs st aL nL cL loc g off m cap H r h;exact yw IH H hk hl ha hc hb hq h
 |key3 hk hl ha hc hb hc2 hd hq _ _ _=>intro e he hn;cases he;intro W P B u1 u2 u3 u4 bs st aL nL cL loc g off m cap H r h;exact yx IH H hk hl ha hc hb hc2 hd hq h
 |keyN hk hl ha hc hn' hq _=>intro e he hn;cases he;intro W P B u1 u2 u3 u4 bs st aL nL cL loc g off m cap H r h;exact ym IH H hk hl ha hc hn' hq h
 |put hk hl ha hc hi hc2 hn' hq _=>intro e he hn;cases he;intro W P B u1 u2 u3 u4 bs st aL nL cL loc g off m cap H r h;exact Bw IH H hk hl ha hc hi hc2 hn' hq h
 |grad hk hl ha hc hx hq _=>intro e he hn;cases he;intro W P B u1 u2 u3 u4 bs st aL nL cL loc g off m cap H r h;exact yB IH H hk hl ha hc hx hq h
 |jvp hk hl ha hc hx hc2 hb hq _ _=>intro e he hn;cases he;intro W P B u1 u2 u3 u4 bs st aL nL cL loc g off m cap H r h;exact BG IH H hk hl ha hc hx hc2 hb hq h
theorem trc:∀f,TrC f
 |0=>λW P B u1 u2 u3 u4 bs st aL nL cL loc g off m cap ts H n e hp hn r h=>by rw[eJ] at h;cases h
 |f+1=>λW P B u1 u2 u3 u4 bs st aL nL cL loc g off m cap ts H n e hp hn r h=>BH (trc f) hp e rfl hn W P B u1 u2 u3 u4 bs st aL nL cL loc g off m cap H r h
