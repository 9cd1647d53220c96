import Derived.Test.YtdpbpcnldpkljaaGreatP46
namespace Go.Proofs.Z
open Tryz Go.RowKit Flt
set_option maxRecDepth 1000000
set_option maxHeartbeats 0
section
attribute [local go_sem] eD eB eA
def BE (k:Tok)(q:Rs Nat)(r1:Rs (LSt×Nat)):Rs (LSt×Nat):=match q with
 |.error f=>.error f
 |.ok v=>match r1 with
  |.error f=>.error f
  |.ok (s,a)=>mq s k a v
theorem vK {W:World}{P B:Nat}{u1 u2 u3 u4:Value}{bs:List Bc}{st:LSt}{aL:Option Addr}{nL cL:Nat}{loc:Loc}(h:WS W P B u1 u2 u3 u4 bs st)(hm:st.names.length<=5000)(hL:LcR (Mst P u1 u2 u3 u4) W aL nL loc)(hn:nL<=5000)(kp:Nat)(kt:List UInt8){gr ns cp q o n0 c0 q1 o1 c1:Nat}(xt:Tok)(hns:2<=ns)(hgr:gr<W.heap.size)(hS:W.cell? ⟨gr,0,none⟩=some (.slice (some ⟨q,o,none⟩) n0 c0))(hS1:Sg1 W gr 1 q1 o1 c1 xt)(r1:Rs (LSt×Nat))(hG:(∃v,fh st loc xt=.ok v)->RsG st r1)(hv:∀v,fh st loc xt=.ok v->v<st.vs.length)
  (HC:(∃v,fh st loc xt=.ok v)->∀W',Kept 0 0 W W'->Calls prog 75 #[.pointer (some ⟨P,0,none⟩),.slice aL nL cL,.slice (some ⟨q,o,none⟩) n0 c0] W' (TrO W' P B u1 u2 u3 u4 bs r1)):
  Calls prog 113 #[.pointer (some ⟨P,0,none⟩),.slice aL nL cL,ik ⟨[103,114,97,100],kp,kt⟩,.slice (some ⟨gr,0,none⟩) ns cp] W (TrO W P B u1 u2 u3 u4 bs (BE ⟨[103,114,97,100],kp,kt⟩ (fh st loc xt) r1)):=by
 have HB:Hid (TB (W.alloc (.cells #[eE [103,114,97,100],.int .i64 (kp:Int),eE kt] 74)) W.heap.size [103,114,97,100] kp kt):=gH W [103,114,97,100] kp kt
 have HK:Hid _:=ez 0 0 W (.cells #[eE [103,114,97,100],.int .i64 (kp:Int),eE kt] 74)
 have HF:Hid _:=h.far
 have HS0:Hid (∀W',Kept 0 0 W W'->W'.cell? ⟨gr,0,none⟩=some (.slice (some ⟨q,o,none⟩) n0 c0)):=λW' kk=>(kk.cell (p:=⟨gr,0,none⟩) hgr xaa).trans hS
 have HS1:Hid _:=hS1
 have HV:Hid (∀W',Kept 0 0 W W'->_):=λW' kk=>sx (h.keep kk) hm aL nL cL loc (hL.keep kk) hn xt
 have HC':Hid _:=HC
 have HG:Hid _:=hG
 have HVl:Hid _:=hv
 have HW:Hid _:=h
 obtain⟨r,hr⟩:∃r,r=BE ⟨[103,114,97,100],kp,kt⟩ (fh st loc xt) r1:=⟨_,rfl⟩
 rw[<-hr]
 have HR:Hid _:=hr
 clear hr h hG HC hS hS1 hv hL hm
 unfold ik at HV ⊢
 obtain⟨xs,xp,xx⟩:=xt
 simp only at HV ⊢
 go_enter func113,ntmps113
 go_upto_region 2 with fail
 change Code.wp _ _ _ _ (W.alloc (.cells #[eE [103,114,97,100],.int .i64 (kp:Int),eE kt] 74))
 generalize W.alloc (.cells #[eE [103,114,97,100],.int .i64 (kp:Int),eE kt] 74)=W1 at HB HK ⊢
 generalize W.heap.size=bx at HB HF ⊢
 have HV1:Hid _:=HV.out W1 HK.out
 obtain⟨s1,s2,s3,s4⟩:=(HS1.out.keep HK.out).cells
 simp only at s2 s3 s4
 have b0:=HB.out.c0
 clear HV HS1
 generalize fh st loc ⟨xs,xp,xx⟩=qv at HV1 HR HVl HC' HG
 rcases qv with⟨c,p⟩|v
 ·exact xei
 ·have hv0:¬((v:Int)<0):=xaa
  go_upto_region 6 with (go_at_call 110;refine yai HV1.out ?_;rintro e w2 ⟨rfl,k2⟩)
  have HK2:Hid _:=HK.out.trans k2
  have HBa:Hid _:=HB.out.keep k2
  have s0:=HS0.out w2 HK2.out
  have HC1:Hid _:=HC'.out ⟨v,rfl⟩ w2 HK2.out
  clear HV1 HB HK k2 b0 s1 s2 s3 s4 HS0 HC'
  rcases r1 with⟨c,p⟩|⟨s,a⟩
  ·exact xgs
  ·obtain⟨w,ha⟩:=HG.out ⟨v,rfl⟩ s a rfl
   have hx:=yaj (HVl.out v rfl) w.n
   have ha0:¬((a:Int)<0):=xaa
   go_upto_region 7 with (go_at_call 75;refine yai HC1.out ?_;rintro e w3 ⟨rfl,v1,v2,v3,v4,hW3,hM3⟩)
   have HB3:Hid _:=HBa.out.keepC hM3.chg HF.out
   obtain⟨gv,cv,e2,hgv,cl⟩:=hW3.lenc ha
   have HM:Hid _:=(Mv.of HK2.out).trans hM3
   have HW3:Hid _:=hW3
   have d0:=HB3.out.c0
   have d1:=HB3.out.c1
   have hN:=w.g.n
   have p1:=hW3.c1
   rw[e2] at p1
   have HR2:Hid (r=mq s ⟨[103,114,97,100],kp,kt⟩ a v):=HR.out
   clear HR HC1 HBa s0 hM3
   by_cases h1:eU s a=1
   ·obtain⟨a1,x1,g2,x2,a3,x3,e1,e2',e3,hgc,_⟩:=hW3.grad w.g ha hx
    obtain⟨gm1,gm2,gm3⟩:=tX w.g.v ha hx h1
    obtain⟨j,hj⟩:∃j:Nat,(grM s.vs a v).2=(j:Int):=⟨_,(Int.toNat_of_nonneg gm2.1).symm⟩
    have HR4:Hid (r=if ji (grM s.vs a v).1=true then .error (5,kp) else .ok ({s with vs:=(grM s.vs a v).1},j)):=by
     show r=_
     rw[HR2.out]
     unfold mq
     rw[if_neg (by simpa using h1)]
     unfold gZ
     rw[hj,Int.toNat_natCast]
    have hlen:∀k,k<(grM s.vs a v).1.length->1<=((grM s.vs a v).1.getD k Vl.zero).len/\((grM s.vs a v).1.getD k Vl.zero).len<=1000:=λk hk=>il (gm1.1 k hk)
    rw[e2] at e2'
    cases e2'
    subst e1 e2 e3
    have p0:=hW3.c0
    have p2:=hW3.c2
    have HGr:Hid _:=hgc
    have hk2:=gm1.2
    generalize grM s.vs a v=M at*
    obtain⟨M1,M2⟩:=M
    simp only at hj hlen hk2 HR4
    subst hj
    have HBc:Hid (∀W' b1 d1 a2 cap b3 d3,Kept 0 0 w3 W'->W'.ownsRow w3.heap.size 3 1 (.slice b1 s.ins.length d1) s.ins.length (s.ins.map (Value.int .i64))->W'.ownsRow w3.heap.size 35 6 (.slice a2 M1.length cap) M1.length (fp M1)->W'.ownsRow w3.heap.size 3 1 (.slice b3 s.outs.length d3) s.outs.length (s.outs.map (Value.int .i64))->Apart (.slice b1 s.ins.length d1) (.slice b3 s.outs.length d3)->Calls prog 129 #[.pointer (some ⟨P,0,none⟩),eR b1 s.ins.length d1 a2 M1.length cap b3 s.outs.length d3,.int .i64 (j:Int),.int .i64 (kp:Int)] W' λe W''=>(∃x:Int,e=.returned (.int .i64 x))/\Hid (TrO W P B u1 u2 u3 u4 bs r e W'')):=λW' b1 d1 a2 cap b3 d3 kk q1 q2 q3 ap=>yai (m8 hW3 kk q1 q2 q3 ap hk2 hlen j kp) (λe W'' t=>⟨t.ret,by
     show TrO W P B u1 u2 u3 u4 bs r e W''
     rw[HR4.out]
     exact TrO.after HM.out t⟩)
    clear hgc hW3 HR2 HR4 HG HVl HW HW3 gm1 gm2 gm3 hlen hk2 w HM HF HK2
    rw[h1] at cl
    generalize s.vs.length=N at*
    generalize s.ins.length=nI at*
    generalize s.outs.length=nO at*
    go_upto_region 20 with (go_at_call 128;refine yai HGr.out ?_;rintro e w4 ⟨⟨b1,dd1,b3,dd3,a2,cap2,rfl,q1,q2,q3,ap⟩,k4⟩)
    have d1':=(HB3.out.keep k4).c1
    have HBd:Hid (∀W',Kept 0 0 w4 W'->_):=λW' kk=>HBc.out W' b1 dd1 a2 cap2 b3 dd3 (k4.trans kk) (eO q1 kk) (eO q2 kk) (eO q3 kk) ap
    have HBe:Hid (∀W',Kept 0 0 w4 W'->_):=λW' kk=>(HB3.out.keep (k4.trans kk)).c1
    clear q1 q2 q3 ap HBc HGr cl p0 p1 p2 d0 d1
    have d2:=HBe.out _ (ez 0 0 w4 (eP b1 nI dd1 a2 M1.length cap2 b3 nO dd3))
    have HB6:Hid _:=HBd.out _ (ez 0 0 w4 (eP b1 nI dd1 a2 M1.length cap2 b3 nO dd3))
    go_wp2_with (go_at_call 129;refine yai HB6.out ?_;rintro e w6 ⟨⟨x,rfl⟩,hT⟩)
    go_ret
    exact hT.out
   ·have R:Hid (r=.error (4,kp)):=HR2.out.trans (if_pos h1)
    have h1':(eU s a==1)=false:=yaw h1
    have HSt:Hid _:=iL hW3.c5 hW3.c6 hW3.fr 4 kp (Mst P v1 v2 v3 v4) (.inl rfl)
    clear hW3 HR2 HG HVl HW HW3
    generalize eU s a=l at cl h1 h1'
    generalize s.vs.length=N at*
    go_wp2_with (go_at_call 74;refine yai HSt.out ?_;rintro e w4 ⟨rfl,hbad⟩)
    go_ret
    rw[R.out]
    exact⟨rfl,hbad.c5,hbad.c6,HM.out.bad hbad.chg⟩
end
section
theorem vL {f:Nat}{st:LSt}{loc:Loc}{k x:Tok}{a:Ex}{r:Rs (LSt×Nat)}(h:eJ (f+1) st loc (.grad k a x)=some r):∃r1,r=BE k (fh st loc x) r1/\(∀v,fh st loc x=.ok v->eJ f st loc a=some r1):=by
 rw[eJ] at h
 cases hv:fh st loc x with
 |error q=>rw[hv] at h;cases h;exact⟨.error q,rfl,λv e=>by cases e⟩
 |ok v=>
  rw[hv] at h
  simp only at h
  cases h1:eJ f st loc a with
  |none=>rw[h1] at h;cases h
  |some r1=>
   rw[h1] at h
   rcases r1 with⟨c,p⟩|⟨s1,y⟩
   ·cases h;exact⟨_,rfl,λ_ _=>rfl⟩
   ·cases h;exact⟨_,rfl,λ_ _=>rfl⟩
section
variable {f:Nat}{W:World}{P B:Nat}{u1 u2 u3 u4:Value}{bs:List Bc}{st:LSt}{aL:Option Addr}{nL cL:Nat}{loc:Loc}{g off m cap:Nat}{ts:List Tok}{a:Ex}{r:Rs (LSt×Nat)}
theorem yB {k l c n q:Tok}(IH:TrC f)(H:TrIn W P B u1 u2 u3 u4 bs st aL nL loc g off m cap (k::l::(ts++[c,n,q])))(hk:k.sym=wi)(hl:l.sym=[40])(ha:Pr 2 [a] ts)(hc:c.sym=[44])(hn:n.sym=f8)(hq:q.sym=[41])(h:eJ (f+1) st loc (.grad k a n)=some r):
  Calls prog 75 #[.pointer (some ⟨P,0,none⟩),.slice aL nL cL,.slice (some ⟨g,off,none⟩) m cap] W (TrO W P B u1 u2 u3 u4 bs r):=by
 obtain⟨r1,rfl,e1⟩:=vL h
 have hm:(k::l::(ts++[c,n,q])).length=m:=H.tk.len
 simp only[yap,yak,List.length_nil] at hm
 have hp:=ii ha
 have hcm:=iV ha yad
 have hmc:=H.mc
 have ea:EOK a:=iE ha (λt ht=>H.ti t (by simp[ht])) a xac
 have hcn:cm 0 [n]=some 0:=pB (by rw[hn];decide) (by rw[hn];decide) (by rw[hn];decide)
 have hsp:fx (ts++c::[n])=[ts,[n]]:=vf hcm hc hcn
 have hu:ts++c::[n]=((k::l::(ts++[c,n,q])).drop 2).take (m-1-2):=by
  exact xfu
 have t1:∀x:List UInt8,x≠wi->(k.sym==x)=false:=λx h1=>by
  rw[beq_eq_false_iff_ne]
  rintro rfl
  exact h1 hk
 refine ju H (Pr.grad hk hl ha hc hn hq) (t1 _ xab) (t1 _ xab) (t1 _ xab) (t1 _ xab) (t1 _ xab) xaa (ts++c::[n]) hu (by rw[l8 (X:=[ts]) (y:=[n]) xac hsp _ yaf];simp) _ (λW' aS cS kk hS=>?_)
 rw[hsp] at hS ⊢
 obtain⟨gr,rfl,hlo,hgr,hS2⟩:=hS.at_ xac
 obtain⟨o,c0,c1,c2,c3⟩:=hS2 0 xac
 obtain⟨o',c0',c1',c2',c3'⟩:=hS2 1 xac
 have HC:(∃v,fh st loc n=.ok v)->∀W'',Kept 0 0 W' W''->Calls prog 75 #[.pointer (some ⟨P,0,none⟩),.slice aL nL cL,.slice (some ⟨g,o,none⟩) ts.length c0] W'' (TrO W'' P B u1 u2 u3 u4 bs r1):=λev W'' k2=>
  IH W'' P B u1 u2 u3 u4 bs st aL nL cL loc g o ts.length c0 ts ⟨H.ws.keep (kk.trans k2),H.gd,H.nm,H.lc.keep (kk.trans k2),H.ln,H.lo,c2.keep k2,H.tg,by have:=H.m5;omega,c3,λt ht=>H.ti t (by simp[ht]),λt ht=>H.tn t (by simp[ht])⟩ 2 a ha yad r1 (ev.elim e1)
 have hG:(∃v,fh st loc n=.ok v)->RsG st r1:=λev=>fW f st loc a H.gd H.nm H.lo ea r1 (ev.elim e1)
 obtain⟨ks,kp,kt⟩:=k
 simp only at hk
 subst hk
 exact vK (H.ws.keep kk) H.gd.m (H.lc.keep kk) H.ln kp kt n yad hgr c1 ⟨hgr,c1',c2'⟩ r1 hG (λv hv=>lO H.nm H.lo hv) HC
