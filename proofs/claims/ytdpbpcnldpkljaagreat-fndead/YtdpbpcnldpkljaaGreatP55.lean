import Derived.Test.YtdpbpcnldpkljaaGreatP54
import Derived.Test.YtdpbpcnldpkljaaGreatP37
namespace Go.Proofs.YtdpbpcnldpkljaaGreat
open Z
open Proofs.Tryz
set_option maxRecDepth 1000000
set_option maxHeartbeats 0
section
open Go.RowKit Flt
attribute [local go_sem] eD eB eA
variable {w:World}{xs:List Int}{a:Option Addr}
variable {bs:List Int}
theorem IQ {W:World}{st:LSt}{z1 z2 z3:Value}{B:Nat}(hB:w.heap.size<=B)(k:Kept 0 0 w W)(h:W.ownsRow B 3 1 z1 st.ins.length (st.ins.map (Value.int .i64))/\W.ownsRow B 35 6 z2 st.vs.length (fp st.vs)/\W.ownsRow B 3 1 z3 st.outs.length (st.outs.map (Value.int .i64))/\Apart z1 z2/\Apart z1 z3/\Apart z2 z3)(hk:∀v∈st.vs,v.k<18446744073709551616):∃a1 c1 a2 c2 a3 c3,z1=.slice a1 st.ins.length c1/\z2=.slice a2 st.vs.length c2/\z3=.slice a3 st.outs.length c3/\DG W w.heap.size z1 z2 z3 st.ins st.vs st.outs:=by
 obtain⟨a1,c1,e1⟩:=iH h.1
 obtain⟨a2,c2,e2⟩:=iH h.2.1
 obtain⟨a3,c3,e3⟩:=iH h.2.2.1
 exact⟨a1,c1,a2,c2,a3,c3,e1,e2,e3,iq h.1 hB,iq h.2.1 hB,iq h.2.2.1 hB,h.2.2.2.1,h.2.2.2.2.1,h.2.2.2.2.2,hk,k.size⟩
theorem BU (hb:∀i,nv bs i<256){i:Nat}{T:List Int×List Vl×List Int×Nat}{t:List UInt8}{j:Nat}{r:Rs LSt}
  (hsrc:∀{w:World} {P n cap:Nat} {a:Option Addr},RdF w P a n cap (ni bs i) bs->Calls prog 22 #[.pointer (some ⟨P,0,none⟩)] w (SrO w P n cap a bs j t))
  (hps:∀{w:World} {a:Option Addr} {cap:Nat},TxA w a t.length t->t.length<=cap->Calls prog 21 #[.slice a t.length cap] w (PaZ w (w.heap.size+1) r))
  (hT:((nv bs i:Int)%4=0/\T=ng bs (ni bs i))\/((nv bs i:Int)%4=1/\∃st,r=.ok st/\T=(st.ins,st.vs.map sv,st.outs,j))\/((nv bs i:Int)%4=1/\∃p,r=.error (0,p)/\T=([],[],[],j))\/((nv bs i:Int)%4=1/\∃c p,c≠0/\r=.error (c,p)/\Hid (T=rsT bs j))\/((nv bs i:Int)%4≠0/\(nv bs i:Int)%4≠1/\Hid (T=rsT bs (ni bs i))))
 {P n cap:Nat} (hR:RdF w P a n cap i bs):Calls prog 11 #[.pointer (some ⟨P,0,none⟩)] w (DgT w P a n cap bs T):=by
  have hP:=hR.lt
  have ka:=ez 0 0 w eZ
  have HN:Hid _:=iu _ P a n cap i bs (hR.keep0 ka)
  have HK0:Hid _:=ka
  clear hR ka
  go_enter func11,ntmps11
  go_upto_region 2 with (go_at_call 19;refine yai HN.out ?_;rintro e W1 ⟨rfl,R1,k1,-⟩;have HR1:Hid _:=R1;have HK1:Hid (Kept P (P+1) w W1):=(e8 HK0.out).trans k1;have HB1:Hid (RB W1 w.heap.size gL gL gL):=(fZ w).kept k1 xaa;clear R1 k1)
  clear HN HK0
  rcases hT with⟨c4,hE⟩|⟨c4,st,hr,rfl⟩|⟨c4,p,hr,rfl⟩|⟨c4,c,p,hc,hr,HE⟩|⟨c0,c1,HE⟩
  ·have HA:Hid (Calls prog 20 #[.pointer (some ⟨P,0,none⟩)] W1 (DgT W1 P a n cap bs T)):=by rw[hE];exact I9 HR1.out
   clear hE
   go_wp2_with (go_at_call 20;refine yai HA.out ?_;rintro e W3 ⟨a1,c1,a2,c2,a3,c3,vs,rfl,hsv,d,rd,k3⟩;obtain⟨hb,hf⟩:=DgF.up HB1.out hP HK1.out hsv d rd k3;have HF:Hid _:=hf;obtain⟨_,r0,r1,r2,rf0,rf1,rf2⟩:=hb;clear hsv d rd k3 hf)
   obtain⟨p0,p1,p2⟩:=eY W3 w.heap.size _ _ _ r0 r1 r2 (.slice a1 T.1.length c1) (.slice a2 vs.length c2) (.slice a3 T.2.2.1.length c3)
   exact yay (v:=eR a1 T.1.length c1 a2 vs.length c2 a3 T.2.2.1.length c3) (by simp[results,results11,go_sem,p0,p1,p2]) rfl HF.out
  ·subst hr
   have HSr:Hid _:=hsrc HR1.out
   go_upto_region 6 with (first
   |(go_at_call 22;refine yai HSr.out ?_;rintro e W3 ⟨g,cc,rfl,hcc,hy,rd,k3⟩;have HPs:Hid _:=hps (vP hy) hcc;have HR3:Hid _:=rd;have HK3:Hid _:=HK1.out.trans k3;have HB3:Hid _:=HB1.out.kept k3 xaa;clear hcc hy rd k3)
   |(go_at_call 21;refine yai HPs.out ?_;rintro e W4 ⟨z1,z2,z3,rfl,o1,o2,o3,p12,p13,p23,hgd,k4⟩;obtain⟨a1,c1,a2,c2,a3,c3,e1,e2,e3,d⟩:=IQ (Nat.le_succ _) k4 ⟨o1,o2,o3,p12,p13,p23⟩ hgd.k;subst e1 e2 e3;have HD:Hid _:=d;have HK4:Hid _:=k4;clear o1 o2 o3 p12 p13 p23 hgd k4 d))
   have k5:=HK4.out.trans (ez 0 0 W4 (.cells #[.slice a1 st.ins.length c1,.slice a2 st.vs.length c2,.slice a3 st.outs.length c3] 26))
   obtain⟨hb,hf⟩:=DgF.up HB3.out hP HK3.out rfl (HD.out.keep (ez 0 0 W4 (.cells #[.slice a1 st.ins.length c1,.slice a2 st.vs.length c2,.slice a3 st.outs.length c3] 26))) (HR3.out.keep0 k5) (e8 k5)
   have HF:Hid _:=hf
   obtain⟨_,r0,r1,r2,rf0,rf1,rf2⟩:=hb
   clear hf k5
   go_wp2_with fail
   obtain⟨p0,p1,p2⟩:=eY _ w.heap.size _ _ _ r0 r1 r2 (.slice a1 st.ins.length c1) (.slice a2 st.vs.length c2) (.slice a3 st.outs.length c3)
   exact yay (v:=eR a1 st.ins.length c1 a2 st.vs.length c2 a3 st.outs.length c3) (by simp[results,results11,go_sem,p0,p1,p2]) rfl HF.out
  ·subst hr
   have HSr:Hid _:=hsrc HR1.out
   go_upto_region 6 with (first
   |(go_at_call 22;refine yai HSr.out ?_;rintro e W3 ⟨g,cc,rfl,hcc,hy,rd,k3⟩;have HPs:Hid _:=hps (vP hy) hcc;have HR3:Hid _:=rd;have HK3:Hid _:=HK1.out.trans k3;have HB3:Hid _:=HB1.out.kept k3 xaa;clear hcc hy rd k3)
   |(go_at_call 21;refine yai HPs.out ?_;rintro e W4 ⟨rfl,k4⟩;have HK4:Hid _:=k4;clear k4))
   have k6:=ez 0 0 W4 eZ
   have k5:=HK4.out.trans k6
   have d:DG W4 W3.heap.size gL gL gL [] [] []:=⟨yav _ _ _ _,yav _ _ _ _,yav _ _ _ _,(λ_ h=>by cases h),(λ_ h=>by cases h),(λ_ h=>by cases h),(λ_ h=>by cases h),HK4.out.size⟩
   obtain⟨hb,hf⟩:=DgF.up (a1:=none) (a2:=none) (a3:=none) (c1:=0) (c2:=0) (c3:=0) (ins:=[]) (vs:=[]) (outs:=[]) (S:=[]) HB3.out hP HK3.out rfl (d.keep k6) (HR3.out.keep0 k5) (e8 k5)
   have HF:Hid _:=hf
   obtain⟨_,r0,r1,r2,rf0,rf1,rf2⟩:=hb
   clear hf k5 k6 d
   go_wp2_with fail
   obtain⟨p0,p1,p2⟩:=eY _ w.heap.size _ _ _ r0 r1 r2 gL gL gL
   exact yay (v:=eR none 0 0 none 0 0 none 0 0) (by simp[results,results11,go_sem,p0,p1,p2]) rfl HF.out
  ·subst hr
   have HSr:Hid _:=hsrc HR1.out
   go_upto_region 6 with (first
   |(go_at_call 22;refine yai HSr.out ?_;rintro e W3 ⟨g,cc,rfl,hcc,hy,rd,k3⟩;have HPs:Hid _:=hps (vP hy) hcc;have HR3:Hid _:=rd;have HK3:Hid _:=HK1.out.trans k3;have HB3:Hid _:=HB1.out.kept k3 xaa;clear hcc hy rd k3)
   |(go_at_call 21;refine yai HPs.out ?_;rintro e W4 ⟨rfl,k4⟩;have HK4:Hid _:=k4;clear k4))
   have k5:=HK4.out.trans (ez 0 0 W4 eZ)
   go_upto_if 37 with fail
   refine wp_cond_false (congrArg Value.bool (yam hc)) (wp_skip ?_)
   exact(‹∀(a:Act) (w:World),Code.wp prog _ (bodyPost _ _ _) a w->_›) _ _ (A0 hb (HR3.out.keep0 k5) (HK3.out.trans (e8 k5)) (HB3.out.keep k5) hP HE.out)
  ·go_upto_if 28 with fail
   refine wp_cond_false (congrArg Value.bool (yam c1)) (wp_skip ?_)
   exact(‹∀(a:Act) (w:World),Code.wp prog _ (bodyPost _ _ _) a w->_›) _ _ (A0 hb HR1.out HK1.out HB1.out hP HE.out)
variable {bs:List Int}
theorem dgD (hb:∀i,nv bs i<256)(i:Nat):∃T,∀{w:World} {P n cap:Nat} {a:Option Addr},RdF w P a n cap i bs->Calls prog 11 #[.pointer (some ⟨P,0,none⟩)] w (DgT w P a n cap bs T):=by
 obtain⟨t,j,h4,hs⟩:=Jg hb (ni bs i)
 obtain⟨r,hp⟩:=psD t h4
 by_cases c0:nv bs i%4=0
 ·exact⟨_,λhR=>BU hb hs hp (.inl ⟨by omega,rfl⟩) hR⟩
 by_cases c1:nv bs i%4=1
 ·have c1':(nv bs i:Int)%4=1:=xaa
  rcases r with⟨c,p⟩|st
  ·by_cases h0:c=0
   ·subst h0
    exact⟨_,λhR=>BU hb hs hp (.inr (.inr (.inl ⟨c1',p,rfl,rfl⟩))) hR⟩
   ·exact⟨_,λhR=>BU hb hs hp (.inr (.inr (.inr (.inl ⟨c1',c,p,h0,rfl,rfl⟩)))) hR⟩
  ·exact⟨_,λhR=>BU hb hs hp (.inr (.inl ⟨c1',st,rfl,rfl⟩)) hR⟩
 ·exact⟨_,λhR=>BU hb hs hp (.inr (.inr (.inr (.inr ⟨by omega,by omega,rfl⟩)))) hR⟩
theorem vQ {W W':World}{l h:Nat}(k:Kept 0 0 w W)(k':Kept l h W W')(hl:w.heap.size<=l):Kept 0 0 w W':=
 ⟨k'.os.trans k.os,k'.tape.trans k.tape,k'.output.trans k.output,yan k.size k'.size,λb hb _=>by rw[k'.block b (by have:=k.size;omega) xaa];exact k.block b hb xaa⟩
def DoO (w:World)(T:List Int×List Vl×List Int×Nat)(e:Ending)(w':World):Prop:=
 ∃a1 c1 a2 c2 a3 c3 vs v,e=.returned (.tuple #[eR a1 T.1.length c1 a2 vs.length c2 a3 T.2.2.1.length c3,v])/\vs.map sv=T.2.1/\DG w' w.heap.size (.slice a1 T.1.length c1) (.slice a2 vs.length c2) (.slice a3 T.2.2.1.length c3) T.1 vs T.2.2.1/\Kept 0 0 w w'
theorem EB (hb:∀i,nv (xs.take 500) i<256):∃T,∀{w:World} {a:Option Addr} {n cap:Nat},YS w a n xs->n<=cap->Calls prog 4 #[.slice a n cap] w (DoO w T):=by
 obtain⟨T,hT⟩:=dgD hb (niN (xs.take 500) (ni (xs.take 500) 0) (nv (xs.take 500) 0%6))
 refine⟨T,λ{w a n cap} h hc=>?_⟩
 have ka:=ez 0 0 w eZ
 have h1:(w.alloc eZ).heap.size=w.heap.size+1:=by simp
 have HO:Hid _:=F4 (w.alloc eZ) a n cap xs (h.keep ka) hc
 have HT:Hid _:=@hT
 have HB0:Hid _:=fZ w
 have HK0:Hid _:=ka
 clear hT hb
 generalize xs.take 500=bs at HO HT
 rw[h1] at HO
 clear h hc ka h1
 go_enter func4,ntmps4
 go_wp2_with fail
 refine yai HO.out ?_
 rintro e W1 ⟨rfl,⟨m,R1⟩,k1⟩
 have HR1:Hid _:=R1
 have HK1:Hid (Kept 0 0 w W1):=HK0.out.trans k1
 have HB1:Hid _:=HB0.out.keep k1
 clear R1 k1 HK0 HB0 HO
 go_wp2_with fail
 refine yai (Dq HR1.out) ?_
 rintro e W2 ⟨v,rfl,R2,k2⟩
 have HR2:Hid _:=R2
 have HK2:Hid (Kept 0 0 w W2):=vQ HK1.out k2 xaa
 have HB2:Hid (RB W2 w.heap.size gL gL gL):=HB1.out.kept k2 xaa
 clear R2 k2 HK1 HB1 HR1
 go_wp2_with fail
 refine yai (HT.out HR2.out) ?_
 rintro e W3 ⟨a1,c1,a2,c2,a3,c3,vs,rfl,hsv,d,rd,k3⟩
 have hP:=HR2.out.lt
 obtain⟨_,q0,q1,q2,f0,f1,f2⟩:=HB2.out.kept k3 xaa
 obtain⟨p0,p1,p2⟩:=eY W3 w.heap.size _ _ _ q0 q1 q2 (.slice a1 T.1.length c1) (.slice a2 vs.length c2) (.slice a3 T.2.2.1.length c3)
 have kk:=fc W3 w.heap.size (.slice a1 T.1.length c1) (.slice a2 vs.length c2) (.slice a3 T.2.2.1.length c3)
 have R:Hid (DoO w T (.returned (.tuple #[eR a1 T.1.length c1 a2 vs.length c2 a3 T.2.2.1.length c3,v])) _):=⟨a1,c1,a2,c2,a3,c3,vs,v,rfl,hsv,(d.kept kk xaa).mono xaa,vQ (vQ HK2.out k3 xaa) kk yad⟩
 clear hsv d rd k3 kk hP HR2 HK2 HB2 HT
 go_wp2_with fail
 exact yay (v:=.tuple #[eR a1 T.1.length c1 a2 vs.length c2 a3 T.2.2.1.length c3,v]) (by simp[results,results4,go_sem,p0,p1,p2]) rfl R.out
theorem nvb {bs:List Int}(h:∀x∈bs,0<=x/\x<256)(i:Nat):nv bs i<256:=by
 unfold nv
 by_cases c:i<bs.length
 ·have:=h _ (List.getElem_mem c)
  simp only[yah,yal c,Option.getD_some]
  first|omega|(split<;>omega)
 ·simp only[yah,List.getElem?_eq_none (Nat.le_of_not_lt c),Option.getD_none]
  first|omega|(split<;>omega)
theorem BV {W:World}{u1 u2 u3:Value}(k:Kept 0 0 (w.alloc (.cells #[u1,u2,u3] 26)) W):G0 W w.heap.size u1 u2 u3:=(fE w u1 u2 u3).keep k
theorem BW {n cap:Nat}(h:YS w a n xs)(hc:n<=cap):
  Calls prog 3 #[.slice a n cap] w λe w'=>e=.returned (.bool true)/\Kept 0 0 w w':=by
 by_cases hn:1048576<n
 ·have hn':(1048576:Int)<(n:Int):=xaa
  clear hn
  go_enter func3,ntmps3
  go_wp2
  go_ret
  exact⟨rfl,Kept.refl 0 0 _⟩
 have hn':¬(1048576:Int)<(n:Int):=xaa
 obtain⟨T,hT⟩:=EB (xs:=xs) (nvb λx hx=>h.lt x (List.mem_of_mem_take hx))
 have HT:Hid (∀W,Kept 0 0 w W->Calls prog 4 #[.slice a n cap] W (DoO W T)):=λW k=>hT (h.keep k) hc
 clear hT h hn
 obtain⟨ins,S,outs,i0⟩:=T
 go_enter func3,ntmps3
 go_wp2_with fail
 refine yai (HT.out w (Kept.refl 0 0 _)) ?_
 rintro e W1 ⟨a1,c1,a2,c2,a3,c3,vs,v,rfl,hsv,d,k1⟩
 have HS1:Hid (vs.map sv=S):=hsv
 have ka1:=ez 0 0 W1 (eP a1 ins.length c1 a2 vs.length c2 a3 outs.length c3)
 have HR1:Hid _:=srD (W1.alloc (eP a1 ins.length c1 a2 vs.length c2 a3 outs.length c3)) a1 a2 a3 ins.length c1 vs.length c2 outs.length c3 ins vs outs (GS.keep ⟨(wA d.r1 rfl).is,(EW d.r2 rfl).vs d.k,(wA d.r3 rfl).is⟩ ka1)
 have HK1:Hid (Kept 0 0 w (W1.alloc (eP a1 ins.length c1 a2 vs.length c2 a3 outs.length c3))):=k1.trans ka1
 have HG:Hid (∀W,Kept 0 0 (W1.alloc (eP a1 ins.length c1 a2 vs.length c2 a3 outs.length c3)) W->G0 W W1.heap.size (.slice a1 ins.length c1) (.slice a2 vs.length c2) (.slice a3 outs.length c3)):=λW k=>BV k
 clear hsv d k1 ka1
 simp only at HR1 HK1 HG
 go_wp2_with fail
 generalize W1.heap.size=Q at HG ⊢
 generalize W1.alloc (eP a1 ins.length c1 a2 vs.length c2 a3 outs.length c3)=W2 at HR1 HK1 HG ⊢
 refine yai HR1.out ?_
 clear HR1
 rintro e W3 ⟨A1,m1,e1,A2,m2,e2,A3,m3,e3,c,rfl,hS,k3⟩
 have ka3:=ez 0 0 W3 (eP A1 m1 e1 A2 m2 e2 A3 m3 e3)
 have HK3:Hid (Kept 0 0 w (W3.alloc (eP A1 m1 e1 A2 m2 e2 A3 m3 e3))):=HK1.out.trans (k3.trans ka3)
 have HG3:Hid (∀W,Kept 0 0 (W3.alloc (eP A1 m1 e1 A2 m2 e2 A3 m3 e3)) W->G0 W Q (.slice a1 ins.length c1) (.slice a2 vs.length c2) (.slice a3 outs.length c3)):=λW k=>HG.out W (k3.trans (ka3.trans k))
 have HV3:Hid (∀W,Kept 0 0 (W3.alloc (eP A1 m1 e1 A2 m2 e2 A3 m3 e3)) W->G0 W W3.heap.size (.slice A1 m1 e1) (.slice A2 m2 e2) (.slice A3 m3 e3)):=λW k=>BV k
 cases hok:okG ins vs outs
 ·obtain rfl:=hS.2 hok
  clear hS hok k3 ka3 HG HG3 HV3 HS1 HT
  go_wp2
  go_ret
  exact⟨rfl,HK3.out⟩
 obtain⟨rfl,hm2⟩:=hS.1 hok
 have HM:Hid (m2=(fY vs outs).1.length):=hm2
 have HOK:Hid (okG ins vs outs=true):=hok
 clear hS hok hm2 k3 ka3 HG HK1
 go_wp2_with fail
 generalize W3.heap.size=V at HV3 ⊢
 generalize W3.alloc (eP A1 m1 e1 A2 m2 e2 A3 m3 e3)=W4 at HK3 HG3 HV3 ⊢
 refine yai (HT.out W4 HK3.out) ?_
 rintro e W5 ⟨b1,f1,b2,f2,b3,f3,ws,v',rfl,hsv,d,k5⟩
 simp only at hsv d
 have hws:ws.map sv=vs.map sv:=hsv.trans HS1.out.symm
 have ka5:=ez 0 0 W5 (eP b1 ins.length f1 b2 ws.length f2 b3 outs.length f3)
 have HR5:Hid _:=rpD (W5.alloc (eP b1 ins.length f1 b2 ws.length f2 b3 outs.length f3)) b1 b2 b3 ins.length f1 ws.length f2 outs.length f3 ins ws outs ((wA d.r1 rfl).keep ka5) ((EW d.r2 rfl).keep ka5) ((wA d.r3 rfl).keep ka5) d.k ((okD hws).trans HOK.out)
 have HM5:Hid ((fY ws outs).1.length=m2/\okG ins (fY ws outs).1 (fY ws outs).2=true/\(∀k,k<(fY ws outs).1.length->Usd (fY ws outs).1 (fY ws outs).2 k)/\fY (fY ws outs).1 (fY ws outs).2=fY ws outs):=by
  have h0:=(okD (ins:=ins) (outs:=outs) hws).trans HOK.out
  have h1:=y8 h0
  have h2:=x6 h0
  exact⟨(Iy hws outs).trans HM.out.symm,h1,h2,vu h1 h2⟩
 have HK5:Hid (Kept 0 0 W4 (W5.alloc (eP b1 ins.length f1 b2 ws.length f2 b3 outs.length f3))):=k5.trans ka5
 obtain⟨_,g0,g1,g2⟩:=fE W5 (.slice b1 ins.length f1) (.slice b2 ws.length f2) (.slice b3 outs.length f3)
 clear hsv d k5 ka5 hws HM HOK HS1 HT
 generalize fY ws outs=M at HR5 HM5
 obtain⟨us,os⟩:=M
 simp only at HM5
 go_wp2_with fail
 clear g0 g1 g2
 generalize W5.alloc (eP b1 ins.length f1 b2 ws.length f2 b3 outs.length f3)=W6 at HR5 HK5 ⊢
 refine yai HR5.out ?_
 clear HR5
 rintro e W7 ⟨B1,d1,G2,m,d2,B3,d3,rfl,z1,z2,z3,_,kb,k7⟩
 simp only at z2 z3 kb
 obtain rfl:m=m2:=z2.1.symm.trans HM5.out.1
 have ka7:=ez 0 0 W7 (eP B1 ins.length d1 (some ⟨G2,0,none⟩) m d2 B3 outs.length d3)
 have HH:Hid (DdH w (W7.alloc (eP B1 ins.length d1 (some ⟨G2,0,none⟩) m d2 B3 outs.length d3)) W7.heap.size B1 ins.length d1 G2 m d2 B3 outs.length d3 ins us os):=⟨BV (Kept.refl 0 0 _),z1.keep ka7,z2.keep ka7,z3.keep ka7,kb,HM5.out.2.1,HK3.out.trans (HK5.out.trans (k7.trans ka7))⟩
 obtain⟨_,p0,p1,p2⟩:=HH.out.hb
 obtain⟨_,q0,q1,q2⟩:=HG3.out _ (HK5.out.trans (k7.trans ka7))
 obtain⟨_,r0,r1,r2⟩:=HV3.out _ (HK5.out.trans (k7.trans ka7))
 have HSV:Hid _:=qr (W7.alloc (eP B1 ins.length d1 (some ⟨G2,0,none⟩) m d2 B3 outs.length d3)) B1 (some ⟨G2,0,none⟩) B3 ins.length d1 m d2 outs.length d3 ins us os ⟨HH.out.i.is,HH.out.v.vs kb,HH.out.o.is⟩
 rw[HM5.out.2.1] at HSV
 clear z1 z2 z3 kb k7 ka7 HG3 HV3 HK5 HK3
 go_upto_if 67 with (go_at_call 7;refine yai HSV.out ?_;rintro e W8 ⟨rfl,k8⟩)
 refine wp_cond_false rfl (wp_skip ?_)
 exact(‹∀(a:Act) (w:World),Code.wp prog _ (bodyPost _ _ _) a w->_›) _ _ (Dn (HH.out.keep k8) HM5.out.2.2.2 λk hk=>HM5.out.2.2.1 k (by rw[HM5.out.1];exact hk))
end
section
open Go.ChangeShapes Go.WideShapes Go.ChangeAt Go.RowKit Flt
namespace PDead
theorem lifted (os:Os)(started:os.Started)(H:Type)(enc:TypeId×Value->H):
  ReturnsInHanded {} Tryz.checked os 3 .any (Rows.fnDeadSpec.pre6 enc prog Tryz.f3 Rows.fnDeadRow.domain false) (Rows.fnDeadSpec.post enc prog Tryz.f3 false true false false):=by
 refine returnsInHanded_of_change (C:=Tryz.checked) own started (by kernel_rfl) func3
  (ChangeSpec.witness6 (enc:=enc) (C:=Tryz.checked) false ⟨#[],#[.slice none 0 0],[]⟩ 8 (by kernel_rfl) (by kernel_rfl) (by kernel_rfl) (by kernel_rfl)) ?_
 intro W base args ds gs before hval0 hW hcnd _
 have hval:∀(j:Nat) t v,Tryz.f3.params[j]? =some t->args[j]? =some v->Value.okWide prog W .any base t v:=hval0
 have hW':=hW
 obtain⟨p,q,hA0,hV,rfl,hfz,hnd⟩:=hW
 have hA:DataW.TrodAll enc prog W 0 (λ_=>true) true Tryz.f3.params.toList args.toList ds p:=hA0
 rw[Tryz.params3] at hA hval
 obtain⟨v0,d0,rfl,rfl,h0⟩:=trodAll_one hA
 obtain⟨rfl,rfl⟩:=trodVars_none hV
 have lt0:∀x∈p,x.block<W.heap.size:=by obtain⟨m,hm⟩:=h0;exact DataW.trod_lt m _ _ _ hm
 obtain⟨a,la,ca,rfl⟩:=okWide_slice underlying22 (hval 0 22 v0 rfl rfl)
 obtain⟨hca,xa,fa⟩:=vl h0
 clear hA0 hval0
 have walk:Calls prog 3 #[.slice a la ca] W λe w'=>e=.returned (.bool true)/\Below W.heap.size W w':=(BW fa hca).mono λ_ _ h=>⟨h.1,h.2.below⟩
 refine walk.mono λe W' ⟨he,bel⟩=>?_
 subst he
 exact⟨_,rfl,_,_,_,[],_,[],hW',trodAll_mk1 (shut_bool underlying4 _),(trodAll_cons_mk (Below.trod zQ (by kernel_rfl) (of_decide_eq_true (by kernel_rfl)) h0 bel lt0) trodAll_mk0),rfl,bel.frame _,λh=>by cases h⟩
end PDead
theorem fnDead_holds:Rows.FnDeadSaid:=
 OpenClaim.holds_of_wide 3 Tryz.f3 rfl rfl rfl rfl rfl rfl rfl ⟨rfl,rfl,rfl,rfl,rfl⟩ rfl rfl rfl rfl rfl (by kernel_rfl) func3 (by kernel_rfl)
  (of_decide_eq_true (by kernel_rfl)) (by unfold Func.isWrapper;first|(rw[if_pos (by decide+kernel)];kernel_rfl)|(rw[if_neg (by decide+kernel)];exact⟨rfl,rfl⟩))
  (λos started H enc _=>PDead.lifted os started H enc)
#print axioms fnDead_holds
end
end Go.Proofs.YtdpbpcnldpkljaaGreat
