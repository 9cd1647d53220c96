import Derived.Test.YtdpbpcnldpkljaaGreatP27
namespace Go.Proofs.Z
open Tryz
set_option maxRecDepth 1000000
set_option maxHeartbeats 0
open Go.RowKit Flt
attribute [local go_sem] eD eB eA
variable {w:World} {B P n cap i n1 m c1 c2 n3 c3:Nat} {a a1 a2 a3:Option Addr} {bs ins outs:List Int} {vs:List Vl}
theorem Ag (f:DG w B (.slice a1 n1 c1) (.slice a2 vs.length c2) (.slice a3 n3 c3) ins vs outs)(hR:RdF w P a n cap i bs)(hP:P<B)(hn:vs.length<=100000)(h0:0<vs.length){m:Int}(hm:(vd vs (nv bs (ni bs i)%vs.length)).len=m)(hk:nv bs i%16=10):
  Calls prog 28 #[eR a1 n1 c1 a2 vs.length c2 a3 n3 c3,.pointer (some ⟨P,0,none⟩)] w (GwO w B P a n cap (ni bs (ni bs (ni bs (ni bs i)))) bs (.slice a1 n1 c1) (.slice a2 vs.length c2) (.slice a3 n3 c3) ins vs outs ⟨8,m,((nv bs (ni bs i)%vs.length:Nat):Int),iZ vs m (nv bs (ni bs (ni bs i))),iZ vs m (nv bs (ni bs (ni bs (ni bs i)))),0⟩):=by
 obtain⟨S0,k0⟩:=GrS.start f hR hP
 have HS0:Hid _:=S0
 have HK0:Hid (Kept P (P+1) w _):=e8 k0
 have HF:Hid (∀(W:World) (i':Nat) (o m p q r:Int),GrS W B P a n cap i' bs w.heap.size (.slice a1 n1 c1) (.slice a2 vs.length c2) (.slice a3 n3 c3) ins vs outs->Kept P (P+1) w W->∀W1,Kept 0 0 W W1->_):=λW i' o m p q r S k W1 k1=>S.put k k1 (eI o m p q r) (Nat.zero_lt_succ _) hn
 have hj:(nv bs (ni bs i):Int)%(vs.length:Int)=((nv bs (ni bs i)%vs.length:Nat):Int):=by rw[Int.natCast_emod]
 have hjm:nv bs (ni bs i)%vs.length<vs.length:=Nat.mod_lt _ h0
 generalize nv bs (ni bs i)%vs.length=j at hj hjm hm ⊢
 have HJ:Hid ((nv bs (ni bs i):Int).tmod (vs.length:Int)=(j:Int)):=(Int.tmod_eq_emod_of_nonneg xaa).trans hj
 have hne:¬vs=[]:=λe=>by rw[e] at h0;exact Nat.lt_irrefl _ h0
 have hx1:=fw hR.ys i
 have hx2:=fw hR.ys (ni bs i)
 have hk0:¬(nv bs i:Int)%16=0:=xaa
 have HKx:Hid _:=hk
 have HM:Hid _:=hm
 clear f hR S0 k0 hk hj hm
 go_enter func28,ntmps28
 go_wp2_with fail
 generalize (w.alloc (.cells #[.slice a1 n1 c1,.slice a2 vs.length c2,.slice a3 n3 c3] 26)).alloc eZ=W0 at HS0 HK0 ⊢
 refine yai HS0.out.next ?_
 rintro e W1 ⟨rfl,S1,k1⟩
 have q1:=S1.bx.q1
 have HS1:Hid _:=S1
 have HK1:Hid _:=HK0.out.trans k1
 clear S1 k1
 go_upto_region 11 with fail
 go_region_held3 (λw'=>w'.cell? ⟨w.heap.size,1,none⟩=some (.slice a2 vs.length c2)) (go_keep) (first|(go_at_call 19;refine yai (HS1.out.keep (eC _)).next ?_;rintro e W2 ⟨rfl,S2,k2⟩;have q2:=S2.bx.q1))
 have HK:Hid (Kept P (P+1) w W2):=HK1.out.trans ((e8 (eC _)).trans k2)
 have HS:Hid _:=S2
 obtain⟨g,cp,eu,hg1,hg2,hat⟩:=gC S2.dg.r2 rfl hjm
 cases eu
 have y1:=hat.c1
 rw[show(vs.getD j Vl.zero).len=m from HM.out] at y1
 rw[HJ.out]
 clear S2 k2 hat HJ hx2 q1 HS1 HK1 HS0 HK0 hg1 hk0 HM
 have hk':(nv bs i:Int)%16=10:=by have:=HKx.out;omega
 clear HKx
 obtain⟨_,q0,q1,q2,_,_,_⟩:=HS.out.bx
 go_wp2_with fail
 refine yai (HS.out.pick hn _) ?_
 rintro e W4 ⟨rfl,S4,k4⟩
 replace HK:Hid _:=HK.out.trans k4
 replace HS:Hid _:=S4
 clear S4 k4 q0 q1 q2 y1
 obtain⟨_,q0,q1,q2,_,_,_⟩:=HS.out.bx
 go_wp2_with fail
 refine yai (HS.out.pick hn _) ?_
 rintro e W5 ⟨rfl,S5,k5⟩
 replace HK:Hid _:=HK.out.trans k5
 replace HS:Hid _:=S5
 clear S5 k5 q0 q1 q2
 exact xca
theorem xU (f:DG w B (.slice a1 n1 c1) (.slice a2 vs.length c2) (.slice a3 n3 c3) ins vs outs)(hR:RdF w P a n cap i bs)(hP:P<B)(hn:vs.length<=100000)(h0:0<vs.length)(hm:(vd vs (nv bs (ni bs i)%vs.length)).len=(m:Int))(hm0:0<m)(hm1:m<=1000)(hk:nv bs i%16=12):
  Calls prog 28 #[eR a1 n1 c1 a2 vs.length c2 a3 n3 c3,.pointer (some ⟨P,0,none⟩)] w (GwO w B P a n cap (ni bs (ni bs (ni bs i))) bs (.slice a1 n1 c1) (.slice a2 vs.length c2) (.slice a3 n3 c3) ins vs outs ⟨11,1,((nv bs (ni bs i)%vs.length:Nat):Int),0,((nv bs (ni bs (ni bs i))%m:Nat):Int),0⟩):=by
 have hc:(nv bs (ni bs (ni bs i)):Int)%(m:Int)=((nv bs (ni bs (ni bs i))%m:Nat):Int):=by rw[Int.natCast_emod]
 have hcm:nv bs (ni bs (ni bs i))%m<m:=Nat.mod_lt _ hm0
 have hx3:=fw hR.ys (ni bs (ni bs i))
 generalize nv bs (ni bs (ni bs i))%m=c at hc hcm ⊢
 have HC:Hid ((nv bs (ni bs (ni bs i)):Int).tmod (m:Int)=(c:Int)):=(Int.tmod_eq_emod_of_nonneg xaa).trans hc
 clear hc
 obtain⟨S0,k0⟩:=GrS.start f hR hP
 have HS0:Hid _:=S0
 have HK0:Hid (Kept P (P+1) w _):=e8 k0
 have HF:Hid (∀(W:World) (i':Nat) (o m p q r:Int),GrS W B P a n cap i' bs w.heap.size (.slice a1 n1 c1) (.slice a2 vs.length c2) (.slice a3 n3 c3) ins vs outs->Kept P (P+1) w W->∀W1,Kept 0 0 W W1->_):=λW i' o m p q r S k W1 k1=>S.put k k1 (eI o m p q r) (Nat.zero_lt_succ _) hn
 have hj:(nv bs (ni bs i):Int)%(vs.length:Int)=((nv bs (ni bs i)%vs.length:Nat):Int):=by rw[Int.natCast_emod]
 have hjm:nv bs (ni bs i)%vs.length<vs.length:=Nat.mod_lt _ h0
 generalize nv bs (ni bs i)%vs.length=j at hj hjm hm ⊢
 have HJ:Hid ((nv bs (ni bs i):Int).tmod (vs.length:Int)=(j:Int)):=(Int.tmod_eq_emod_of_nonneg xaa).trans hj
 have hne:¬vs=[]:=λe=>by rw[e] at h0;exact Nat.lt_irrefl _ h0
 have hx1:=fw hR.ys i
 have hx2:=fw hR.ys (ni bs i)
 have hk0:¬(nv bs i:Int)%16=0:=xaa
 have HKx:Hid _:=hk
 have HM:Hid _:=hm
 clear f hR S0 k0 hk hj hm
 go_enter func28,ntmps28
 go_wp2_with fail
 generalize (w.alloc (.cells #[.slice a1 n1 c1,.slice a2 vs.length c2,.slice a3 n3 c3] 26)).alloc eZ=W0 at HS0 HK0 ⊢
 refine yai HS0.out.next ?_
 rintro e W1 ⟨rfl,S1,k1⟩
 have q1:=S1.bx.q1
 have HS1:Hid _:=S1
 have HK1:Hid _:=HK0.out.trans k1
 clear S1 k1
 go_upto_region 11 with fail
 go_region_held3 (λw'=>w'.cell? ⟨w.heap.size,1,none⟩=some (.slice a2 vs.length c2)) (go_keep) (first|(go_at_call 19;refine yai (HS1.out.keep (eC _)).next ?_;rintro e W2 ⟨rfl,S2,k2⟩;have q2:=S2.bx.q1))
 have HK:Hid (Kept P (P+1) w W2):=HK1.out.trans ((e8 (eC _)).trans k2)
 have HS:Hid _:=S2
 obtain⟨g,cp,eu,hg1,hg2,hat⟩:=gC S2.dg.r2 rfl hjm
 cases eu
 have y1:=hat.c1
 rw[show(vs.getD j Vl.zero).len=m from HM.out] at y1
 rw[HJ.out]
 clear S2 k2 hat HJ hx2 q1 HS1 HK1 HS0 HK0 hg1 hk0 HM
 have hk':(nv bs i:Int)%16=12:=by have:=HKx.out;omega
 clear HKx
 exact xbm
theorem Ah {W:World}{u:Value}{xs:List Int}(h:W.ownsRow B 3 1 u n (xs.map (Value.int .i64)))(hl:xs.length=n){k:Nat}(hk:k<n):∃g cap,u=.slice (some ⟨g,0,none⟩) n cap/\B<=g/\g<W.heap.size/\W.cell? ⟨g,k,none⟩=some (.int .i64 (xs.getD k 0)):=by
 obtain⟨b,d,rfl⟩:=iH h
 rcases uM h hl with c|⟨g,rfl,hg,hi⟩
 ·omega
 ·exact⟨g,d,rfl,hg,hi.lt,hi.at_ k hk⟩
theorem iX {W:World}{c:Nat}{xs:List Value}{e s:Nat}(h:W.ownsRow B e s (.slice a n c) m xs):n=m:=by
 obtain⟨b,d,e⟩:=iH h
 injection e
theorem CH (f:DG w B (.slice a1 n1 c1) (.slice a2 vs.length c2) (.slice a3 n3 c3) ins vs outs)(hR:RdF w P a n cap i bs)(hP:P<B)(hn:vs.length<=100000)(h1:0<n1)(ho:nv bs (ni bs i)%2=1)(hk:nv bs i%16=0\/vs.length=0):
  Calls prog 28 #[eR a1 n1 c1 a2 vs.length c2 a3 n3 c3,.pointer (some ⟨P,0,none⟩)] w (GwO w B P a n cap ((ni bs (ni bs (ni bs i)))) bs (.slice a1 n1 c1) (.slice a2 vs.length c2) (.slice a3 n3 c3) ins vs outs ⟨0,ins.getD (nv bs (ni bs (ni bs i))%n1) 0,((nv bs (ni bs (ni bs i))%n1:Nat):Int),0,0,0⟩):=by
 have hi1:n1=ins.length:=iX f.r1
 have hj:(nv bs (ni bs (ni bs i)):Int)%(n1:Int)=((nv bs (ni bs (ni bs i))%n1:Nat):Int):=by rw[Int.natCast_emod]
 have hjm:nv bs (ni bs (ni bs i))%n1<n1:=Nat.mod_lt _ h1
 have hx3:=fw hR.ys (ni bs (ni bs i))
 generalize nv bs (ni bs (ni bs i))%n1=j at hj hjm ⊢
 have HJ:Hid ((nv bs (ni bs (ni bs i)):Int).tmod (n1:Int)=(j:Int)):=(Int.tmod_eq_emod_of_nonneg xaa).trans hj
 have HJ2:Hid _:=hj
 have HI:Hid (ins.length=n1):=hi1.symm
 have ho':(nv bs (ni bs i):Int)%2=1:=xaa
 have HO:Hid _:=ho'
 generalize hv:ins.getD j 0=l
 have HV:Hid _:=hv
 clear hj hi1 ho ho' hv
 obtain⟨S0,k0⟩:=GrS.start f hR hP
 have HS0:Hid _:=S0
 have HK0:Hid (Kept P (P+1) w _):=e8 k0
 have HF:Hid (∀(W:World) (i':Nat) (v:Vl),GrS W B P a n cap i' bs w.heap.size (.slice a1 n1 c1) (.slice a2 vs.length c2) (.slice a3 n3 c3) ins vs outs->Kept P (P+1) w W->∀W1,Kept 0 0 W W1->v.k<18446744073709551616->_):=λW i' v S k W1 k1 hv=>S.put k k1 v hv hn
 have hx1:=fw hR.ys i
 have hx2:=fw hR.ys (ni bs i)
 have HKx:Hid _:=hk
 generalize hn2:vs.length=n2 at HS0 HK0 HF hn HKx ⊢
 clear hn2
 clear f hR S0 k0 hk
 go_enter func28,ntmps28
 go_wp2_with fail
 generalize (w.alloc (.cells #[.slice a1 n1 c1,.slice a2 n2 c2,.slice a3 n3 c3] 26)).alloc eZ=W0 at HS0 HK0 ⊢
 refine yai HS0.out.next ?_
 rintro e W1 ⟨rfl,S1,k1⟩
 have HS:Hid _:=S1
 have HK:Hid _:=HK0.out.trans k1
 clear S1 k1 HS0 HK0
 obtain⟨_,q0,q1,q2,_,_,_⟩:=HS.out.bx
 rcases Nat.eq_zero_or_pos n2 with hz|hz
 case' inl=>have hz':(n2:Int)<=0:=xaa
 case' inl=>clear hz
 case' inr=>have hk':(nv bs i:Int)%16=0:=by have:=HKx.out;omega
 all_goals
  clear HKx
  go_wp2_with fail
  refine yai HS.out.next ?_
  rintro e W2 ⟨rfl,S2,k2⟩
  replace HK:Hid _:=HK.out.trans k2
  replace HS:Hid _:=S2
  clear S2 k2 q0 q1 q2
  have ho':=HO.out
  have q0:=HS.out.bx.q0
  have hn10:¬n1=0:=xaa
  go_upto_region 6 with fail
  go_region_held3 (λw'=>w'.cell? ⟨w.heap.size,0,none⟩=some (.slice a1 n1 c1)) (go_keep) (first|(go_at_call 19;refine yai (HS.out.keep (eC _)).next ?_;rintro e W4 ⟨rfl,S4,k4⟩;have z0:=S4.bx.q0))
  replace HK:Hid _:=HK.out.trans ((e8 (eC _)).trans k4)
  replace HS:Hid _:=S4
  have r1:=S4.dg.r1
  rw[HI.out] at r1
  obtain⟨g,cp,eu,_,hg2,y⟩:=Ah r1 HI.out hjm
  cases eu
  rw[HV.out] at y
  first|rw[HJ.out]|rw[HJ2.out]
  clear S4 k4 q0 r1
  go_wp2_with fail
  obtain⟨_,q0,q1,q2,_,_,_⟩:=HS.out.bx
  go_region_with (first|(go_at_call 24;refine yai (HF.out _ _ (eI 0 l (j:Int) 0 0) HS.out HK.out _ ((eC _).trans k3) (Nat.zero_lt_succ _)) ?_;rintro e W9 ⟨g',cap',rfl,hrb,hfin⟩;obtain⟨_,r0,r1,r2,rf0,rf1,rf2⟩:=hrb)|(go_at_call 26;refine yai (gj _ _ _ _ _ _) ?_;rintro e W3 ⟨rfl,k3⟩;obtain⟨_,s0,s1,s2,_,_,_⟩:=(HS.out.keep ((eC _).trans k3)).bx))
  all_goals
   go_wp2_with fail
   obtain⟨t0,t1,t2⟩:=eY W9 (w.heap.size+1) _ _ _ r0 r1 r2 (.slice (some ⟨g,0,none⟩) n1 c1) (.slice (some ⟨g',0,none⟩) (n2+1) cap') (.slice a3 n3 c3)
   exact yay (v:=eR (some ⟨g,0,none⟩) n1 c1 (some ⟨g',0,none⟩) (n2+1) cap' a3 n3 c3) (by simp[results,results28,go_sem,t0,t1,t2]) rfl hfin
