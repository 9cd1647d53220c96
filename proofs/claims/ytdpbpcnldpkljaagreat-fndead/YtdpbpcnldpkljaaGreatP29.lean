import Derived.Test.YtdpbpcnldpkljaaGreatP27
namespace Go.Proofs.Z
open Tryz
set_option maxRecDepth 1000000
set_option maxHeartbeats 0
open Go.RowKit Flt
attribute [local go_sem] eD eB eA
theorem Ai {w:World}{B P:Nat}{a:Option Addr}{n cap i:Nat}{bs:List Int}{a1 a2 a3:Option Addr}{n1 c1 c2 n3 c3:Nat}{ins:List Int}{vs:List Vl}{outs:List Int}(f:DG w B (.slice a1 n1 c1) (.slice a2 vs.length c2) (.slice a3 n3 c3) ins vs outs)(hR:RdF w P a n cap i bs)(hP:P<B)(hn:vs.length<=100000)(h0:0<vs.length){m:Int}(hm:(vd vs (nv bs (ni bs i)%vs.length)).len=m){o:Int}(hk:(nv bs i%16=1/\o=2)\/(nv bs i%16=2/\o=3)\/(nv bs i%16=3/\o=4)\/(nv bs i%16=4/\o=5)\/(nv bs i%16=5/\o=7)\/(nv bs i%16=6/\o=4)\/(nv bs i%16=7/\o=2)\/(nv bs i%16=8/\o=3)):
  Calls prog 28 #[eR a1 n1 c1 a2 vs.length c2 a3 n3 c3,.pointer (some ⟨P,0,none⟩)] w (GwO w B P a n cap (ni bs (ni bs (ni bs i))) bs (.slice a1 n1 c1) (.slice a2 vs.length c2) (.slice a3 n3 c3) ins vs outs ⟨o,m,((nv bs (ni bs i)%vs.length:Nat):Int),iZ vs m (nv bs (ni bs (ni bs i))),0,0⟩):=by
 obtain⟨S0,k0⟩:=GrS.start f hR hP
 have HS0:Hid _:=S0
 have HK0:Hid (Kept P (P+1) w _):=e8 k0
 have HF:Hid (∀(W:World) (i':Nat) (o m p q r:Int),GrS W B P a n cap i' bs w.heap.size (.slice a1 n1 c1) (.slice a2 vs.length c2) (.slice a3 n3 c3) ins vs outs->Kept P (P+1) w W->∀W1,Kept 0 0 W W1->_):=λW i' o m p q r S k W1 k1=>S.put k k1 (eI o m p q r) (Nat.zero_lt_succ _) hn
 have hj:(nv bs (ni bs i):Int)%(vs.length:Int)=((nv bs (ni bs i)%vs.length:Nat):Int):=by rw[Int.natCast_emod]
 have hjm:nv bs (ni bs i)%vs.length<vs.length:=Nat.mod_lt _ h0
 generalize nv bs (ni bs i)%vs.length=j at hj hjm hm ⊢
 have HJ:Hid ((nv bs (ni bs i):Int).tmod (vs.length:Int)=(j:Int)):=(Int.tmod_eq_emod_of_nonneg xaa).trans hj
 have hne:¬vs=[]:=λe=>by rw[e] at h0;exact Nat.lt_irrefl _ h0
 have hx1:=fw hR.ys i
 have hx2:=fw hR.ys (ni bs i)
 have hk0:¬(nv bs i:Int)%16=0:=xaa
 have HKx:Hid _:=hk
 have HM:Hid _:=hm
 clear f hR S0 k0 hk hj hm
 go_enter func28,ntmps28
 go_wp2_with fail
 generalize (w.alloc (.cells #[.slice a1 n1 c1,.slice a2 vs.length c2,.slice a3 n3 c3] 26)).alloc eZ=W0 at HS0 HK0 ⊢
 refine yai HS0.out.next ?_
 rintro e W1 ⟨rfl,S1,k1⟩
 have q1:=S1.bx.q1
 have HS1:Hid _:=S1
 have HK1:Hid _:=HK0.out.trans k1
 clear S1 k1
 go_upto_region 11 with fail
 go_region_held3 (λw'=>w'.cell? ⟨w.heap.size,1,none⟩=some (.slice a2 vs.length c2)) (go_keep) (first|(go_at_call 19;refine yai (HS1.out.keep (eC _)).next ?_;rintro e W2 ⟨rfl,S2,k2⟩;have q2:=S2.bx.q1))
 have HK:Hid (Kept P (P+1) w W2):=HK1.out.trans ((e8 (eC _)).trans k2)
 have HS:Hid _:=S2
 obtain⟨g,cp,eu,hg1,hg2,hat⟩:=gC S2.dg.r2 rfl hjm
 cases eu
 have y1:=hat.c1
 rw[show(vs.getD j Vl.zero).len=m from HM.out] at y1
 rw[HJ.out]
 clear S2 k2 hat HJ hx2 q1 HS1 HK1 HS0 HK0 hg1 hk0 HM
 rcases HKx.out with⟨kk,rfl⟩|⟨kk,rfl⟩|⟨kk,rfl⟩|⟨kk,rfl⟩|⟨kk,rfl⟩|⟨kk,rfl⟩|⟨kk,rfl⟩|⟨kk,rfl⟩
 all_goals
  clear HKx
  first|(have hk':(nv bs i:Int)%16=1:=by omega)|(have hk':(nv bs i:Int)%16=2:=by omega)|(have hk':(nv bs i:Int)%16=3:=by omega)|(have hk':(nv bs i:Int)%16=4:=by omega)|(have hk':(nv bs i:Int)%16=5:=by omega)|(have hk':(nv bs i:Int)%16=6:=by omega)|(have hk':(nv bs i:Int)%16=7:=by omega)|(have hk':(nv bs i:Int)%16=8:=by omega)
  clear kk
  obtain⟨_,q0,q1,q2,_,_,_⟩:=(HS.out.keep (ez 0 0 _ (.cells #[.int .i64 0,.int .i64 2,.int .i64 3,.int .i64 4,.int .i64 5,.int .i64 7,.int .i64 4,.int .i64 2,.int .i64 3] 3))).bx
  go_wp2_with fail
  refine yai ((HS.out.keep (ez 0 0 _ _)).pick hn _) ?_
  rintro e W4 ⟨rfl,S4,k4⟩
  replace HK:Hid _:=HK.out.trans ((e8 (ez 0 0 _ _)).trans k4)
  replace HS:Hid _:=S4
  clear S4 k4 q0 q1 q2 y1
  go_wp2_with fail
  obtain⟨_,q0,q1,q2,_,_,_⟩:=HS.out.bx
  go_region_with (first|(go_at_call 24;refine yai (HF.out _ _ _ _ _ _ _ HS.out HK.out _ ((eC _).trans k3)) ?_;rintro e W9 ⟨g',cap',rfl,hrb,hfin⟩;obtain⟨_,r0,r1,r2,rf0,rf1,rf2⟩:=hrb)|(go_at_call 26;refine yai (gj _ _ _ _ _ _) ?_;rintro e W3 ⟨rfl,k3⟩;obtain⟨_,s0,s1,s2,_,_,_⟩:=(HS.out.keep ((eC _).trans k3)).bx))
  all_goals
   go_wp2_with fail
   obtain⟨t0,t1,t2⟩:=eY W9 (w.heap.size+1) _ _ _ r0 r1 r2 (.slice a1 n1 c1) (.slice (some ⟨g',0,none⟩) (vs.length+1) cap') (.slice a3 n3 c3)
   exact yay (v:=eR a1 n1 c1 (some ⟨g',0,none⟩) (vs.length+1) cap' a3 n3 c3) (by simp[results,results28,go_sem,t0,t1,t2]) rfl hfin
