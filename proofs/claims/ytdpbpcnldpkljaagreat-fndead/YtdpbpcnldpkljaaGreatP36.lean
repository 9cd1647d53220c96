import Derived.Test.YtdpbpcnldpkljaaGreatP35
namespace Go.Proofs.Z
open Tryz
set_option maxRecDepth 1000000
set_option maxHeartbeats 0
section
open Go.RowKit Flt
attribute [local go_sem] eD eB eA
variable {w0 w W1 W2:World} {P n cap i c1 c2 c3:Nat} {a a1 a2 a3:Option Addr} {bs ins outs:List Int} {vs S:List Vl}
theorem GA (f:DG w w0.heap.size (.slice a1 ins.length c1) (.slice a2 vs.length c2) (.slice a3 outs.length c3) ins vs outs)(hR:RdF w P a n cap i bs)(hP:P<w0.heap.size)(k0:Kept P (P+1) w0 w)(hs:vs.map sv=S)(hn:vs.length<=100000)(h1:0<S.length)(hk:nv bs i%12=1):
  Calls prog 42 #[eR a1 ins.length c1 a2 vs.length c2 a3 outs.length c3,.pointer (some ⟨P,0,none⟩)] w (DgF w0 P a n cap bs ins (S.set (nv bs (ni bs i)%S.length) ({vd S (nv bs (ni bs i)%S.length) with b:=IntKind.i64.wrap ((vd S (nv bs (ni bs i)%S.length)).b-1)})) outs (ni bs (ni bs i))):=by
 have HD0:Hid _:=Dy.box f hR hP k0
 have hx1:=fw hR.ys i
 have hx2:=fw hR.ys (ni bs i)
 have HSL:Hid (S.length=vs.length):=by show _=_;rw[<-hs,List.length_map]
 have HSV:Hid _:=hs
 have HKx:Hid _:=hk
 clear f hR k0 hs hk
 go_enter func42,ntmps42
 go_wp2_with fail
 generalize (w.alloc (.cells #[.slice a1 ins.length c1,.slice a2 vs.length c2,.slice a3 outs.length c3] 26)).alloc eZ=W0 at HD0 ⊢
 refine yai HD0.out.next ?_
 rintro e W1 ⟨rfl,D1⟩
 have HD1:Hid _:=D1
 clear D1 HD0
 go_wp2_with fail
 refine yai HD1.out.next ?_
 rintro e W2 ⟨rfl,D2⟩
 have HD:Hid _:=D2
 clear D2 HD1
 have h0:0<vs.length:=by have:=HSL.out;omega
 have hjm:nv bs (ni bs i)%vs.length<vs.length:=Nat.mod_lt _ h0
 have hj1:(nv bs (ni bs i):Int).tmod (vs.length:Int)=((nv bs (ni bs i)%vs.length:Nat):Int):=rfl
 have hj2:(nv bs (ni bs i):Int)%(vs.length:Int)=((nv bs (ni bs i)%vs.length:Nat):Int):=by rw[Int.natCast_emod]
 have HJE:Hid (nv bs (ni bs i)%vs.length=nv bs (ni bs i)%S.length):=by show _=_;rw[HSL.out]
 generalize nv bs (ni bs i)%vs.length=j at hjm hj1 hj2 HJE
 have hne:¬vs=[]:=λe=>by rw[e] at h0;exact Nat.lt_irrefl _ h0
 obtain⟨g,cp,eu,_,hg2,hat⟩:=gC HD.out.dg.r2 rfl hjm
 cases eu
 obtain⟨y0,y1,y2,y3,y4,y5⟩:=hat
 have hfz:∀o,W2.frozen? ⟨g,o,none⟩=false:=λo=>HD.out.dg.r2.frozenAt o
 have hkk:(vd vs j).k<18446744073709551616:=HD.out.dg.k _ (ia hjm)
 have HK:Hid _:=hkk
 clear hkk
 obtain⟨_,q0,q1,q2,_,_,_⟩:=HD.out.bx
 have hk':(nv bs i:Int)%12=1:=by have:=HKx.out;omega
 clear HKx
 obtain⟨z,hZ⟩:∃z,(vd vs j).b=z:=⟨_,rfl⟩
 rw[show(vs.getD j Vl.zero).b=z from hZ] at y3
 have HZ:Hid _:=hZ
 clear hZ
 have HD4:Hid _:=HD.out.setV (q:=3) (x:=.int .i64 (IntKind.i64.wrap (z-1))) (v':=⟨(vd vs j).op,(vd vs j).len,(vd vs j).a,IntKind.i64.wrap (z-1),(vd vs j).c,(vd vs j).k⟩) hjm xab (by rw[<-HZ.out];rfl) HK.out
 replace HD4:Hid _:=HD4.out.keep (eC _)
 have HFin:Hid _:=HD4.out.finS (S':=S.set (nv bs (ni bs i)%S.length) ({vd S (nv bs (ni bs i)%S.length) with b:=IntKind.i64.wrap ((vd S (nv bs (ni bs i)%S.length)).b-1)})) (List.length_set ..) (by rw[List.map_set,HSV.out,<-HJE.out];exact congrArg (S.set j) (by rw[<-HSV.out,svd,<-HZ.out];rfl))
 have hz:=hfz (j*6+3)
 go_upto_region 9 with fail
 go_region_law (fail)
 all_goals
  generalize (W2.setCell ⟨g,j*6+3,none⟩ (.int .i64 (IntKind.i64.wrap (z-1)))).drew=W4 at HD4 HFin ⊢
  obtain⟨_,t0,t1,t2,_,_,_⟩:=HD4.out.bx
  obtain⟨_,r0,r1,r2,rf0,rf1,rf2⟩:=HD4.out.rs
  go_wp2_with fail
  obtain⟨p0,p1,p2⟩:=eY _ (w.heap.size+1) _ _ _ r0 r1 r2 (.slice a1 ins.length c1) (.slice (some ⟨g,0,none⟩) vs.length c2) (.slice a3 outs.length c3)
  exact yay (v:=eR a1 ins.length c1 (some ⟨g,0,none⟩) vs.length c2 a3 outs.length c3) (by simp[results,results42,go_sem,p0,p1,p2]) rfl HFin.out
theorem GC (f:DG w w0.heap.size (.slice a1 ins.length c1) (.slice a2 vs.length c2) (.slice a3 outs.length c3) ins vs outs)(hR:RdF w P a n cap i bs)(hP:P<w0.heap.size)(k0:Kept P (P+1) w0 w)(hs:vs.map sv=S)(hn:vs.length<=100000)(h1:0<S.length)(hk:nv bs i%12=2):
  Calls prog 42 #[eR a1 ins.length c1 a2 vs.length c2 a3 outs.length c3,.pointer (some ⟨P,0,none⟩)] w (DgF w0 P a n cap bs ins (S.set (nv bs (ni bs i)%S.length) ({vd S (nv bs (ni bs i)%S.length) with c:=IntKind.i64.wrap ((vd S (nv bs (ni bs i)%S.length)).c+1)})) outs (ni bs (ni bs i))):=by
 have HD0:Hid _:=Dy.box f hR hP k0
 have hx1:=fw hR.ys i
 have hx2:=fw hR.ys (ni bs i)
 have HSL:Hid (S.length=vs.length):=by show _=_;rw[<-hs,List.length_map]
 have HSV:Hid _:=hs
 have HKx:Hid _:=hk
 clear f hR k0 hs hk
 go_enter func42,ntmps42
 go_wp2_with fail
 generalize (w.alloc (.cells #[.slice a1 ins.length c1,.slice a2 vs.length c2,.slice a3 outs.length c3] 26)).alloc eZ=W0 at HD0 ⊢
 refine yai HD0.out.next ?_
 rintro e W1 ⟨rfl,D1⟩
 have HD1:Hid _:=D1
 clear D1 HD0
 go_wp2_with fail
 refine yai HD1.out.next ?_
 rintro e W2 ⟨rfl,D2⟩
 have HD:Hid _:=D2
 clear D2 HD1
 have h0:0<vs.length:=by have:=HSL.out;omega
 have hjm:nv bs (ni bs i)%vs.length<vs.length:=Nat.mod_lt _ h0
 have hj1:(nv bs (ni bs i):Int).tmod (vs.length:Int)=((nv bs (ni bs i)%vs.length:Nat):Int):=rfl
 have hj2:(nv bs (ni bs i):Int)%(vs.length:Int)=((nv bs (ni bs i)%vs.length:Nat):Int):=by rw[Int.natCast_emod]
 have HJE:Hid (nv bs (ni bs i)%vs.length=nv bs (ni bs i)%S.length):=by show _=_;rw[HSL.out]
 generalize nv bs (ni bs i)%vs.length=j at hjm hj1 hj2 HJE
 have hne:¬vs=[]:=λe=>by rw[e] at h0;exact Nat.lt_irrefl _ h0
 obtain⟨g,cp,eu,_,hg2,hat⟩:=gC HD.out.dg.r2 rfl hjm
 cases eu
 obtain⟨y0,y1,y2,y3,y4,y5⟩:=hat
 have hfz:∀o,W2.frozen? ⟨g,o,none⟩=false:=λo=>HD.out.dg.r2.frozenAt o
 have hkk:(vd vs j).k<18446744073709551616:=HD.out.dg.k _ (ia hjm)
 have HK:Hid _:=hkk
 clear hkk
 obtain⟨_,q0,q1,q2,_,_,_⟩:=HD.out.bx
 have hk':(nv bs i:Int)%12=2:=by have:=HKx.out;omega
 clear HKx
 obtain⟨z,hZ⟩:∃z,(vd vs j).c=z:=⟨_,rfl⟩
 rw[show(vs.getD j Vl.zero).c=z from hZ] at y4
 have HZ:Hid _:=hZ
 clear hZ
 have HD4:Hid _:=HD.out.setV (q:=4) (x:=.int .i64 (IntKind.i64.wrap (z+1))) (v':=⟨(vd vs j).op,(vd vs j).len,(vd vs j).a,(vd vs j).b,IntKind.i64.wrap (z+1),(vd vs j).k⟩) hjm xab (by rw[<-HZ.out];rfl) HK.out
 replace HD4:Hid _:=HD4.out.keep (eC _)
 have HFin:Hid _:=HD4.out.finS (S':=S.set (nv bs (ni bs i)%S.length) ({vd S (nv bs (ni bs i)%S.length) with c:=IntKind.i64.wrap ((vd S (nv bs (ni bs i)%S.length)).c+1)})) (List.length_set ..) (by rw[List.map_set,HSV.out,<-HJE.out];exact congrArg (S.set j) (by rw[<-HSV.out,svd,<-HZ.out];rfl))
 have hz:=hfz (j*6+4)
 go_upto_region 11 with fail
 go_region_law (fail)
 all_goals
  generalize (W2.setCell ⟨g,j*6+4,none⟩ (.int .i64 (IntKind.i64.wrap (z+1)))).drew=W4 at HD4 HFin ⊢
  obtain⟨_,t0,t1,t2,_,_,_⟩:=HD4.out.bx
  obtain⟨_,r0,r1,r2,rf0,rf1,rf2⟩:=HD4.out.rs
  go_wp2_with fail
  obtain⟨p0,p1,p2⟩:=eY _ (w.heap.size+1) _ _ _ r0 r1 r2 (.slice a1 ins.length c1) (.slice (some ⟨g,0,none⟩) vs.length c2) (.slice a3 outs.length c3)
  exact yay (v:=eR a1 ins.length c1 (some ⟨g,0,none⟩) vs.length c2 a3 outs.length c3) (by simp[results,results42,go_sem,p0,p1,p2]) rfl HFin.out
theorem GD (f:DG w w0.heap.size (.slice a1 ins.length c1) (.slice a2 vs.length c2) (.slice a3 outs.length c3) ins vs outs)(hR:RdF w P a n cap i bs)(hP:P<w0.heap.size)(k0:Kept P (P+1) w0 w)(hs:vs.map sv=S)(hn:vs.length<=100000)(h1:0<S.length)(hk:nv bs i%12=3):
  Calls prog 42 #[eR a1 ins.length c1 a2 vs.length c2 a3 outs.length c3,.pointer (some ⟨P,0,none⟩)] w (DgF w0 P a n cap bs ins (S.set (nv bs (ni bs i)%S.length) ({vd S (nv bs (ni bs i)%S.length) with len:=IntKind.i64.wrap ((vd S (nv bs (ni bs i)%S.length)).len+1)})) outs (ni bs (ni bs i))):=by
 have HD0:Hid _:=Dy.box f hR hP k0
 have hx1:=fw hR.ys i
 have hx2:=fw hR.ys (ni bs i)
 have HSL:Hid (S.length=vs.length):=by show _=_;rw[<-hs,List.length_map]
 have HSV:Hid _:=hs
 have HKx:Hid _:=hk
 clear f hR k0 hs hk
 go_enter func42,ntmps42
 go_wp2_with fail
 generalize (w.alloc (.cells #[.slice a1 ins.length c1,.slice a2 vs.length c2,.slice a3 outs.length c3] 26)).alloc eZ=W0 at HD0 ⊢
 refine yai HD0.out.next ?_
 rintro e W1 ⟨rfl,D1⟩
 have HD1:Hid _:=D1
 clear D1 HD0
 go_wp2_with fail
 refine yai HD1.out.next ?_
 rintro e W2 ⟨rfl,D2⟩
 have HD:Hid _:=D2
 clear D2 HD1
 have h0:0<vs.length:=by have:=HSL.out;omega
 have hjm:nv bs (ni bs i)%vs.length<vs.length:=Nat.mod_lt _ h0
 have hj1:(nv bs (ni bs i):Int).tmod (vs.length:Int)=((nv bs (ni bs i)%vs.length:Nat):Int):=rfl
 have hj2:(nv bs (ni bs i):Int)%(vs.length:Int)=((nv bs (ni bs i)%vs.length:Nat):Int):=by rw[Int.natCast_emod]
 have HJE:Hid (nv bs (ni bs i)%vs.length=nv bs (ni bs i)%S.length):=by show _=_;rw[HSL.out]
 generalize nv bs (ni bs i)%vs.length=j at hjm hj1 hj2 HJE
 have hne:¬vs=[]:=λe=>by rw[e] at h0;exact Nat.lt_irrefl _ h0
 obtain⟨g,cp,eu,_,hg2,hat⟩:=gC HD.out.dg.r2 rfl hjm
 cases eu
 obtain⟨y0,y1,y2,y3,y4,y5⟩:=hat
 have hfz:∀o,W2.frozen? ⟨g,o,none⟩=false:=λo=>HD.out.dg.r2.frozenAt o
 have hkk:(vd vs j).k<18446744073709551616:=HD.out.dg.k _ (ia hjm)
 have HK:Hid _:=hkk
 clear hkk
 obtain⟨_,q0,q1,q2,_,_,_⟩:=HD.out.bx
 have hk':(nv bs i:Int)%12=3:=by have:=HKx.out;omega
 clear HKx
 obtain⟨z,hZ⟩:∃z,(vd vs j).len=z:=⟨_,rfl⟩
 rw[show(vs.getD j Vl.zero).len=z from hZ] at y1
 have HZ:Hid _:=hZ
 clear hZ
 have HD4:Hid _:=HD.out.setV (q:=1) (x:=.int .i64 (IntKind.i64.wrap (z+1))) (v':=⟨(vd vs j).op,IntKind.i64.wrap (z+1),(vd vs j).a,(vd vs j).b,(vd vs j).c,(vd vs j).k⟩) hjm xab (by rw[<-HZ.out];rfl) HK.out
 replace HD4:Hid _:=HD4.out.keep (eC _)
 have HFin:Hid _:=HD4.out.finS (S':=S.set (nv bs (ni bs i)%S.length) ({vd S (nv bs (ni bs i)%S.length) with len:=IntKind.i64.wrap ((vd S (nv bs (ni bs i)%S.length)).len+1)})) (List.length_set ..) (by rw[List.map_set,HSV.out,<-HJE.out];exact congrArg (S.set j) (by rw[<-HSV.out,svd,<-HZ.out];rfl))
 have hz:=hfz (j*6+1)
 go_upto_region 13 with fail
 go_region_law (fail)
 all_goals
  generalize (W2.setCell ⟨g,j*6+1,none⟩ (.int .i64 (IntKind.i64.wrap (z+1)))).drew=W4 at HD4 HFin ⊢
  obtain⟨_,t0,t1,t2,_,_,_⟩:=HD4.out.bx
  obtain⟨_,r0,r1,r2,rf0,rf1,rf2⟩:=HD4.out.rs
  go_wp2_with fail
  obtain⟨p0,p1,p2⟩:=eY _ (w.heap.size+1) _ _ _ r0 r1 r2 (.slice a1 ins.length c1) (.slice (some ⟨g,0,none⟩) vs.length c2) (.slice a3 outs.length c3)
  exact yay (v:=eR a1 ins.length c1 (some ⟨g,0,none⟩) vs.length c2 a3 outs.length c3) (by simp[results,results42,go_sem,p0,p1,p2]) rfl HFin.out
def spM (ins:List Int)(S:List Vl)(outs:List Int)(bs:List Int)(i:Nat):List Int×List Vl×List Int:=
 if S.length=0 then (ins,S,outs)
 else if nv bs i%12=0 then (ins,S.set (nv bs (ni bs i)%S.length) {vd S (nv bs (ni bs i)%S.length) with a:=((nv bs (ni bs i)%S.length:Nat):Int)},outs)
 else if nv bs i%12=1 then (ins,S.set (nv bs (ni bs i)%S.length) {vd S (nv bs (ni bs i)%S.length) with b:=IntKind.i64.wrap ((vd S (nv bs (ni bs i)%S.length)).b-1)},outs)
 else if nv bs i%12=2 then (ins,S.set (nv bs (ni bs i)%S.length) {vd S (nv bs (ni bs i)%S.length) with c:=IntKind.i64.wrap ((vd S (nv bs (ni bs i)%S.length)).c+1)},outs)
 else if nv bs i%12=3 then (ins,S.set (nv bs (ni bs i)%S.length) {vd S (nv bs (ni bs i)%S.length) with len:=IntKind.i64.wrap ((vd S (nv bs (ni bs i)%S.length)).len+1)},outs)
 else if nv bs i%12=4 then (ins,S.set (nv bs (ni bs i)%S.length) {vd S (nv bs (ni bs i)%S.length) with op:=(nv bs (ni bs i):Int)%17},outs)
 else if nv bs i%12=5 then (ins,S,outs++[(S.length:Int)-(nv bs (ni bs i):Int)%2])
 else if nv bs i%12=6 then (ins++[(nv bs (ni bs i):Int)%3*500],S,outs)
 else if nv bs i%12=7 then (ins,S,outs++[-1])
 else if nv bs i%12=8 then (ins,S.set (nv bs (ni bs i)%S.length) (vd S (nv bs (ni bs i)%S.length)),outs)
 else if nv bs i%12=9 then (ins,S.set (nv bs (ni bs i)%S.length) {vd S (nv bs (ni bs i)%S.length) with op:=-1},outs)
 else if nv bs i%12=10 then (ins,S,outs++List.replicate (50+nv bs (ni bs i)%2-outs.length) (((nv bs (ni bs i)%S.length:Nat)):Int))
 else (ins++List.replicate (20+nv bs (ni bs i)%2-ins.length) 2,S,outs)
theorem GE (f:DG w w0.heap.size (.slice a1 ins.length c1) (.slice a2 vs.length c2) (.slice a3 outs.length c3) ins vs outs)(hR:RdF w P a n cap i bs)(hP:P<w0.heap.size)(k0:Kept P (P+1) w0 w)(hs:vs.map sv=S)(hn:vs.length<=100000)(hi:ins.length<=1000)(ho:outs.length<=1000):
  Calls prog 42 #[eR a1 ins.length c1 a2 vs.length c2 a3 outs.length c3,.pointer (some ⟨P,0,none⟩)] w (DgF w0 P a n cap bs (spM ins S outs bs i).1 (spM ins S outs bs i).2.1 (spM ins S outs bs i).2.2 (ni bs (ni bs i))):=by
 unfold spM
 by_cases h0:S.length=0
 ·rw[if_pos h0]
  exact Gz f hR hP k0 hs hn h0
 have h1:0<S.length:=xaa
 have hx:nv bs i%12<12:=Nat.mod_lt _ xaa
 rw[if_neg h0]
 by_cases c:nv bs i%12=0
 ·rw[if_pos c];exact Gp f hR hP k0 hs hn h1 c
 rw[if_neg c]
 by_cases c:nv bs i%12=1
 ·rw[if_pos c];exact GA f hR hP k0 hs hn h1 c
 rw[if_neg c]
 by_cases c:nv bs i%12=2
 ·rw[if_pos c];exact GC f hR hP k0 hs hn h1 c
 rw[if_neg c]
 by_cases c:nv bs i%12=3
 ·rw[if_pos c];exact GD f hR hP k0 hs hn h1 c
 rw[if_neg c]
 by_cases c:nv bs i%12=4
 ·rw[if_pos c];exact Gq f hR hP k0 hs hn h1 c
 rw[if_neg c]
 by_cases c:nv bs i%12=5
 ·rw[if_pos c];exact Gv f hR hP k0 hs hn h1 ho c
 rw[if_neg c]
 by_cases c:nv bs i%12=6
 ·rw[if_pos c];exact Gy f hR hP k0 hs hn h1 hi c
 rw[if_neg c]
 by_cases c:nv bs i%12=7
 ·rw[if_pos c];exact Gx f hR hP k0 hs hn h1 ho c
 rw[if_neg c]
 by_cases c:nv bs i%12=8
 ·rw[if_pos c];exact Gt f hR hP k0 hs hn h1 c
 rw[if_neg c]
 by_cases c:nv bs i%12=9
 ·rw[if_pos c];exact Gu f hR hP k0 hs hn h1 c
 rw[if_neg c]
 by_cases c:nv bs i%12=10
 ·rw[if_pos c];exact Dg f hR hP k0 hs hn h1 ho c
 rw[if_neg c]
 exact Dh f hR hP k0 hs hn h1 hi xaa
theorem Dy.fresh {u1 u2 u3:Value}(hr:RB W1 w.heap.size gL gL gL)(hP:P<w.heap.size)(k1:Kept P (P+1) w W1)(d:DG W2 W1.heap.size u1 u2 u3 ins vs outs)(rd:RdF W2 P a n cap i bs)(k2:Kept P (P+1) W1 W2):
  Dy w (W2.alloc (.cells #[u1,u2,u3] 26)) P a n cap i bs w.heap.size W2.heap.size u1 u2 u3 ins vs outs:=by
 have ka:=ez 0 0 W2 (.cells #[u1,u2,u3] 26)
 have hb:=oN (S:=λ_=>False) W2 _ #[u1,u2,u3] 26 (Kept.refl 0 0 _).chg (λc=>c)
 have h1:=hr.sz
 have h2:=k2.size
 refine⟨rd.keep0 ka,(d.keep ka).mono xaa,⟨hb.2.2,hb.1 0,hb.1 1,hb.1 2,hb.2.1 0,hb.2.1 1,hb.2.1 2⟩,(hr.kept k2 xaa).keep ka,hP,⟨yad,by omega,by omega⟩,?_,(k1.trans k2).trans (e8 ka)⟩
 rintro b (h|h|h)
 ·have:=eG d.r1 h;omega
 ·have:=eG d.r2 h;omega
 ·have:=eG d.r3 h;omega
theorem DgF.up (hr:RB W1 w.heap.size gL gL gL)(hP:P<w.heap.size)(k1:Kept P (P+1) w W1)(hs:vs.map sv=S)(d:DG W2 W1.heap.size (.slice a1 ins.length c1) (.slice a2 vs.length c2) (.slice a3 outs.length c3) ins vs outs)(rd:RdF W2 P a n cap i bs)(k2:Kept P (P+1) W1 W2):
  RB W2 w.heap.size gL gL gL/\DgF w P a n cap bs ins S outs i (.returned (eR a1 ins.length c1 a2 vs.length c2 a3 outs.length c3)) (fe W2 w.heap.size (.slice a1 ins.length c1) (.slice a2 vs.length c2) (.slice a3 outs.length c3)):=by
 have kk:=fc W2 w.heap.size (.slice a1 ins.length c1) (.slice a2 vs.length c2) (.slice a3 outs.length c3)
 have h1:=hr.sz
 have h2:=k1.size
 have h3:=k2.size
 refine⟨hr.kept k2 xaa,a1,c1,a2,c2,a3,c3,vs,rfl,hs,(d.kept kk xaa).mono xaa,rd.keep kk (.inl xaa),⟨kk.os.trans (k2.os.trans k1.os),kk.tape.trans (k2.tape.trans k1.tape),kk.output.trans (k2.output.trans k1.output),yan h2 (yan h3 kk.size),λb hb hn=>?_⟩⟩
 refine(kk.block b xaa xaa).trans ?_
 exact(k1.trans k2).block b hb hn
theorem wG (bs ins:List Int)(m:Nat):∀f k S p,(gwL bs ins m f k S p).1.length<=S.length+f
 |0,_,S,_=>by rw[gwL];exact yad
 |f+1,k,S,p=>by
  rw[gwL]
  split
  ·have:=wG bs ins m f (k+1) (S++[(gwM ins S bs p).1]) (gwM ins S bs p).2
   rw[yak] at this
   simp at this
   omega
  ·simp only;omega
theorem ui (bs:List Int)(i:Nat):(dgI bs i).1.length<=3/\(dgG bs i).1.length<=28/\(dgO bs i).1.length<=4:=by
 have h1:=nf bs (ni bs i) (nv bs i%4)
 have h2:=wG bs (dgI bs i).1 (2+nv bs (dgI bs i).2.2%24) (2+nv bs (dgI bs i).2.2%24) 0 (dgI bs i).2.1 (ni bs (dgI bs i).2.2)
 have h3:=pR bs (dgG bs i).1.length (ni bs (dgG bs i).2) (nv bs (dgG bs i).2%5)
 have e1:(dgI bs i).1.length=nv bs i%4:=h1.1
 have e2:(dgI bs i).2.1.length=nv bs i%4:=h1.2
 have e3:(dgO bs i).1.length=nv bs (dgG bs i).2%5:=h3
 have e4:(dgG bs i).1.length<=(dgI bs i).2.1.length+(2+nv bs (dgI bs i).2.2%24):=h2
 omega
def ng (bs:List Int)(i:Nat):List Int×List Vl×List Int×Nat:=
 if nv bs i%40=0 then ([],lj 1 (1999+nv bs (ni bs i)%3),[0],ni bs (ni bs i))
 else if nv bs i%40=1 then (if nv bs (ni bs i)%2=1 then ([],lj 1000 50++[⟨1,1,0,0,0,0⟩],[0],ni bs (ni bs i)) else ([],lj 1000 50,[0],ni bs (ni bs i)))
 else if nv bs i%40<8 then ((spM (dgI bs (ni bs i)).1 (dgG bs (ni bs i)).1 (dgO bs (ni bs i)).1 bs (dgO bs (ni bs i)).2).1,(spM (dgI bs (ni bs i)).1 (dgG bs (ni bs i)).1 (dgO bs (ni bs i)).1 bs (dgO bs (ni bs i)).2).2.1,(spM (dgI bs (ni bs i)).1 (dgG bs (ni bs i)).1 (dgO bs (ni bs i)).1 bs (dgO bs (ni bs i)).2).2.2,ni bs (ni bs (dgO bs (ni bs i)).2))
 else ((dgI bs (ni bs i)).1,(dgG bs (ni bs i)).1,(dgO bs (ni bs i)).1,(dgO bs (ni bs i)).2)
abbrev DgT (w:World)(P:Nat)(a:Option Addr)(n cap:Nat)(bs:List Int)(T:List Int×List Vl×List Int×Nat):Ending->World->Prop:=DgF w P a n cap bs T.1 T.2.1 T.2.2.1 T.2.2.2
theorem I9 (hR:RdF w P a n cap i bs):
  Calls prog 20 #[.pointer (some ⟨P,0,none⟩)] w (DgT w P a n cap bs (ng bs i)):=by
 have hx:=fw hR.ys i
 have hx2:=fw hR.ys (ni bs i)
 have hP:=hR.lt
 have ka:=ez 0 0 w eZ
 have HN:Hid _:=iu _ P a n cap i bs (hR.keep0 ka)
 have HA:Hid (∀T,ng bs i=T->∀e w',DgT w P a n cap bs T e w'->DgT w P a n cap bs (ng bs i) e w'):=λT h e w' d=>by rw[h];exact d
 have HK0:Hid _:=ka
 clear hR ka
 go_enter func20,ntmps20
 go_wp2_with fail
 refine yai HN.out ?_
 rintro e W1 ⟨rfl,R1,k1,hs1⟩
 have HR1:Hid _:=R1
 have HK1:Hid (Kept P (P+1) w W1):=(e8 HK0.out).trans k1
 have HB1:Hid (RB W1 w.heap.size gL gL gL):=(fZ w).kept k1 xaa
 clear R1 k1 hs1 HK0 HN
 by_cases c0:nv bs i%40=0
 ·have HE:Hid (ng bs i=([],lj 1 (1999+nv bs (ni bs i)%3),[0],ni bs (ni bs i))):=by show _=_;unfold ng;rw[if_pos c0]
  have c0':(nv bs i:Int)%40=0:=xaa
  have hd:(1999:Int)+(nv bs (ni bs i):Int)%3=((1999+nv bs (ni bs i)%3:Nat):Int):=xaa
  have hd2:1999+nv bs (ni bs i)%3<=3000:=xaa
  clear c0
  go_wp2_with fail
  refine yai (iu _ _ _ _ _ _ _ HR1.out) ?_
  rintro e W2 ⟨rfl,R2,k2,hs2⟩
  have HK2:Hid (Kept P (P+1) w W2):=HK1.out.trans k2
  have HB2:Hid (RB W2 w.heap.size gL gL gL):=HB1.out.kept k2 xaa
  have HW:Hid _:=E0 R2 (1999+nv bs (ni bs i)%3) 1 hd2
  clear R2 k2 hs2
  generalize 1999+nv bs (ni bs i)%3=m at hd HW HE hd2
  go_wp2_with fail
  refine yai HW.out ?_
  rintro e W3 ⟨a1,c1,a2,c2,a3,c3,vs,rfl,hsv,d,rd,k3⟩
  obtain⟨hb,hf⟩:=DgF.up HB2.out hP HK2.out hsv d rd k3
  have HF:Hid _:=hf
  obtain⟨_,r0,r1,r2,rf0,rf1,rf2⟩:=hb
  clear hsv d rd k3 hf
  rw[show([]:List Int).length=0 from rfl,show([0]:List Int).length=1 from rfl] at HF ⊢
  go_wp2_with fail
  obtain⟨p0,p1,p2⟩:=eY W3 w.heap.size _ _ _ r0 r1 r2 (.slice a1 0 c1) (.slice a2 vs.length c2) (.slice a3 1 c3)
  exact yay (v:=eR a1 0 c1 a2 vs.length c2 a3 1 c3) (by simp[results,results20,go_sem,p0,p1,p2]) rfl (HA.out _ HE.out _ _ HF.out)
 by_cases c1:nv bs i%40=1
 ·have c1':(nv bs i:Int)%40=1:=xaa
  have HW:Hid _:=E0 HR1.out 50 1000 xaa
  have HE1:Hid (nv bs (ni bs i)%2=1->ng bs i=([],lj 1000 50++[⟨1,1,0,0,0,0⟩],[0],ni bs (ni bs i))):=λh=>by unfold ng;rw[if_neg c0,if_pos c1,if_pos h]
  have HE2:Hid (¬nv bs (ni bs i)%2=1->ng bs i=([],lj 1000 50,[0],ni bs (ni bs i))):=λh=>by unfold ng;rw[if_neg c0,if_pos c1,if_neg h]
  clear c0 c1
  go_wp2_with fail
  refine yai HW.out ?_
  rintro e W3 ⟨a1,c1,a2,c2,a3,c3,vs,rfl,hsv,d,rd,k3⟩
  have HD:Hid _:=Dy.fresh HB1.out hP HK1.out d rd k3
  have HSV:Hid _:=hsv
  have hvl:vs.length<=100000:=by have h9:=congrArg List.length hsv;rw[List.length_map,nV] at h9;omega
  clear hsv d rd k3
  rw[show([]:List Int).length=0 from rfl,show([0]:List Int).length=1 from rfl] at HD ⊢
  go_wp2_with fail
  generalize W3.alloc (.cells #[.slice a1 0 c1,.slice a2 vs.length c2,.slice a3 1 c3] 26)=W4 at HD ⊢
  generalize W3.heap.size=Q at HD ⊢
  refine yai HD.out.next ?_
  rintro e W5 ⟨rfl,D5⟩
  replace HD:Hid _:=D5
  clear D5
  by_cases h2:nv bs (ni bs i)%2=1
  ·have h2':(nv bs (ni bs i):Int)%2=1:=xaa
   have HF:Hid (∀W6,Kept 0 0 W5 W6->_):=λW6 k6=>HD.out.put k6 (eI 1 1 0 0 0) (Nat.zero_lt_succ _) hvl
   obtain⟨_,z0,z1,z2,f0,f1,f2⟩:=HD.out.bx
   go_upto_region 8 with fail
   go_region_with (first
    |(go_at_call 24;refine yai (HF.out _ ((eC _).trans k5)) ?_;rintro e W9 ⟨g',cap',rfl,hrb,hfin⟩;obtain⟨_,r0,r1,r2,rf0,rf1,rf2⟩:=hrb)
    |(go_at_call 41;refine yai (lY _ _) ?_;rintro e W6 ⟨rfl,k5⟩;obtain⟨_,s0,s1,s2,_,_,_⟩:=(HD.out.keep ((eC _).trans k5)).bx))
   all_goals
    have HD9:Hid _:=hfin
    have HFin:Hid _:=hfin.finS (S':=lj 1000 50++[⟨1,1,0,0,0,0⟩]) (by rw[yak];rfl) (by rw[List.map_append,HSV.out];rfl)
    clear hfin
    go_upto_region 9 with fail
    rw[show((W9.setCell ⟨Q,0,none⟩ (.slice a1 0 c1)).setCell ⟨Q,1,none⟩ (.slice (some ⟨g',0,none⟩) (vs.length+1) cap')).setCell ⟨Q,2,none⟩ (.slice a3 1 c3)=fe W9 Q (.slice a1 0 c1) (.slice (some ⟨g',0,none⟩) (vs.length+1) cap') (.slice a3 1 c3) from rfl]
    generalize fe W9 Q (.slice a1 0 c1) (.slice (some ⟨g',0,none⟩) (vs.length+1) cap') (.slice a3 1 c3)=W10 at HD9 HFin ⊢
    obtain⟨_,t0,t1,t2,_,_,_⟩:=HD9.out.bx
    obtain⟨_,u0,u1,u2,uf0,uf1,uf2⟩:=HD9.out.rs
    go_wp2_with fail
    obtain⟨p0,p1,p2⟩:=eY W10 w.heap.size _ _ _ u0 u1 u2 (.slice a1 0 c1) (.slice (some ⟨g',0,none⟩) (vs.length+1) cap') (.slice a3 1 c3)
    exact yay (v:=eR a1 0 c1 (some ⟨g',0,none⟩) (vs.length+1) cap' a3 1 c3) (by simp[results,results20,go_sem,p0,p1,p2]) rfl (HA.out _ (HE1.out h2) _ _ HFin.out)
  ·have h2':¬(nv bs (ni bs i):Int)%2=1:=xaa
   have HFin:Hid _:=HD.out.fin HSV.out
   obtain⟨_,t0,t1,t2,_,_,_⟩:=HD.out.bx
   obtain⟨_,u0,u1,u2,uf0,uf1,uf2⟩:=HD.out.rs
   go_wp2_with fail
   obtain⟨p0,p1,p2⟩:=eY W5 w.heap.size _ _ _ u0 u1 u2 (.slice a1 0 c1) (.slice a2 vs.length c2) (.slice a3 1 c3)
   exact yay (v:=eR a1 0 c1 a2 vs.length c2 a3 1 c3) (by simp[results,results20,go_sem,p0,p1,p2]) rfl (HA.out _ (HE2.out h2) _ _ HFin.out)
 have c0':¬(nv bs i:Int)%40=0:=xaa
 have c1':¬(nv bs i:Int)%40=1:=xaa
 have HG:Hid _:=AV HR1.out
 have HSm:Hid _:=ui bs (ni bs i)
 have HE1:Hid (nv bs i%40<8->ng bs i=((spM (dgI bs (ni bs i)).1 (dgG bs (ni bs i)).1 (dgO bs (ni bs i)).1 bs (dgO bs (ni bs i)).2).1,(spM (dgI bs (ni bs i)).1 (dgG bs (ni bs i)).1 (dgO bs (ni bs i)).1 bs (dgO bs (ni bs i)).2).2.1,(spM (dgI bs (ni bs i)).1 (dgG bs (ni bs i)).1 (dgO bs (ni bs i)).1 bs (dgO bs (ni bs i)).2).2.2,ni bs (ni bs (dgO bs (ni bs i)).2))):=λh=>by unfold ng;rw[if_neg c0,if_neg c1,if_pos h]
 have HE2:Hid (¬nv bs i%40<8->ng bs i=((dgI bs (ni bs i)).1,(dgG bs (ni bs i)).1,(dgO bs (ni bs i)).1,(dgO bs (ni bs i)).2)):=λh=>by unfold ng;rw[if_neg c0,if_neg c1,if_neg h]
 clear c0 c1
 generalize (dgI bs (ni bs i)).1=X1 at HG HSm HE1 HE2
 generalize (dgG bs (ni bs i)).1=X2 at HG HSm HE1 HE2
 generalize dgO bs (ni bs i)=XO at HG HSm HE1 HE2
 go_wp2_with fail
 refine yai HG.out ?_
 rintro e W3 ⟨a1,c1,a2,c2,a3,c3,vs,rfl,hsv,d,rd,k3⟩
 have HD:Hid _:=Dy.fresh HB1.out hP HK1.out d rd k3
 have HSV:Hid _:=hsv
 have hvl:vs.length<=100000:=by have h9:=congrArg List.length hsv;have:=HSm.out;rw[List.length_map] at h9;omega
 have kb:=ez 0 0 W3 (.cells #[.slice a1 X1.length c1,.slice a2 vs.length c2,.slice a3 XO.1.length c3] 26)
 have HSp:Hid _:=GE (w0:=W1) (d.keep kb) (rd.keep0 kb) (yaj hP HK1.out.size) (k3.trans (e8 kb)) hsv hvl (by have:=HSm.out;omega) (by have:=HSm.out;omega)
 clear hsv d rd k3 kb HG
 by_cases c8:nv bs i%40<8
 ·have c8':(nv bs i:Int)%40<8:=xaa
  obtain⟨_,t0,t1,t2,_,_,_⟩:=HD.out.bx
  generalize hT:spM X1 X2 XO.1 bs XO.2=T at HSp HE1
  clear hT
  go_wp2_with fail
  refine yai HSp.out ?_
  rintro e W6 ⟨b1,d1,b2,d2,b3,d3,us,rfl,hsu,d,rd,k6⟩
  obtain⟨hb,hf⟩:=DgF.up HB1.out hP HK1.out hsu d rd k6
  have HF:Hid _:=hf
  obtain⟨_,r0,r1,r2,rf0,rf1,rf2⟩:=hb
  clear hsu d rd k6 hf t0 t1 t2
  go_wp2_with fail
  obtain⟨p0,p1,p2⟩:=eY W6 w.heap.size _ _ _ r0 r1 r2 (.slice b1 T.1.length d1) (.slice b2 us.length d2) (.slice b3 T.2.2.length d3)
  exact yay (v:=eR b1 T.1.length d1 b2 us.length d2 b3 T.2.2.length d3) (by simp[results,results20,go_sem,p0,p1,p2]) rfl (HA.out _ (HE1.out c8) _ _ HF.out)
 ·have c8':¬(nv bs i:Int)%40<8:=xaa
  have HFin:Hid _:=HD.out.fin HSV.out
  obtain⟨_,t0,t1,t2,_,_,_⟩:=HD.out.bx
  obtain⟨_,u0,u1,u2,uf0,uf1,uf2⟩:=HD.out.rs
  clear HSp
  go_wp2_with fail
  obtain⟨p0,p1,p2⟩:=eY _ w.heap.size _ _ _ u0 u1 u2 (.slice a1 X1.length c1) (.slice a2 vs.length c2) (.slice a3 XO.1.length c3)
  exact yay (v:=eR a1 X1.length c1 a2 vs.length c2 a3 XO.1.length c3) (by simp[results,results20,go_sem,p0,p1,p2]) rfl (HA.out _ (HE2.out c8) _ _ HFin.out)
end
section
open Go.RowKit Flt
def AW (ins:List Int):Prop:=∀k,k<ins.length->1<=ins.getD k 0/\ins.getD k 0<=1000
theorem uj {bs ins:List Int}(hi:AW ins)(m:Nat):∀f k S p,LenS S->LenS (gwL bs ins m f k S p).1
 |0,_,S,_,h=>by rw[gwL];exact h
 |f+1,k,S,p,h=>by
  rw[gwL]
  split
  ·exact uj hi m f (k+1) _ _ (h.snoc (sD hi h))
  ·exact h
theorem AX (bs:List Int)(i:Nat):LenS (dgG bs i).1/\AW (dgI bs i).1:=
 have h:=nU bs (ni bs i) (nv bs i%4)
 ⟨uj h.2 _ _ _ _ _ h.1,h.2⟩
def stM (ins:List Int)(base:Nat)(bs:List Int)(s:List Vl×Nat):List Vl×Nat:=
 let c:=nv bs s.2
 let d:=nv bs (ni bs s.2)
 let j:=ni bs (ni bs s.2)
 let x:=d%s.1.length
 let m:=(vd s.1 x).len
 if c%8=0 then (s.1++[eI 6 m x 0 0],j)
 else if c%8=1 then (s.1++[eI 6 m x 0 0]++[eI 6 m s.1.length 0 0],j)
 else if c%8=2 then (s.1++[vd s.1 x],j)
 else if m=1/\c%8<6 then (s.1++[if c%2=1 then eI ([2,3,4,5,7].getD (c/8%5) 0) 1 x ((base+d/8%6:Nat):Int) 0 else eI ([2,3,4,5,7].getD (c/8%5) 0) 1 ((base+d/8%6:Nat):Int) x 0],j)
 else if c%8=6 then (s.1++[eI 10 2 ((base+d/8%6:Nat):Int) 0 0]++[eI 12 2 ((base+d/4%6:Nat):Int) 0 ((d%2:Nat):Int)],j)
 else (s.1++[(gwM ins s.1 bs j).1],(gwM ins s.1 bs j).2)
def lpM (ins:List Int)(base:Nat)(bs:List Int)(s:List Vl×Nat):Nat->List Vl×Nat
 |0=>s
 |k+1=>if (lpM ins base bs s k).2<bs.length then stM ins base bs (lpM ins base bs s k) else lpM ins base bs s k
def csM (S:List Vl)(k:Nat):List Vl:=S++List.replicate k ⟨1,1,0,0,0,0⟩
def rsL (bs:List Int)(i:Nat):List Vl×Nat:=lpM (dgI bs i).1 (dgG bs i).1.length bs (csM (dgG bs i).1 6,(dgO bs i).2) 14
def rsT (bs:List Int)(i:Nat):List Int×List Vl×List Int×Nat:=((dgI bs i).1,(rsL bs i).1,(dgO bs i).1++[((rsL bs i).1.length:Int)-1]++[((rsL bs i).1.length:Int)-2],(rsL bs i).2)
theorem Di (ins:List Int)(base:Nat)(bs:List Int)(s:List Vl×Nat):(stM ins base bs s).1.length<=s.1.length+2/\s.1.length<=(stM ins base bs s).1.length:=by
 unfold stM
 simp only
 (repeat' split)<;>simp
theorem vx (ins:List Int)(base:Nat)(bs:List Int)(s:List Vl×Nat):∀k,(lpM ins base bs s k).1.length<=s.1.length+2*k/\s.1.length<=(lpM ins base bs s k).1.length
 |0=>⟨yad,yad⟩
 |k+1=>by
  have h:=vx ins base bs s k
  have g:=Di ins base bs (lpM ins base bs s k)
  rw[lpM]
  split<;>omega
theorem Dj (ins:List Int)(base:Nat)(bs:List Int)(s:List Vl×Nat){k:Nat}(hk:k<=14)(h:k=14\/¬(lpM ins base bs s k).2<bs.length):lpM ins base bs s 14=lpM ins base bs s k:=by
 rcases h with rfl|h
 ·rfl
 ·have:∀m,lpM ins base bs s (k+m)=lpM ins base bs s k:=by
   intro m
   induction m with
   |zero=>rfl
   |succ m ih=>rw[<-Nat.add_assoc,lpM,ih,if_neg h]
  have e:=this (14-k)
  rwa [Nat.add_sub_cancel' hk] at e
theorem uk (S:List Vl)(k:Nat):csM S (k+1)=csM S k++[⟨1,1,0,0,0,0⟩]:=by rw[csM,csM,List.replicate_succ',List.append_assoc]
theorem wH {S:List Vl}(h:LenS S):∀k,LenS (csM S k)
 |0=>by rw[csM];simpa using h
 |k+1=>by rw[uk];exact(wH h k).snoc ⟨by decide,by decide⟩
theorem Dk {ins bs:List Int}{base:Nat}{s:List Vl×Nat}(hi:AW ins)(h:LenS s.1)(h0:0<s.1.length):LenS (stM ins base bs s).1:=by
 have hx:=h (nv bs (ni bs s.2)%s.1.length) (Nat.mod_lt _ h0)
 have h1:1<=(1:Int)/\(1:Int)<=1000:=xab
 have h2:1<=(2:Int)/\(2:Int)<=1000:=xab
 unfold stM
 simp only
 (repeat' split)<;>simp only
 ·exact h.snoc (v:=eI 6 _ _ 0 0) hx
 ·exact(h.snoc (v:=eI 6 _ _ 0 0) hx).snoc (v:=eI 6 _ _ 0 0) hx
 ·exact h.snoc hx
 ·exact h.snoc h1
 ·exact h.snoc h1
 ·exact(h.snoc h2).snoc h2
 ·exact h.snoc (sD hi h)
theorem sH {ins bs:List Int}{base:Nat}{s:List Vl×Nat}(hi:AW ins)(h:LenS s.1)(h0:0<s.1.length):∀k,LenS (lpM ins base bs s k).1
 |0=>h
 |k+1=>by
  rw[lpM]
  split
  ·exact Dk hi (sH hi h h0 k) (yaj h0 (vx ins base bs s k).2)
  ·exact sH hi h h0 k
