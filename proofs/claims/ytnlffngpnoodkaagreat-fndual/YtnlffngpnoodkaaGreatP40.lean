import Derived.Test.YtnlffngpnoodkaaGreatP39
namespace Go.Proofs.YtnlffngpnoodkaaGreat
set_option maxRecDepth 1000000
set_option maxHeartbeats 0
open Go.RowKit Flt
attribute [local go_sem] ic ib ia
variable {w0 w:World} {P n cap i c1 c2 c3:Nat} {a a1 a2 a3:Option Addr} {bs ins outs:List Int} {vs S:List Vl}
theorem jO {j:Nat}(h:j<vs.length):vs.getD j Vl.zero∈vs:=by
 rw[List.getD_eq_getElem?_getD,List.getElem?_eq_getElem h]
 exact List.getElem_mem h
theorem svd (vs:List Vl)(j:Nat):vd (vs.map sv) j=sv (vd vs j):=by
 unfold vd
 rw[List.getD_eq_getElem?_getD,List.getD_eq_getElem?_getD,List.getElem?_map]
 cases vs[j]?<;>rfl
theorem Dy.finS {W:World}{R Q:Nat}{n1 l n3:Nat}{S':List Vl}(f:Dy w0 W P a n cap i bs R Q (.slice a1 n1 c1) (.slice a2 l c2) (.slice a3 n3 c3) ins vs outs)(hl:vs.length=l)(hs:vs.map sv=S'):
  DgF w0 P a n cap bs ins S' outs i (.returned (ip a1 n1 c1 a2 l c2 a3 n3 c3)) (iM W R (.slice a1 n1 c1) (.slice a2 l c2) (.slice a3 n3 c3)):=by
 subst hl
 exact f.fin hs
theorem DN (f:DG w w0.heap.size (.slice a1 ins.length c1) (.slice a2 vs.length c2) (.slice a3 outs.length c3) ins vs outs)(hR:RdF w P a n cap i bs)(hP:P<w0.heap.size)(k0:Kept P (P+1) w0 w)(hs:vs.map sv=S)(hn:vs.length<=100000)(h1:0<S.length)(hk:nv bs i%12=0):
  Calls Tryz.prog 71 #[ip a1 ins.length c1 a2 vs.length c2 a3 outs.length c3,.pointer (some ⟨P,0,none⟩)] w (DgF w0 P a n cap bs ins (S.set (nv bs (ni bs i)%S.length) ({vd S (nv bs (ni bs i)%S.length) with a:=(((nv bs (ni bs i)%S.length):Nat):Int)})) outs (ni bs (ni bs i))):=by
 have HD0:Hid _:=Dy.box f hR hP k0
 have hx1:=iK hR.ys i
 have hx2:=iK hR.ys (ni bs i)
 have HSL:Hid (S.length=vs.length):=by show _=_;rw[<-hs,List.length_map]
 have HSV:Hid _:=hs
 have HKx:Hid _:=hk
 clear f hR k0 hs hk
 go_enter Tryz.func71,Tryz.ntmps71
 go_wp2_with fail
 generalize (w.alloc (.cells #[.slice a1 ins.length c1,.slice a2 vs.length c2,.slice a3 outs.length c3] 26)).alloc iw=W0 at HD0 ⊢
 refine Calls.mono HD0.out.next ?_
 rintro e W1 ⟨rfl,D1⟩
 have HD1:Hid _:=D1
 clear D1 HD0
 go_wp2_with fail
 refine Calls.mono HD1.out.next ?_
 rintro e W2 ⟨rfl,D2⟩
 have HD:Hid _:=D2
 clear D2 HD1
 have h0:0<vs.length:=by have:=HSL.out;omega
 have hjm:nv bs (ni bs i)%vs.length<vs.length:=Nat.mod_lt _ h0
 have hj1:(nv bs (ni bs i):Int).tmod (vs.length:Int)=((nv bs (ni bs i)%vs.length:Nat):Int):=rfl
 have hj2:(nv bs (ni bs i):Int)%(vs.length:Int)=((nv bs (ni bs i)%vs.length:Nat):Int):=by rw[Int.natCast_emod]
 have HJE:Hid (nv bs (ni bs i)%vs.length=nv bs (ni bs i)%S.length):=by show _=_;rw[HSL.out]
 generalize nv bs (ni bs i)%vs.length=j at hjm hj1 hj2 HJE
 have hne:¬vs=[]:=λe=>by rw[e] at h0;exact Nat.lt_irrefl _ h0
 obtain⟨g,cp,eu,_,hg2,hat⟩:=iY HD.out.dg.r2 rfl hjm
 cases eu
 obtain⟨y0,y1,y2,y3,y4,y5⟩:=hat
 have hfz:∀o,W2.frozen? ⟨g,o,none⟩=false:=λo=>HD.out.dg.r2.frozenAt o
 have hkk:(vd vs j).k<18446744073709551616:=HD.out.dg.k _ (jO hjm)
 have HK:Hid _:=hkk
 clear hkk
 obtain⟨_,q0,q1,q2,_,_,_⟩:=HD.out.bx
 have hk':(nv bs i:Int)%12=0:=by have:=HKx.out;omega
 clear HKx
 have HD4:Hid _:=HD.out.setV (q:=2) (x:=.int .i64 (j:Int)) (v':=⟨(vd vs j).op,(vd vs j).len,(j:Int),(vd vs j).b,(vd vs j).c,(vd vs j).k⟩) hjm (by decide) rfl HK.out
 have HFin:Hid _:=HD4.out.finS (S':=S.set (nv bs (ni bs i)%S.length) ({vd S (nv bs (ni bs i)%S.length) with a:=(((nv bs (ni bs i)%S.length):Nat):Int)})) (List.length_set ..) (by rw[List.map_set,HSV.out,<-HJE.out];exact congrArg (S.set j) (by rw[<-HSV.out,svd];rfl))
 have hz:=hfz (j*6+2)
 go_upto_region 31 with fail
 obtain⟨_,t0,t1,t2,_,_,_⟩:=HD4.out.bx
 obtain⟨_,r0,r1,r2,rf0,rf1,rf2⟩:=HD4.out.rs
 go_wp2_with fail
 obtain⟨p0,p1,p2⟩:=iy _ (w.heap.size+1) _ _ _ r0 r1 r2 (.slice a1 ins.length c1) (.slice (some ⟨g,0,none⟩) vs.length c2) (.slice a3 outs.length c3)
 exact bodyPost_ret (v:=ip a1 ins.length c1 (some ⟨g,0,none⟩) vs.length c2 a3 outs.length c3) (by simp[results,Tryz.results71,go_sem,p0,p1,p2]) rfl HFin.out
theorem DO (f:DG w w0.heap.size (.slice a1 ins.length c1) (.slice a2 vs.length c2) (.slice a3 outs.length c3) ins vs outs)(hR:RdF w P a n cap i bs)(hP:P<w0.heap.size)(k0:Kept P (P+1) w0 w)(hs:vs.map sv=S)(hn:vs.length<=100000)(h1:0<S.length)(hk:nv bs i%12=4):
  Calls Tryz.prog 71 #[ip a1 ins.length c1 a2 vs.length c2 a3 outs.length c3,.pointer (some ⟨P,0,none⟩)] w (DgF w0 P a n cap bs ins (S.set (nv bs (ni bs i)%S.length) ({vd S (nv bs (ni bs i)%S.length) with op:=(nv bs (ni bs i):Int)%17})) outs (ni bs (ni bs i))):=by
 have HD0:Hid _:=Dy.box f hR hP k0
 have hx1:=iK hR.ys i
 have hx2:=iK hR.ys (ni bs i)
 have HSL:Hid (S.length=vs.length):=by show _=_;rw[<-hs,List.length_map]
 have HSV:Hid _:=hs
 have HKx:Hid _:=hk
 clear f hR k0 hs hk
 go_enter Tryz.func71,Tryz.ntmps71
 go_wp2_with fail
 generalize (w.alloc (.cells #[.slice a1 ins.length c1,.slice a2 vs.length c2,.slice a3 outs.length c3] 26)).alloc iw=W0 at HD0 ⊢
 refine Calls.mono HD0.out.next ?_
 rintro e W1 ⟨rfl,D1⟩
 have HD1:Hid _:=D1
 clear D1 HD0
 go_wp2_with fail
 refine Calls.mono HD1.out.next ?_
 rintro e W2 ⟨rfl,D2⟩
 have HD:Hid _:=D2
 clear D2 HD1
 have h0:0<vs.length:=by have:=HSL.out;omega
 have hjm:nv bs (ni bs i)%vs.length<vs.length:=Nat.mod_lt _ h0
 have hj1:(nv bs (ni bs i):Int).tmod (vs.length:Int)=((nv bs (ni bs i)%vs.length:Nat):Int):=rfl
 have hj2:(nv bs (ni bs i):Int)%(vs.length:Int)=((nv bs (ni bs i)%vs.length:Nat):Int):=by rw[Int.natCast_emod]
 have HJE:Hid (nv bs (ni bs i)%vs.length=nv bs (ni bs i)%S.length):=by show _=_;rw[HSL.out]
 generalize nv bs (ni bs i)%vs.length=j at hjm hj1 hj2 HJE
 have hne:¬vs=[]:=λe=>by rw[e] at h0;exact Nat.lt_irrefl _ h0
 obtain⟨g,cp,eu,_,hg2,hat⟩:=iY HD.out.dg.r2 rfl hjm
 cases eu
 obtain⟨y0,y1,y2,y3,y4,y5⟩:=hat
 have hfz:∀o,W2.frozen? ⟨g,o,none⟩=false:=λo=>HD.out.dg.r2.frozenAt o
 have hkk:(vd vs j).k<18446744073709551616:=HD.out.dg.k _ (jO hjm)
 have HK:Hid _:=hkk
 clear hkk
 obtain⟨_,q0,q1,q2,_,_,_⟩:=HD.out.bx
 have hk':(nv bs i:Int)%12=4:=by have:=HKx.out;omega
 clear HKx
 have HD4:Hid _:=HD.out.setV (q:=0) (x:=.int .i64 ((nv bs (ni bs i):Int)%17)) (v':=⟨(nv bs (ni bs i):Int)%17,(vd vs j).len,(vd vs j).a,(vd vs j).b,(vd vs j).c,(vd vs j).k⟩) hjm (by decide) rfl HK.out
 have HFin:Hid _:=HD4.out.finS (S':=S.set (nv bs (ni bs i)%S.length) ({vd S (nv bs (ni bs i)%S.length) with op:=(nv bs (ni bs i):Int)%17})) (List.length_set ..) (by rw[List.map_set,HSV.out,<-HJE.out];exact congrArg (S.set j) (by rw[<-HSV.out,svd];rfl))
 have hz:=hfz (j*6+0)
 rw[Nat.add_zero] at HD4 HFin hz
 go_upto_region 31 with fail
 obtain⟨_,t0,t1,t2,_,_,_⟩:=HD4.out.bx
 obtain⟨_,r0,r1,r2,rf0,rf1,rf2⟩:=HD4.out.rs
 go_wp2_with fail
 obtain⟨p0,p1,p2⟩:=iy _ (w.heap.size+1) _ _ _ r0 r1 r2 (.slice a1 ins.length c1) (.slice (some ⟨g,0,none⟩) vs.length c2) (.slice a3 outs.length c3)
 exact bodyPost_ret (v:=ip a1 ins.length c1 (some ⟨g,0,none⟩) vs.length c2 a3 outs.length c3) (by simp[results,Tryz.results71,go_sem,p0,p1,p2]) rfl HFin.out
theorem DR (f:DG w w0.heap.size (.slice a1 ins.length c1) (.slice a2 vs.length c2) (.slice a3 outs.length c3) ins vs outs)(hR:RdF w P a n cap i bs)(hP:P<w0.heap.size)(k0:Kept P (P+1) w0 w)(hs:vs.map sv=S)(hn:vs.length<=100000)(h1:0<S.length)(hk:nv bs i%12=8):
  Calls Tryz.prog 71 #[ip a1 ins.length c1 a2 vs.length c2 a3 outs.length c3,.pointer (some ⟨P,0,none⟩)] w (DgF w0 P a n cap bs ins (S.set (nv bs (ni bs i)%S.length) (vd S (nv bs (ni bs i)%S.length))) outs (ni bs (ni bs i))):=by
 have HD0:Hid _:=Dy.box f hR hP k0
 have hx1:=iK hR.ys i
 have hx2:=iK hR.ys (ni bs i)
 have HSL:Hid (S.length=vs.length):=by show _=_;rw[<-hs,List.length_map]
 have HSV:Hid _:=hs
 have HKx:Hid _:=hk
 clear f hR k0 hs hk
 go_enter Tryz.func71,Tryz.ntmps71
 go_wp2_with fail
 generalize (w.alloc (.cells #[.slice a1 ins.length c1,.slice a2 vs.length c2,.slice a3 outs.length c3] 26)).alloc iw=W0 at HD0 ⊢
 refine Calls.mono HD0.out.next ?_
 rintro e W1 ⟨rfl,D1⟩
 have HD1:Hid _:=D1
 clear D1 HD0
 go_wp2_with fail
 refine Calls.mono HD1.out.next ?_
 rintro e W2 ⟨rfl,D2⟩
 have HD:Hid _:=D2
 clear D2 HD1
 have h0:0<vs.length:=by have:=HSL.out;omega
 have hjm:nv bs (ni bs i)%vs.length<vs.length:=Nat.mod_lt _ h0
 have hj1:(nv bs (ni bs i):Int).tmod (vs.length:Int)=((nv bs (ni bs i)%vs.length:Nat):Int):=rfl
 have hj2:(nv bs (ni bs i):Int)%(vs.length:Int)=((nv bs (ni bs i)%vs.length:Nat):Int):=by rw[Int.natCast_emod]
 have HJE:Hid (nv bs (ni bs i)%vs.length=nv bs (ni bs i)%S.length):=by show _=_;rw[HSL.out]
 generalize nv bs (ni bs i)%vs.length=j at hjm hj1 hj2 HJE
 have hne:¬vs=[]:=λe=>by rw[e] at h0;exact Nat.lt_irrefl _ h0
 obtain⟨g,cp,eu,_,hg2,hat⟩:=iY HD.out.dg.r2 rfl hjm
 cases eu
 obtain⟨y0,y1,y2,y3,y4,y5⟩:=hat
 have hfz:∀o,W2.frozen? ⟨g,o,none⟩=false:=λo=>HD.out.dg.r2.frozenAt o
 have hkk:(vd vs j).k<18446744073709551616:=HD.out.dg.k _ (jO hjm)
 have HK:Hid _:=hkk
 clear hkk
 obtain⟨_,q0,q1,q2,_,_,_⟩:=HD.out.bx
 have hk':(nv bs i:Int)%12=8:=by have:=HKx.out;omega
 clear HKx
 have HD4:Hid _:=HD.out.setV (q:=5) (x:=.float .f64 4619567317775286272) (v':=⟨(vd vs j).op,(vd vs j).len,(vd vs j).a,(vd vs j).b,(vd vs j).c,4619567317775286272⟩) hjm (by decide) rfl (show(4619567317775286272:Nat)<18446744073709551616 by decide)
 have HFin:Hid _:=HD4.out.finS (S':=S.set (nv bs (ni bs i)%S.length) (vd S (nv bs (ni bs i)%S.length))) (List.length_set ..) (by rw[List.map_set,HSV.out,<-HJE.out];exact congrArg (S.set j) (by rw[<-HSV.out,svd];rfl))
 have hz:=hfz (j*6+5)
 go_upto_region 31 with fail
 obtain⟨_,t0,t1,t2,_,_,_⟩:=HD4.out.bx
 obtain⟨_,r0,r1,r2,rf0,rf1,rf2⟩:=HD4.out.rs
 go_wp2_with fail
 obtain⟨p0,p1,p2⟩:=iy _ (w.heap.size+1) _ _ _ r0 r1 r2 (.slice a1 ins.length c1) (.slice (some ⟨g,0,none⟩) vs.length c2) (.slice a3 outs.length c3)
 exact bodyPost_ret (v:=ip a1 ins.length c1 (some ⟨g,0,none⟩) vs.length c2 a3 outs.length c3) (by simp[results,Tryz.results71,go_sem,p0,p1,p2]) rfl HFin.out
theorem DS (f:DG w w0.heap.size (.slice a1 ins.length c1) (.slice a2 vs.length c2) (.slice a3 outs.length c3) ins vs outs)(hR:RdF w P a n cap i bs)(hP:P<w0.heap.size)(k0:Kept P (P+1) w0 w)(hs:vs.map sv=S)(hn:vs.length<=100000)(h1:0<S.length)(hk:nv bs i%12=9):
  Calls Tryz.prog 71 #[ip a1 ins.length c1 a2 vs.length c2 a3 outs.length c3,.pointer (some ⟨P,0,none⟩)] w (DgF w0 P a n cap bs ins (S.set (nv bs (ni bs i)%S.length) ({vd S (nv bs (ni bs i)%S.length) with op:=-1})) outs (ni bs (ni bs i))):=by
 have HD0:Hid _:=Dy.box f hR hP k0
 have hx1:=iK hR.ys i
 have hx2:=iK hR.ys (ni bs i)
 have HSL:Hid (S.length=vs.length):=by show _=_;rw[<-hs,List.length_map]
 have HSV:Hid _:=hs
 have HKx:Hid _:=hk
 clear f hR k0 hs hk
 go_enter Tryz.func71,Tryz.ntmps71
 go_wp2_with fail
 generalize (w.alloc (.cells #[.slice a1 ins.length c1,.slice a2 vs.length c2,.slice a3 outs.length c3] 26)).alloc iw=W0 at HD0 ⊢
 refine Calls.mono HD0.out.next ?_
 rintro e W1 ⟨rfl,D1⟩
 have HD1:Hid _:=D1
 clear D1 HD0
 go_wp2_with fail
 refine Calls.mono HD1.out.next ?_
 rintro e W2 ⟨rfl,D2⟩
 have HD:Hid _:=D2
 clear D2 HD1
 have h0:0<vs.length:=by have:=HSL.out;omega
 have hjm:nv bs (ni bs i)%vs.length<vs.length:=Nat.mod_lt _ h0
 have hj1:(nv bs (ni bs i):Int).tmod (vs.length:Int)=((nv bs (ni bs i)%vs.length:Nat):Int):=rfl
 have hj2:(nv bs (ni bs i):Int)%(vs.length:Int)=((nv bs (ni bs i)%vs.length:Nat):Int):=by rw[Int.natCast_emod]
 have HJE:Hid (nv bs (ni bs i)%vs.length=nv bs (ni bs i)%S.length):=by show _=_;rw[HSL.out]
 generalize nv bs (ni bs i)%vs.length=j at hjm hj1 hj2 HJE
 have hne:¬vs=[]:=λe=>by rw[e] at h0;exact Nat.lt_irrefl _ h0
 obtain⟨g,cp,eu,_,hg2,hat⟩:=iY HD.out.dg.r2 rfl hjm
 cases eu
 obtain⟨y0,y1,y2,y3,y4,y5⟩:=hat
 have hfz:∀o,W2.frozen? ⟨g,o,none⟩=false:=λo=>HD.out.dg.r2.frozenAt o
 have hkk:(vd vs j).k<18446744073709551616:=HD.out.dg.k _ (jO hjm)
 have HK:Hid _:=hkk
 clear hkk
 obtain⟨_,q0,q1,q2,_,_,_⟩:=HD.out.bx
 have hk':(nv bs i:Int)%12=9:=by have:=HKx.out;omega
 clear HKx
 have HD4:Hid _:=HD.out.setV (q:=0) (x:=.int .i64 (-1)) (v':=⟨-1,(vd vs j).len,(vd vs j).a,(vd vs j).b,(vd vs j).c,(vd vs j).k⟩) hjm (by decide) rfl HK.out
 have HFin:Hid _:=HD4.out.finS (S':=S.set (nv bs (ni bs i)%S.length) ({vd S (nv bs (ni bs i)%S.length) with op:=-1})) (List.length_set ..) (by rw[List.map_set,HSV.out,<-HJE.out];exact congrArg (S.set j) (by rw[<-HSV.out,svd];rfl))
 have hz:=hfz (j*6+0)
 rw[Nat.add_zero] at HD4 HFin hz
 go_upto_region 31 with fail
 obtain⟨_,t0,t1,t2,_,_,_⟩:=HD4.out.bx
 obtain⟨_,r0,r1,r2,rf0,rf1,rf2⟩:=HD4.out.rs
 go_wp2_with fail
 obtain⟨p0,p1,p2⟩:=iy _ (w.heap.size+1) _ _ _ r0 r1 r2 (.slice a1 ins.length c1) (.slice (some ⟨g,0,none⟩) vs.length c2) (.slice a3 outs.length c3)
 exact bodyPost_ret (v:=ip a1 ins.length c1 (some ⟨g,0,none⟩) vs.length c2 a3 outs.length c3) (by simp[results,Tryz.results71,go_sem,p0,p1,p2]) rfl HFin.out
theorem DT (f:DG w w0.heap.size (.slice a1 ins.length c1) (.slice a2 vs.length c2) (.slice a3 outs.length c3) ins vs outs)(hR:RdF w P a n cap i bs)(hP:P<w0.heap.size)(k0:Kept P (P+1) w0 w)(hs:vs.map sv=S)(hn:vs.length<=100000)(h1:0<S.length)(hk:nv bs i%12=1):
  Calls Tryz.prog 71 #[ip a1 ins.length c1 a2 vs.length c2 a3 outs.length c3,.pointer (some ⟨P,0,none⟩)] w (DgF w0 P a n cap bs ins (S.set (nv bs (ni bs i)%S.length) ({vd S (nv bs (ni bs i)%S.length) with b:=IntKind.i64.wrap ((vd S (nv bs (ni bs i)%S.length)).b-1)})) outs (ni bs (ni bs i))):=by
 have HD0:Hid _:=Dy.box f hR hP k0
 have hx1:=iK hR.ys i
 have hx2:=iK hR.ys (ni bs i)
 have HSL:Hid (S.length=vs.length):=by show _=_;rw[<-hs,List.length_map]
 have HSV:Hid _:=hs
 have HKx:Hid _:=hk
 clear f hR k0 hs hk
 go_enter Tryz.func71,Tryz.ntmps71
 go_wp2_with fail
 generalize (w.alloc (.cells #[.slice a1 ins.length c1,.slice a2 vs.length c2,.slice a3 outs.length c3] 26)).alloc iw=W0 at HD0 ⊢
 refine Calls.mono HD0.out.next ?_
 rintro e W1 ⟨rfl,D1⟩
 have HD1:Hid _:=D1
 clear D1 HD0
 go_wp2_with fail
 refine Calls.mono HD1.out.next ?_
 rintro e W2 ⟨rfl,D2⟩
 have HD:Hid _:=D2
 clear D2 HD1
 have h0:0<vs.length:=by have:=HSL.out;omega
 have hjm:nv bs (ni bs i)%vs.length<vs.length:=Nat.mod_lt _ h0
 have hj1:(nv bs (ni bs i):Int).tmod (vs.length:Int)=((nv bs (ni bs i)%vs.length:Nat):Int):=rfl
 have hj2:(nv bs (ni bs i):Int)%(vs.length:Int)=((nv bs (ni bs i)%vs.length:Nat):Int):=by rw[Int.natCast_emod]
 have HJE:Hid (nv bs (ni bs i)%vs.length=nv bs (ni bs i)%S.length):=by show _=_;rw[HSL.out]
 generalize nv bs (ni bs i)%vs.length=j at hjm hj1 hj2 HJE
 have hne:¬vs=[]:=λe=>by rw[e] at h0;exact Nat.lt_irrefl _ h0
 obtain⟨g,cp,eu,_,hg2,hat⟩:=iY HD.out.dg.r2 rfl hjm
 cases eu
 obtain⟨y0,y1,y2,y3,y4,y5⟩:=hat
 have hfz:∀o,W2.frozen? ⟨g,o,none⟩=false:=λo=>HD.out.dg.r2.frozenAt o
 have hkk:(vd vs j).k<18446744073709551616:=HD.out.dg.k _ (jO hjm)
 have HK:Hid _:=hkk
 clear hkk
 obtain⟨_,q0,q1,q2,_,_,_⟩:=HD.out.bx
 have hk':(nv bs i:Int)%12=1:=by have:=HKx.out;omega
 clear HKx
 obtain⟨z,hZ⟩:∃z,(vd vs j).b=z:=⟨_,rfl⟩
 rw[show(vs.getD j Vl.zero).b=z from hZ] at y3
 have HZ:Hid _:=hZ
 clear hZ
 have HD4:Hid _:=HD.out.setV (q:=3) (x:=.int .i64 (IntKind.i64.wrap (z-1))) (v':=⟨(vd vs j).op,(vd vs j).len,(vd vs j).a,IntKind.i64.wrap (z-1),(vd vs j).c,(vd vs j).k⟩) hjm (by decide) (by rw[<-HZ.out];rfl) HK.out
 replace HD4:Hid _:=HD4.out.keep (ie _)
 have HFin:Hid _:=HD4.out.finS (S':=S.set (nv bs (ni bs i)%S.length) ({vd S (nv bs (ni bs i)%S.length) with b:=IntKind.i64.wrap ((vd S (nv bs (ni bs i)%S.length)).b-1)})) (List.length_set ..) (by rw[List.map_set,HSV.out,<-HJE.out];exact congrArg (S.set j) (by rw[<-HSV.out,svd,<-HZ.out];rfl))
 have hz:=hfz (j*6+3)
 go_upto_region 9 with fail
 go_region_law (fail)
 all_goals
  generalize (W2.setCell ⟨g,j*6+3,none⟩ (.int .i64 (IntKind.i64.wrap (z-1)))).drew=W4 at HD4 HFin ⊢
  obtain⟨_,t0,t1,t2,_,_,_⟩:=HD4.out.bx
  obtain⟨_,r0,r1,r2,rf0,rf1,rf2⟩:=HD4.out.rs
  go_wp2_with fail
  obtain⟨p0,p1,p2⟩:=iy _ (w.heap.size+1) _ _ _ r0 r1 r2 (.slice a1 ins.length c1) (.slice (some ⟨g,0,none⟩) vs.length c2) (.slice a3 outs.length c3)
  exact bodyPost_ret (v:=ip a1 ins.length c1 (some ⟨g,0,none⟩) vs.length c2 a3 outs.length c3) (by simp[results,Tryz.results71,go_sem,p0,p1,p2]) rfl HFin.out
theorem DU (f:DG w w0.heap.size (.slice a1 ins.length c1) (.slice a2 vs.length c2) (.slice a3 outs.length c3) ins vs outs)(hR:RdF w P a n cap i bs)(hP:P<w0.heap.size)(k0:Kept P (P+1) w0 w)(hs:vs.map sv=S)(hn:vs.length<=100000)(h1:0<S.length)(hk:nv bs i%12=2):
  Calls Tryz.prog 71 #[ip a1 ins.length c1 a2 vs.length c2 a3 outs.length c3,.pointer (some ⟨P,0,none⟩)] w (DgF w0 P a n cap bs ins (S.set (nv bs (ni bs i)%S.length) ({vd S (nv bs (ni bs i)%S.length) with c:=IntKind.i64.wrap ((vd S (nv bs (ni bs i)%S.length)).c+1)})) outs (ni bs (ni bs i))):=by
 have HD0:Hid _:=Dy.box f hR hP k0
 have hx1:=iK hR.ys i
 have hx2:=iK hR.ys (ni bs i)
 have HSL:Hid (S.length=vs.length):=by show _=_;rw[<-hs,List.length_map]
 have HSV:Hid _:=hs
 have HKx:Hid _:=hk
 clear f hR k0 hs hk
 go_enter Tryz.func71,Tryz.ntmps71
 go_wp2_with fail
 generalize (w.alloc (.cells #[.slice a1 ins.length c1,.slice a2 vs.length c2,.slice a3 outs.length c3] 26)).alloc iw=W0 at HD0 ⊢
 refine Calls.mono HD0.out.next ?_
 rintro e W1 ⟨rfl,D1⟩
 have HD1:Hid _:=D1
 clear D1 HD0
 go_wp2_with fail
 refine Calls.mono HD1.out.next ?_
 rintro e W2 ⟨rfl,D2⟩
 have HD:Hid _:=D2
 clear D2 HD1
 have h0:0<vs.length:=by have:=HSL.out;omega
 have hjm:nv bs (ni bs i)%vs.length<vs.length:=Nat.mod_lt _ h0
 have hj1:(nv bs (ni bs i):Int).tmod (vs.length:Int)=((nv bs (ni bs i)%vs.length:Nat):Int):=rfl
 have hj2:(nv bs (ni bs i):Int)%(vs.length:Int)=((nv bs (ni bs i)%vs.length:Nat):Int):=by rw[Int.natCast_emod]
 have HJE:Hid (nv bs (ni bs i)%vs.length=nv bs (ni bs i)%S.length):=by show _=_;rw[HSL.out]
 generalize nv bs (ni bs i)%vs.length=j at hjm hj1 hj2 HJE
 have hne:¬vs=[]:=λe=>by rw[e] at h0;exact Nat.lt_irrefl _ h0
 obtain⟨g,cp,eu,_,hg2,hat⟩:=iY HD.out.dg.r2 rfl hjm
 cases eu
 obtain⟨y0,y1,y2,y3,y4,y5⟩:=hat
 have hfz:∀o,W2.frozen? ⟨g,o,none⟩=false:=λo=>HD.out.dg.r2.frozenAt o
 have hkk:(vd vs j).k<18446744073709551616:=HD.out.dg.k _ (jO hjm)
 have HK:Hid _:=hkk
 clear hkk
 obtain⟨_,q0,q1,q2,_,_,_⟩:=HD.out.bx
 have hk':(nv bs i:Int)%12=2:=by have:=HKx.out;omega
 clear HKx
 obtain⟨z,hZ⟩:∃z,(vd vs j).c=z:=⟨_,rfl⟩
 rw[show(vs.getD j Vl.zero).c=z from hZ] at y4
 have HZ:Hid _:=hZ
 clear hZ
 have HD4:Hid _:=HD.out.setV (q:=4) (x:=.int .i64 (IntKind.i64.wrap (z+1))) (v':=⟨(vd vs j).op,(vd vs j).len,(vd vs j).a,(vd vs j).b,IntKind.i64.wrap (z+1),(vd vs j).k⟩) hjm (by decide) (by rw[<-HZ.out];rfl) HK.out
 replace HD4:Hid _:=HD4.out.keep (ie _)
 have HFin:Hid _:=HD4.out.finS (S':=S.set (nv bs (ni bs i)%S.length) ({vd S (nv bs (ni bs i)%S.length) with c:=IntKind.i64.wrap ((vd S (nv bs (ni bs i)%S.length)).c+1)})) (List.length_set ..) (by rw[List.map_set,HSV.out,<-HJE.out];exact congrArg (S.set j) (by rw[<-HSV.out,svd,<-HZ.out];rfl))
 have hz:=hfz (j*6+4)
 go_upto_region 11 with fail
 go_region_law (fail)
 all_goals
  generalize (W2.setCell ⟨g,j*6+4,none⟩ (.int .i64 (IntKind.i64.wrap (z+1)))).drew=W4 at HD4 HFin ⊢
  obtain⟨_,t0,t1,t2,_,_,_⟩:=HD4.out.bx
  obtain⟨_,r0,r1,r2,rf0,rf1,rf2⟩:=HD4.out.rs
  go_wp2_with fail
  obtain⟨p0,p1,p2⟩:=iy _ (w.heap.size+1) _ _ _ r0 r1 r2 (.slice a1 ins.length c1) (.slice (some ⟨g,0,none⟩) vs.length c2) (.slice a3 outs.length c3)
  exact bodyPost_ret (v:=ip a1 ins.length c1 (some ⟨g,0,none⟩) vs.length c2 a3 outs.length c3) (by simp[results,Tryz.results71,go_sem,p0,p1,p2]) rfl HFin.out
theorem DW (f:DG w w0.heap.size (.slice a1 ins.length c1) (.slice a2 vs.length c2) (.slice a3 outs.length c3) ins vs outs)(hR:RdF w P a n cap i bs)(hP:P<w0.heap.size)(k0:Kept P (P+1) w0 w)(hs:vs.map sv=S)(hn:vs.length<=100000)(h1:0<S.length)(hk:nv bs i%12=3):
  Calls Tryz.prog 71 #[ip a1 ins.length c1 a2 vs.length c2 a3 outs.length c3,.pointer (some ⟨P,0,none⟩)] w (DgF w0 P a n cap bs ins (S.set (nv bs (ni bs i)%S.length) ({vd S (nv bs (ni bs i)%S.length) with len:=IntKind.i64.wrap ((vd S (nv bs (ni bs i)%S.length)).len+1)})) outs (ni bs (ni bs i))):=by
 have HD0:Hid _:=Dy.box f hR hP k0
 have hx1:=iK hR.ys i
 have hx2:=iK hR.ys (ni bs i)
 have HSL:Hid (S.length=vs.length):=by show _=_;rw[<-hs,List.length_map]
 have HSV:Hid _:=hs
 have HKx:Hid _:=hk
 clear f hR k0 hs hk
 go_enter Tryz.func71,Tryz.ntmps71
 go_wp2_with fail
 generalize (w.alloc (.cells #[.slice a1 ins.length c1,.slice a2 vs.length c2,.slice a3 outs.length c3] 26)).alloc iw=W0 at HD0 ⊢
 refine Calls.mono HD0.out.next ?_
 rintro e W1 ⟨rfl,D1⟩
 have HD1:Hid _:=D1
 clear D1 HD0
 go_wp2_with fail
 refine Calls.mono HD1.out.next ?_
 rintro e W2 ⟨rfl,D2⟩
 have HD:Hid _:=D2
 clear D2 HD1
 have h0:0<vs.length:=by have:=HSL.out;omega
 have hjm:nv bs (ni bs i)%vs.length<vs.length:=Nat.mod_lt _ h0
 have hj1:(nv bs (ni bs i):Int).tmod (vs.length:Int)=((nv bs (ni bs i)%vs.length:Nat):Int):=rfl
 have hj2:(nv bs (ni bs i):Int)%(vs.length:Int)=((nv bs (ni bs i)%vs.length:Nat):Int):=by rw[Int.natCast_emod]
 have HJE:Hid (nv bs (ni bs i)%vs.length=nv bs (ni bs i)%S.length):=by show _=_;rw[HSL.out]
 generalize nv bs (ni bs i)%vs.length=j at hjm hj1 hj2 HJE
 have hne:¬vs=[]:=λe=>by rw[e] at h0;exact Nat.lt_irrefl _ h0
 obtain⟨g,cp,eu,_,hg2,hat⟩:=iY HD.out.dg.r2 rfl hjm
 cases eu
 obtain⟨y0,y1,y2,y3,y4,y5⟩:=hat
 have hfz:∀o,W2.frozen? ⟨g,o,none⟩=false:=λo=>HD.out.dg.r2.frozenAt o
 have hkk:(vd vs j).k<18446744073709551616:=HD.out.dg.k _ (jO hjm)
 have HK:Hid _:=hkk
 clear hkk
 obtain⟨_,q0,q1,q2,_,_,_⟩:=HD.out.bx
 have hk':(nv bs i:Int)%12=3:=by have:=HKx.out;omega
 clear HKx
 obtain⟨z,hZ⟩:∃z,(vd vs j).len=z:=⟨_,rfl⟩
 rw[show(vs.getD j Vl.zero).len=z from hZ] at y1
 have HZ:Hid _:=hZ
 clear hZ
 have HD4:Hid _:=HD.out.setV (q:=1) (x:=.int .i64 (IntKind.i64.wrap (z+1))) (v':=⟨(vd vs j).op,IntKind.i64.wrap (z+1),(vd vs j).a,(vd vs j).b,(vd vs j).c,(vd vs j).k⟩) hjm (by decide) (by rw[<-HZ.out];rfl) HK.out
 replace HD4:Hid _:=HD4.out.keep (ie _)
 have HFin:Hid _:=HD4.out.finS (S':=S.set (nv bs (ni bs i)%S.length) ({vd S (nv bs (ni bs i)%S.length) with len:=IntKind.i64.wrap ((vd S (nv bs (ni bs i)%S.length)).len+1)})) (List.length_set ..) (by rw[List.map_set,HSV.out,<-HJE.out];exact congrArg (S.set j) (by rw[<-HSV.out,svd,<-HZ.out];rfl))
 have hz:=hfz (j*6+1)
 go_upto_region 13 with fail
 go_region_law (fail)
 all_goals
  generalize (W2.setCell ⟨g,j*6+1,none⟩ (.int .i64 (IntKind.i64.wrap (z+1)))).drew=W4 at HD4 HFin ⊢
  obtain⟨_,t0,t1,t2,_,_,_⟩:=HD4.out.bx
  obtain⟨_,r0,r1,r2,rf0,rf1,rf2⟩:=HD4.out.rs
  go_wp2_with fail
  obtain⟨p0,p1,p2⟩:=iy _ (w.heap.size+1) _ _ _ r0 r1 r2 (.slice a1 ins.length c1) (.slice (some ⟨g,0,none⟩) vs.length c2) (.slice a3 outs.length c3)
  exact bodyPost_ret (v:=ip a1 ins.length c1 (some ⟨g,0,none⟩) vs.length c2 a3 outs.length c3) (by simp[results,Tryz.results71,go_sem,p0,p1,p2]) rfl HFin.out
theorem DX (f:DG w w0.heap.size (.slice a1 ins.length c1) (.slice a2 vs.length c2) (.slice a3 outs.length c3) ins vs outs)(hR:RdF w P a n cap i bs)(hP:P<w0.heap.size)(k0:Kept P (P+1) w0 w)(hs:vs.map sv=S)(hn:vs.length<=100000)(h1:0<S.length)(hl3:outs.length<=1000)(hk:nv bs i%12=5):
  Calls Tryz.prog 71 #[ip a1 ins.length c1 a2 vs.length c2 a3 outs.length c3,.pointer (some ⟨P,0,none⟩)] w (DgF w0 P a n cap bs ins S (outs++[(S.length:Int)-(nv bs (ni bs i):Int)%2]) (ni bs (ni bs i))):=by
 have HD0:Hid _:=Dy.box f hR hP k0
 have hx1:=iK hR.ys i
 have hx2:=iK hR.ys (ni bs i)
 have HSL:Hid (S.length=vs.length):=by show _=_;rw[<-hs,List.length_map]
 have HSV:Hid _:=hs
 have HKx:Hid _:=hk
 clear f hR k0 hs hk
 go_enter Tryz.func71,Tryz.ntmps71
 go_wp2_with fail
 generalize (w.alloc (.cells #[.slice a1 ins.length c1,.slice a2 vs.length c2,.slice a3 outs.length c3] 26)).alloc iw=W0 at HD0 ⊢
 refine Calls.mono HD0.out.next ?_
 rintro e W1 ⟨rfl,D1⟩
 have HD1:Hid _:=D1
 clear D1 HD0
 go_wp2_with fail
 refine Calls.mono HD1.out.next ?_
 rintro e W2 ⟨rfl,D2⟩
 have HD:Hid _:=D2
 clear D2 HD1
 have h0:0<vs.length:=by have:=HSL.out;omega
 have hjm:nv bs (ni bs i)%vs.length<vs.length:=Nat.mod_lt _ h0
 have hj1:(nv bs (ni bs i):Int).tmod (vs.length:Int)=((nv bs (ni bs i)%vs.length:Nat):Int):=rfl
 have hj2:(nv bs (ni bs i):Int)%(vs.length:Int)=((nv bs (ni bs i)%vs.length:Nat):Int):=by rw[Int.natCast_emod]
 have HJE:Hid (nv bs (ni bs i)%vs.length=nv bs (ni bs i)%S.length):=by show _=_;rw[HSL.out]
 generalize nv bs (ni bs i)%vs.length=j at hjm hj1 hj2 HJE
 have hne:¬vs=[]:=λe=>by rw[e] at h0;exact Nat.lt_irrefl _ h0
 obtain⟨g,cp,eu,_,hg2,hat⟩:=iY HD.out.dg.r2 rfl hjm
 cases eu
 obtain⟨y0,y1,y2,y3,y4,y5⟩:=hat
 have hfz:∀o,W2.frozen? ⟨g,o,none⟩=false:=λo=>HD.out.dg.r2.frozenAt o
 have hkk:(vd vs j).k<18446744073709551616:=HD.out.dg.k _ (jO hjm)
 have HK:Hid _:=hkk
 clear hkk
 obtain⟨_,q0,q1,q2,_,_,_⟩:=HD.out.bx
 have hk':(nv bs i:Int)%12=5:=by have:=HKx.out;omega
 clear HKx
 obtain⟨y,hy⟩:∃y:Int,(vs.length:Int)-(nv bs (ni bs i):Int)%2=y:=⟨_,rfl⟩
 have HY:Hid ((S.length:Int)-(nv bs (ni bs i):Int)%2=y):=by show _=_;rw[HSL.out];exact hy
 have hyb:-10<=y/\y<=100000:=by omega
 have D3:=HD.out.keep (hU 0 0 W2 (.cells #[.int .i64 y] 3))
 have hr3:=D3.dg.r3
 have HD3:Hid _:=D3
 clear D3
 go_upto_region 31 with (first|(at_builtin;refine jd _ rfl _ _ rfl w0.heap.size _ outs rfl hr3 ⟨W2.heap.size,0,none⟩ (y) rfl (by simp) (by omega) HD3.out.dg.sz ?_;intro g9 cap9 n9 w9 hn9 hown9 hc9 hat9;obtain⟨hb9,hd4⟩:=HD3.out.outs_ hc9 hown9 hn9 hat9;have HD4:Hid _:=hd4;have HFin:Hid _:=hd4.finS rfl HSV.out;clear hd4;replace hn9:Hid _:=hn9;obtain⟨_,z0,z1,z2,f0,f1,f2⟩:=hb9))
 obtain⟨_,t0,t1,t2,_,_,_⟩:=HD4.out.bx
 obtain⟨_,r0,r1,r2,rf0,rf1,rf2⟩:=HD4.out.rs
 go_wp2_with fail
 obtain⟨p0,p1,p2⟩:=iy _ (w.heap.size+1) _ _ _ r0 r1 r2 (.slice a1 ins.length c1) (.slice (some ⟨g,0,none⟩) vs.length c2) (.slice (some ⟨g9,0,none⟩) n9 cap9)
 exact bodyPost_ret (v:=ip a1 ins.length c1 (some ⟨g,0,none⟩) vs.length c2 (some ⟨g9,0,none⟩) n9 cap9) (by simp[results,Tryz.results71,go_sem,p0,p1,p2]) rfl (by rw[HY.out];exact HFin.out)
theorem DY (f:DG w w0.heap.size (.slice a1 ins.length c1) (.slice a2 vs.length c2) (.slice a3 outs.length c3) ins vs outs)(hR:RdF w P a n cap i bs)(hP:P<w0.heap.size)(k0:Kept P (P+1) w0 w)(hs:vs.map sv=S)(hn:vs.length<=100000)(h1:0<S.length)(hl3:outs.length<=1000)(hk:nv bs i%12=7):
  Calls Tryz.prog 71 #[ip a1 ins.length c1 a2 vs.length c2 a3 outs.length c3,.pointer (some ⟨P,0,none⟩)] w (DgF w0 P a n cap bs ins S (outs++[-1]) (ni bs (ni bs i))):=by
 have HD0:Hid _:=Dy.box f hR hP k0
 have hx1:=iK hR.ys i
 have hx2:=iK hR.ys (ni bs i)
 have HSL:Hid (S.length=vs.length):=by show _=_;rw[<-hs,List.length_map]
 have HSV:Hid _:=hs
 have HKx:Hid _:=hk
 clear f hR k0 hs hk
 go_enter Tryz.func71,Tryz.ntmps71
 go_wp2_with fail
 generalize (w.alloc (.cells #[.slice a1 ins.length c1,.slice a2 vs.length c2,.slice a3 outs.length c3] 26)).alloc iw=W0 at HD0 ⊢
 refine Calls.mono HD0.out.next ?_
 rintro e W1 ⟨rfl,D1⟩
 have HD1:Hid _:=D1
 clear D1 HD0
 go_wp2_with fail
 refine Calls.mono HD1.out.next ?_
 rintro e W2 ⟨rfl,D2⟩
 have HD:Hid _:=D2
 clear D2 HD1
 have h0:0<vs.length:=by have:=HSL.out;omega
 have hjm:nv bs (ni bs i)%vs.length<vs.length:=Nat.mod_lt _ h0
 have hj1:(nv bs (ni bs i):Int).tmod (vs.length:Int)=((nv bs (ni bs i)%vs.length:Nat):Int):=rfl
 have hj2:(nv bs (ni bs i):Int)%(vs.length:Int)=((nv bs (ni bs i)%vs.length:Nat):Int):=by rw[Int.natCast_emod]
 have HJE:Hid (nv bs (ni bs i)%vs.length=nv bs (ni bs i)%S.length):=by show _=_;rw[HSL.out]
 generalize nv bs (ni bs i)%vs.length=j at hjm hj1 hj2 HJE
 have hne:¬vs=[]:=λe=>by rw[e] at h0;exact Nat.lt_irrefl _ h0
 obtain⟨g,cp,eu,_,hg2,hat⟩:=iY HD.out.dg.r2 rfl hjm
 cases eu
 obtain⟨y0,y1,y2,y3,y4,y5⟩:=hat
 have hfz:∀o,W2.frozen? ⟨g,o,none⟩=false:=λo=>HD.out.dg.r2.frozenAt o
 have hkk:(vd vs j).k<18446744073709551616:=HD.out.dg.k _ (jO hjm)
 have HK:Hid _:=hkk
 clear hkk
 obtain⟨_,q0,q1,q2,_,_,_⟩:=HD.out.bx
 have hk':(nv bs i:Int)%12=7:=by have:=HKx.out;omega
 clear HKx
 have D3:=HD.out.keep (hU 0 0 W2 (.cells #[.int .i64 (-1)] 3))
 have hr3:=D3.dg.r3
 have HD3:Hid _:=D3
 clear D3
 go_upto_region 31 with (first|(at_builtin;refine jd _ rfl _ _ rfl w0.heap.size _ outs rfl hr3 ⟨W2.heap.size,0,none⟩ ((-1)) rfl (by simp) (by omega) HD3.out.dg.sz ?_;intro g9 cap9 n9 w9 hn9 hown9 hc9 hat9;obtain⟨hb9,hd4⟩:=HD3.out.outs_ hc9 hown9 hn9 hat9;have HD4:Hid _:=hd4;have HFin:Hid _:=hd4.finS rfl HSV.out;clear hd4;replace hn9:Hid _:=hn9;obtain⟨_,z0,z1,z2,f0,f1,f2⟩:=hb9))
 obtain⟨_,t0,t1,t2,_,_,_⟩:=HD4.out.bx
 obtain⟨_,r0,r1,r2,rf0,rf1,rf2⟩:=HD4.out.rs
 go_wp2_with fail
 obtain⟨p0,p1,p2⟩:=iy _ (w.heap.size+1) _ _ _ r0 r1 r2 (.slice a1 ins.length c1) (.slice (some ⟨g,0,none⟩) vs.length c2) (.slice (some ⟨g9,0,none⟩) n9 cap9)
 exact bodyPost_ret (v:=ip a1 ins.length c1 (some ⟨g,0,none⟩) vs.length c2 (some ⟨g9,0,none⟩) n9 cap9) (by simp[results,Tryz.results71,go_sem,p0,p1,p2]) rfl HFin.out
theorem DZ (f:DG w w0.heap.size (.slice a1 ins.length c1) (.slice a2 vs.length c2) (.slice a3 outs.length c3) ins vs outs)(hR:RdF w P a n cap i bs)(hP:P<w0.heap.size)(k0:Kept P (P+1) w0 w)(hs:vs.map sv=S)(hn:vs.length<=100000)(h1:0<S.length)(hl3:ins.length<=1000)(hk:nv bs i%12=6):
  Calls Tryz.prog 71 #[ip a1 ins.length c1 a2 vs.length c2 a3 outs.length c3,.pointer (some ⟨P,0,none⟩)] w (DgF w0 P a n cap bs (ins++[(nv bs (ni bs i):Int)%3*500]) S outs (ni bs (ni bs i))):=by
 have HD0:Hid _:=Dy.box f hR hP k0
 have hx1:=iK hR.ys i
 have hx2:=iK hR.ys (ni bs i)
 have HSL:Hid (S.length=vs.length):=by show _=_;rw[<-hs,List.length_map]
 have HSV:Hid _:=hs
 have HKx:Hid _:=hk
 clear f hR k0 hs hk
 go_enter Tryz.func71,Tryz.ntmps71
 go_wp2_with fail
 generalize (w.alloc (.cells #[.slice a1 ins.length c1,.slice a2 vs.length c2,.slice a3 outs.length c3] 26)).alloc iw=W0 at HD0 ⊢
 refine Calls.mono HD0.out.next ?_
 rintro e W1 ⟨rfl,D1⟩
 have HD1:Hid _:=D1
 clear D1 HD0
 go_wp2_with fail
 refine Calls.mono HD1.out.next ?_
 rintro e W2 ⟨rfl,D2⟩
 have HD:Hid _:=D2
 clear D2 HD1
 have h0:0<vs.length:=by have:=HSL.out;omega
 have hjm:nv bs (ni bs i)%vs.length<vs.length:=Nat.mod_lt _ h0
 have hj1:(nv bs (ni bs i):Int).tmod (vs.length:Int)=((nv bs (ni bs i)%vs.length:Nat):Int):=rfl
 have hj2:(nv bs (ni bs i):Int)%(vs.length:Int)=((nv bs (ni bs i)%vs.length:Nat):Int):=by rw[Int.natCast_emod]
 have HJE:Hid (nv bs (ni bs i)%vs.length=nv bs (ni bs i)%S.length):=by show _=_;rw[HSL.out]
 generalize nv bs (ni bs i)%vs.length=j at hjm hj1 hj2 HJE
 have hne:¬vs=[]:=λe=>by rw[e] at h0;exact Nat.lt_irrefl _ h0
 obtain⟨g,cp,eu,_,hg2,hat⟩:=iY HD.out.dg.r2 rfl hjm
 cases eu
 obtain⟨y0,y1,y2,y3,y4,y5⟩:=hat
 have hfz:∀o,W2.frozen? ⟨g,o,none⟩=false:=λo=>HD.out.dg.r2.frozenAt o
 have hkk:(vd vs j).k<18446744073709551616:=HD.out.dg.k _ (jO hjm)
 have HK:Hid _:=hkk
 clear hkk
 obtain⟨_,q0,q1,q2,_,_,_⟩:=HD.out.bx
 have hk':(nv bs i:Int)%12=6:=by have:=HKx.out;omega
 clear HKx
 obtain⟨y,hy⟩:∃y:Int,(nv bs (ni bs i):Int)%3*500=y:=⟨_,rfl⟩
 have HY:Hid _:=hy
 have D3:=HD.out.keep (hU 0 0 W2 (.cells #[.int .i64 y] 3))
 have hr3:=D3.dg.r1
 have HD3:Hid _:=D3
 clear D3
 go_upto_region 31 with (first|(at_builtin;refine jd _ rfl _ _ rfl w0.heap.size _ ins rfl hr3 ⟨W2.heap.size,0,none⟩ (y) rfl (by simp) (by omega) HD3.out.dg.sz ?_;intro g9 cap9 n9 w9 hn9 hown9 hc9 hat9;obtain⟨hb9,hd4⟩:=HD3.out.ins_ hc9 hown9 hn9 hat9;have HD4:Hid _:=hd4;have HFin:Hid _:=hd4.finS rfl HSV.out;clear hd4;replace hn9:Hid _:=hn9;obtain⟨_,z0,z1,z2,f0,f1,f2⟩:=hb9))
 obtain⟨_,t0,t1,t2,_,_,_⟩:=HD4.out.bx
 obtain⟨_,r0,r1,r2,rf0,rf1,rf2⟩:=HD4.out.rs
 go_wp2_with fail
 obtain⟨p0,p1,p2⟩:=iy _ (w.heap.size+1) _ _ _ r0 r1 r2 (.slice (some ⟨g9,0,none⟩) n9 cap9) (.slice (some ⟨g,0,none⟩) vs.length c2) (.slice a3 outs.length c3)
 exact bodyPost_ret (v:=ip (some ⟨g9,0,none⟩) n9 cap9 (some ⟨g,0,none⟩) vs.length c2 a3 outs.length c3) (by simp[results,Tryz.results71,go_sem,p0,p1,p2]) rfl (by rw[HY.out];exact HFin.out)
theorem D0 (f:DG w w0.heap.size (.slice a1 ins.length c1) (.slice a2 vs.length c2) (.slice a3 outs.length c3) ins vs outs)(hR:RdF w P a n cap i bs)(hP:P<w0.heap.size)(k0:Kept P (P+1) w0 w)(hs:vs.map sv=S)(_hn:vs.length<=100000)(hk:S.length=0):
  Calls Tryz.prog 71 #[ip a1 ins.length c1 a2 vs.length c2 a3 outs.length c3,.pointer (some ⟨P,0,none⟩)] w (DgF w0 P a n cap bs ins S outs (ni bs (ni bs i))):=by
 have HD0:Hid _:=Dy.box f hR hP k0
 have hx1:=iK hR.ys i
 have hx2:=iK hR.ys (ni bs i)
 have HSL:Hid (S.length=vs.length):=by show _=_;rw[<-hs,List.length_map]
 have HSV:Hid _:=hs
 have HKx:Hid _:=hk
 clear f hR k0 hs hk
 go_enter Tryz.func71,Tryz.ntmps71
 go_wp2_with fail
 generalize (w.alloc (.cells #[.slice a1 ins.length c1,.slice a2 vs.length c2,.slice a3 outs.length c3] 26)).alloc iw=W0 at HD0 ⊢
 refine Calls.mono HD0.out.next ?_
 rintro e W1 ⟨rfl,D1⟩
 have HD1:Hid _:=D1
 clear D1 HD0
 go_wp2_with fail
 refine Calls.mono HD1.out.next ?_
 rintro e W2 ⟨rfl,D2⟩
 have HD:Hid _:=D2
 clear D2 HD1
 have hz:vs.length=0:=by have:=HKx.out;have:=HSL.out;omega
 have HFin:Hid _:=HD.out.fin HSV.out
 obtain⟨_,q0,q1,q2,_,_,_⟩:=HD.out.bx
 obtain⟨_,r0,r1,r2,rf0,rf1,rf2⟩:=HD.out.rs
 generalize vs.length=l at hz HFin q0 q1 q2
 have hz':(l:Int)<=0:=by omega
 clear hz
 go_wp2_with fail
 obtain⟨p0,p1,p2⟩:=iy _ (w.heap.size+1) _ _ _ r0 r1 r2 (.slice a1 ins.length c1) (.slice a2 l c2) (.slice a3 outs.length c3)
 exact bodyPost_ret (v:=ip a1 ins.length c1 a2 l c2 a3 outs.length c3) (by simp[results,Tryz.results71,go_sem,p0,p1,p2]) rfl HFin.out
theorem Bt (f:DG w w0.heap.size (.slice a1 ins.length c1) (.slice a2 vs.length c2) (.slice a3 outs.length c3) ins vs outs)(hR:RdF w P a n cap i bs)(hP:P<w0.heap.size)(k0:Kept P (P+1) w0 w)(hs:vs.map sv=S)(hn:vs.length<=100000)(h1:0<S.length)(hl3:outs.length<=1000)(hk:nv bs i%12=10):
  Calls Tryz.prog 71 #[ip a1 ins.length c1 a2 vs.length c2 a3 outs.length c3,.pointer (some ⟨P,0,none⟩)] w (DgF w0 P a n cap bs ins S (outs++List.replicate (50+nv bs (ni bs i)%2-outs.length) ((((nv bs (ni bs i)%S.length:Nat)):Int))) (ni bs (ni bs i))):=by
 have HD0:Hid _:=Dy.box f hR hP k0
 have hx1:=iK hR.ys i
 have hx2:=iK hR.ys (ni bs i)
 have HSL:Hid (S.length=vs.length):=by show _=_;rw[<-hs,List.length_map]
 have HSV:Hid _:=hs
 have HKx:Hid _:=hk
 clear f hR k0 hs hk
 go_enter Tryz.func71,Tryz.ntmps71
 go_wp2_with fail
 generalize (w.alloc (.cells #[.slice a1 ins.length c1,.slice a2 vs.length c2,.slice a3 outs.length c3] 26)).alloc iw=W0 at HD0 ⊢
 refine Calls.mono HD0.out.next ?_
 rintro e W1 ⟨rfl,D1⟩
 have HD1:Hid _:=D1
 clear D1 HD0
 go_wp2_with fail
 refine Calls.mono HD1.out.next ?_
 rintro e W2 ⟨rfl,D2⟩
 have HD:Hid _:=D2
 clear D2 HD1
 have h0:0<vs.length:=by have:=HSL.out;omega
 have hjm:nv bs (ni bs i)%vs.length<vs.length:=Nat.mod_lt _ h0
 have hj1:(nv bs (ni bs i):Int).tmod (vs.length:Int)=((nv bs (ni bs i)%vs.length:Nat):Int):=rfl
 have hj2:(nv bs (ni bs i):Int)%(vs.length:Int)=((nv bs (ni bs i)%vs.length:Nat):Int):=by rw[Int.natCast_emod]
 have HJE:Hid (nv bs (ni bs i)%vs.length=nv bs (ni bs i)%S.length):=by show _=_;rw[HSL.out]
 generalize nv bs (ni bs i)%vs.length=j at hjm hj1 hj2 HJE
 have hne:¬vs=[]:=λe=>by rw[e] at h0;exact Nat.lt_irrefl _ h0
 obtain⟨g,cp,eu,_,hg2,hat⟩:=iY HD.out.dg.r2 rfl hjm
 cases eu
 obtain⟨y0,y1,y2,y3,y4,y5⟩:=hat
 have hfz:∀o,W2.frozen? ⟨g,o,none⟩=false:=λo=>HD.out.dg.r2.frozenAt o
 have hkk:(vd vs j).k<18446744073709551616:=HD.out.dg.k _ (jO hjm)
 have HK:Hid _:=hkk
 clear hkk
 obtain⟨_,q0,q1,q2,_,_,_⟩:=HD.out.bx
 have hk':(nv bs i:Int)%12=10:=by have:=HKx.out;omega
 clear HKx
 have hlim:(50:Int)+(nv bs (ni bs i):Int)%2=((50+nv bs (ni bs i)%2:Nat):Int):=by omega
 have hlb:50+nv bs (ni bs i)%2<=60:=by omega
 have HPost:Hid (∀(lm':Nat) e w',lm'=50+nv bs (ni bs i)%2->DgF w0 P a n cap bs ins S (outs++List.replicate (lm'-outs.length) ((j:Int))) (ni bs (ni bs i)) e w'->DgF w0 P a n cap bs ins S (outs++List.replicate (50+nv bs (ni bs i)%2-outs.length) ((((nv bs (ni bs i)%S.length:Nat)):Int))) (ni bs (ni bs i)) e w'):=λlm' e w' he hd=>by rw[<-he];rw[<-HJE.out];exact hd
 generalize hlm:50+nv bs (ni bs i)%2=lm at hlim hlb
 have HLme:Hid (lm=50+nv bs (ni bs i)%2):=hlm.symm
 clear hlm
 have HLI:Hid _:=hlim
 have HE:Hid (Dy w0 W2 P a n cap (ni bs (ni bs i)) bs (w.heap.size+1) w.heap.size (.slice a1 ins.length c1) (.slice (some ⟨g,0,none⟩) vs.length c2) (.slice a3 (outs++List.replicate 0 ((j:Int))).length c3) ins vs (outs++List.replicate 0 ((j:Int)))):=by rw[List.replicate_zero,List.append_nil];exact HD.out
 go_wp2_with fail
 rw[show((vs.length:Int)==0)=false from beq_eq_false_iff_ne.2 (by omega)]
 clear q0 q1 q2 HD y0 y1 y2 y3 y4 y5 hfz
 go_loopg [] lm (λq W=>∃(kk:Nat) (aa:Option Addr) (cc:Nat),kk<=lm-outs.length/\lm-outs.length-kk<=q/\Hid (Dy w0 W P a n cap (ni bs (ni bs i)) bs (w.heap.size+1) w.heap.size (.slice a1 ins.length c1) (.slice (some ⟨g,0,none⟩) vs.length c2) (.slice aa (outs++List.replicate kk ((j:Int))).length cc) ins vs (outs++List.replicate kk ((j:Int)))))
 case atStart=>exact⟨0,a3,c3,Nat.zero_le _,by omega,HE.out⟩
 case round=>
  obtain⟨kk,aa,cc,hkk,hq,hD⟩:=hrel
  clear HE
  have HXL:Hid ((outs++List.replicate kk ((j:Int))).length=outs.length+kk):=by show _=_;rw[List.length_append,List.length_replicate]
  have hD':=hD.out
  have HXs:Hid (∃xs,xs=outs++List.replicate kk ((j:Int))):=⟨_,rfl⟩
  obtain⟨xs,hxs⟩:=HXs.out
  have HX:Hid _:=hxs
  rw[<-hxs] at hD' HXL
  have HD:Hid _:=hD'
  clear hD hD' hxs HXs
  generalize hl:xs.length=l at HD HXL
  have HLl:Hid _:=hl
  have hlk:l=outs.length+kk:=HXL.out
  have hlb2:l<=2000:=by omega
  have HLK:Hid _:=hlk
  clear hl
  have hlim:=HLI.out
  obtain⟨_,q0,q1,q2,_,_,_⟩:=HD.out.bx
  by_cases hlt:l<lm
  ·have D3:=HD.out.keep (hU 0 0 wr (.cells #[.int .i64 ((j:Int))] 3))
   have hr3:=D3.dg.r3
   have HD3:Hid _:=D3
   clear D3 hlk
   go_upto_region 28 with fail
   go_wp2_with (first|(at_builtin;refine jd _ rfl _ _ rfl w0.heap.size _ xs rfl hr3 ⟨wr.heap.size,0,none⟩ ((j:Int)) rfl (by simp) (by have:=HLl.out;omega) HD3.out.dg.sz ?_;intro g9 cap9 n9 w9 hn9 hown9 hc9 hat9;obtain⟨hb9,hd4⟩:=HD3.out.outs_ hc9 hown9 hn9 hat9;have HD4:Hid _:=hd4;clear hd4;replace hn9:Hid _:=hn9;obtain⟨_,z0,z1,z2,f0,f1,f2⟩:=hb9))
   go_roundg (gk-1)
   case measure=>have:=HLK.out;omega
   case rel=>
    have:=HLK.out
    refine⟨kk+1,some ⟨g9,0,none⟩,cap9,by omega,by omega,?_⟩
    have e:outs++List.replicate (kk+1) ((j:Int))=xs++[(j:Int)]:=by rw[HX.out,List.append_assoc,List.replicate_succ']
    have h9:=HD4.out
    rw[hn9.out] at h9 ⊢
    rw[e]
    exact h9
  ·have HF:Hid _:=HD.out.finS rfl HSV.out
   have ek:kk=lm-outs.length:=by omega
   have HXX:Hid (xs=outs++List.replicate (lm-outs.length) ((j:Int))):=by rw[<-ek];exact HX.out
   obtain⟨_,r0,r1,r2,rf0,rf1,rf2⟩:=HD.out.rs
   clear ek hlk
   go_wp2_with fail
   obtain⟨p0,p1,p2⟩:=iy _ (w.heap.size+1) _ _ _ r0 r1 r2 (.slice a1 ins.length c1) (.slice (some ⟨g,0,none⟩) vs.length c2) (.slice aa l cc)
   exact bodyPost_ret (v:=ip a1 ins.length c1 (some ⟨g,0,none⟩) vs.length c2 aa l cc) (by simp[results,Tryz.results71,go_sem,p0,p1,p2]) rfl (HPost.out lm _ _ HLme.out (by rw[<-HXX.out];exact HF.out))
theorem Bu (f:DG w w0.heap.size (.slice a1 ins.length c1) (.slice a2 vs.length c2) (.slice a3 outs.length c3) ins vs outs)(hR:RdF w P a n cap i bs)(hP:P<w0.heap.size)(k0:Kept P (P+1) w0 w)(hs:vs.map sv=S)(hn:vs.length<=100000)(h1:0<S.length)(hl3:ins.length<=1000)(hk:nv bs i%12=11):
  Calls Tryz.prog 71 #[ip a1 ins.length c1 a2 vs.length c2 a3 outs.length c3,.pointer (some ⟨P,0,none⟩)] w (DgF w0 P a n cap bs (ins++List.replicate (20+nv bs (ni bs i)%2-ins.length) (2)) S outs (ni bs (ni bs i))):=by
 have HD0:Hid _:=Dy.box f hR hP k0
 have hx1:=iK hR.ys i
 have hx2:=iK hR.ys (ni bs i)
 have HSL:Hid (S.length=vs.length):=by show _=_;rw[<-hs,List.length_map]
 have HSV:Hid _:=hs
 have HKx:Hid _:=hk
 clear f hR k0 hs hk
 go_enter Tryz.func71,Tryz.ntmps71
 go_wp2_with fail
 generalize (w.alloc (.cells #[.slice a1 ins.length c1,.slice a2 vs.length c2,.slice a3 outs.length c3] 26)).alloc iw=W0 at HD0 ⊢
 refine Calls.mono HD0.out.next ?_
 rintro e W1 ⟨rfl,D1⟩
 have HD1:Hid _:=D1
 clear D1 HD0
 go_wp2_with fail
 refine Calls.mono HD1.out.next ?_
 rintro e W2 ⟨rfl,D2⟩
 have HD:Hid _:=D2
 clear D2 HD1
 have h0:0<vs.length:=by have:=HSL.out;omega
 have hjm:nv bs (ni bs i)%vs.length<vs.length:=Nat.mod_lt _ h0
 have hj1:(nv bs (ni bs i):Int).tmod (vs.length:Int)=((nv bs (ni bs i)%vs.length:Nat):Int):=rfl
 have hj2:(nv bs (ni bs i):Int)%(vs.length:Int)=((nv bs (ni bs i)%vs.length:Nat):Int):=by rw[Int.natCast_emod]
 have HJE:Hid (nv bs (ni bs i)%vs.length=nv bs (ni bs i)%S.length):=by show _=_;rw[HSL.out]
 generalize nv bs (ni bs i)%vs.length=j at hjm hj1 hj2 HJE
 have hne:¬vs=[]:=λe=>by rw[e] at h0;exact Nat.lt_irrefl _ h0
 obtain⟨g,cp,eu,_,hg2,hat⟩:=iY HD.out.dg.r2 rfl hjm
 cases eu
 obtain⟨y0,y1,y2,y3,y4,y5⟩:=hat
 have hfz:∀o,W2.frozen? ⟨g,o,none⟩=false:=λo=>HD.out.dg.r2.frozenAt o
 have hkk:(vd vs j).k<18446744073709551616:=HD.out.dg.k _ (jO hjm)
 have HK:Hid _:=hkk
 clear hkk
 obtain⟨_,q0,q1,q2,_,_,_⟩:=HD.out.bx
 have hk':(nv bs i:Int)%12=11:=by have:=HKx.out;omega
 clear HKx
 have hlim:(20:Int)+(nv bs (ni bs i):Int)%2=((20+nv bs (ni bs i)%2:Nat):Int):=by omega
 have hlb:20+nv bs (ni bs i)%2<=60:=by omega
 have HPost:Hid (∀(lm':Nat) e w',lm'=20+nv bs (ni bs i)%2->DgF w0 P a n cap bs (ins++List.replicate (lm'-ins.length) (2)) S outs (ni bs (ni bs i)) e w'->DgF w0 P a n cap bs (ins++List.replicate (20+nv bs (ni bs i)%2-ins.length) (2)) S outs (ni bs (ni bs i)) e w'):=λlm' e w' he hd=>by rw[<-he];exact hd
 generalize hlm:20+nv bs (ni bs i)%2=lm at hlim hlb
 have HLme:Hid (lm=20+nv bs (ni bs i)%2):=hlm.symm
 clear hlm
 have HLI:Hid _:=hlim
 have HE:Hid (Dy w0 W2 P a n cap (ni bs (ni bs i)) bs (w.heap.size+1) w.heap.size (.slice a1 (ins++List.replicate 0 (2)).length c1) (.slice (some ⟨g,0,none⟩) vs.length c2) (.slice a3 outs.length c3) (ins++List.replicate 0 (2)) vs outs):=by rw[List.replicate_zero,List.append_nil];exact HD.out
 go_wp2_with fail
 rw[show((vs.length:Int)==0)=false from beq_eq_false_iff_ne.2 (by omega)]
 clear q0 q1 q2 HD y0 y1 y2 y3 y4 y5 hfz
 go_loopg [] lm (λq W=>∃(kk:Nat) (aa:Option Addr) (cc:Nat),kk<=lm-ins.length/\lm-ins.length-kk<=q/\Hid (Dy w0 W P a n cap (ni bs (ni bs i)) bs (w.heap.size+1) w.heap.size (.slice aa (ins++List.replicate kk (2)).length cc) (.slice (some ⟨g,0,none⟩) vs.length c2) (.slice a3 outs.length c3) (ins++List.replicate kk (2)) vs outs))
 case atStart=>exact⟨0,a1,c1,Nat.zero_le _,by omega,HE.out⟩
 case round=>
  obtain⟨kk,aa,cc,hkk,hq,hD⟩:=hrel
  clear HE
  have HXL:Hid ((ins++List.replicate kk (2)).length=ins.length+kk):=by show _=_;rw[List.length_append,List.length_replicate]
  have hD':=hD.out
  have HXs:Hid (∃xs,xs=ins++List.replicate kk (2)):=⟨_,rfl⟩
  obtain⟨xs,hxs⟩:=HXs.out
  have HX:Hid _:=hxs
  rw[<-hxs] at hD' HXL
  have HD:Hid _:=hD'
  clear hD hD' hxs HXs
  generalize hl:xs.length=l at HD HXL
  have HLl:Hid _:=hl
  have hlk:l=ins.length+kk:=HXL.out
  have hlb2:l<=2000:=by omega
  have HLK:Hid _:=hlk
  clear hl
  have hlim:=HLI.out
  obtain⟨_,q0,q1,q2,_,_,_⟩:=HD.out.bx
  by_cases hlt:l<lm
  ·have D3:=HD.out.keep (hU 0 0 wr (.cells #[.int .i64 (2)] 3))
   have hr3:=D3.dg.r1
   have HD3:Hid _:=D3
   clear D3 hlk
   go_upto_region 30 with fail
   go_wp2_with (first|(at_builtin;refine jd _ rfl _ _ rfl w0.heap.size _ xs rfl hr3 ⟨wr.heap.size,0,none⟩ (2) rfl (by simp) (by have:=HLl.out;omega) HD3.out.dg.sz ?_;intro g9 cap9 n9 w9 hn9 hown9 hc9 hat9;obtain⟨hb9,hd4⟩:=HD3.out.ins_ hc9 hown9 hn9 hat9;have HD4:Hid _:=hd4;clear hd4;replace hn9:Hid _:=hn9;obtain⟨_,z0,z1,z2,f0,f1,f2⟩:=hb9))
   go_roundg (gk-1)
   case measure=>have:=HLK.out;omega
   case rel=>
    have:=HLK.out
    refine⟨kk+1,some ⟨g9,0,none⟩,cap9,by omega,by omega,?_⟩
    have e:ins++List.replicate (kk+1) (2)=xs++[2]:=by rw[HX.out,List.append_assoc,List.replicate_succ']
    have h9:=HD4.out
    rw[hn9.out] at h9 ⊢
    rw[e]
    exact h9
  ·have HF:Hid _:=HD.out.finS rfl HSV.out
   have ek:kk=lm-ins.length:=by omega
   have HXX:Hid (xs=ins++List.replicate (lm-ins.length) (2)):=by rw[<-ek];exact HX.out
   obtain⟨_,r0,r1,r2,rf0,rf1,rf2⟩:=HD.out.rs
   clear ek hlk
   go_wp2_with fail
   obtain⟨p0,p1,p2⟩:=iy _ (w.heap.size+1) _ _ _ r0 r1 r2 (.slice aa l cc) (.slice (some ⟨g,0,none⟩) vs.length c2) (.slice a3 outs.length c3)
   exact bodyPost_ret (v:=ip aa l cc (some ⟨g,0,none⟩) vs.length c2 a3 outs.length c3) (by simp[results,Tryz.results71,go_sem,p0,p1,p2]) rfl (HPost.out lm _ _ HLme.out (by rw[<-HXX.out];exact HF.out))
end Go.Proofs.YtnlffngpnoodkaaGreat
