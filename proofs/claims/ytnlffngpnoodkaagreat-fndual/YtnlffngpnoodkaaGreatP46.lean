import Derived.Test.YtnlffngpnoodkaaGreatP29
import Derived.Test.YtnlffngpnoodkaaGreatP45
import Derived.Test.YtnlffngpnoodkaaGreatP28
namespace Go.Proofs.YtnlffngpnoodkaaGreat
set_option maxRecDepth 1000000
set_option maxHeartbeats 0
section
open Go.RowKit Flt
attribute [local go_sem] ic ib ia
theorem Ep (w:World)(b1 b3:Option Addr)(m1 e1 cap m3 e3 base g2 i:Nat)(vs:List Vl)(ln vb vc:Int)(vk:Nat)(d:Int)(j:Nat)(la:Int)(h:w.ownsRow base 31 6 (.slice (some ⟨g2,0,none⟩) vs.length cap) vs.length (iN vs))(hb:base<=w.heap.size)(hn:vs.length<=800000)(hi:i<vs.length)(hv:At w g2 (i*6) ⟨9,ln,(j:Int),vb,vc,vk⟩)(hj:j<vs.length)(hla:(vs.getD j Vl.zero).len=la):
  Calls Tryz.prog 54 #[ip b1 m1 e1 (some ⟨g2,0,none⟩) vs.length cap b3 m3 e3,.int .i64 (i:Int),.int .i64 0,.int .i64 d] w λe w'=>PtP w b1 m1 e1 b3 m3 e3 vs base (some g2) ([ik 10 la d 0 0],((vs.length:Nat):Int)) true e w':=by
 obtain⟨v0,v1,v2,v3,v4,v5⟩:=hv
 have j0:(0:Int)<=(i:Int):=by omega
 have j1:(i:Int)<(vs.length:Int):=by omega
 have HLA:Hid _:=hla
 clear hla
 have hM:MS w _ b1 m1 e1 b3 m3 e3 vs ⟨9,ln,(j:Int),vb,vc,vk⟩ base (some g2) (some g2) (some ⟨g2,0,none⟩) cap:=MS.start ⟨9,ln,(j:Int),vb,vc,vk⟩ h hb
 have HM:Hid _:=hM
 have hbd:vs.length<=900000:=by omega
 have hg2:g2<w.heap.size:=(ii h (k:=g2) rfl).2
 have HO:Hid _:=h
 clear h hM
 go_enter Tryz.func54,Tryz.ntmps54
 go_wp2_with fail
 generalize ((w.alloc (iv b1 m1 e1 (some ⟨g2,0,none⟩) vs.length cap b3 m3 e3)).alloc iw).alloc (ij 9 ln (j:Int) vb vc vk)=wB at HM ⊢
 clear v0 v1 v2 v3 v4 v5
 refine jg (En HM hbd hj HLA.out ?_)
 intro wc g' cap' _ _ _ _ _ _ _ _ _ _ _ HM1
 clear HM
 generalize hv1:vs++[(ik 10 la d 0 0)]=vs1 at HM1
 have HV1:Hid (vs1=vs++[(ik 10 la d 0 0)]):=hv1.symm
 have HL1:Hid (vs1.length=vs.length+1):=by show _=_;rw[HV1.out];simp
 have hL1:vs1.length<=vs.length+1:=by rw[HL1.out];omega
 have hbd:vs1.length<=900000:=by omega
 clear hv1
 have HM:Hid _:=HM1.out
 clear HM1
 go_wp2_with fail
 refine jg (od HM hbd (show(vs1.length:Int)-1=((vs.length:Nat):Int) by have:=HL1.out;omega) ?_)
 intro W3 _ _ _ y0 y1 y2 HR
 have R1:Hid (PtP w b1 m1 e1 b3 m3 e3 vs base (some g2) ([ik 10 la d 0 0],((vs.length:Nat):Int)) true (.returned (.tuple #[ip b1 m1 e1 (some ⟨g',0,none⟩) vs1.length cap' b3 m3 e3,.int .i64 ((vs.length:Nat):Int),.bool true])) W3):=by
  obtain⟨w3,k3,e3⟩:=HR.out
  rw[e3]
  exact MS.finP (vs0:=vs) (M:=([ik 10 la d 0 0],((vs.length:Nat):Int))) HM.out k3 (by rw[HV1.out]<;>simp) true
 go_wp2_with fail
 refine bodyPost_ret (v:=.tuple #[ip b1 m1 e1 (some ⟨g',0,none⟩) vs1.length cap' b3 m3 e3,.int .i64 ((vs.length:Nat):Int),.bool true]) (by simp[results,Tryz.results54,go_sem,y0,y1,y2]) rfl R1.out
theorem BO (w:World)(b1 b3:Option Addr)(m1 e1 cap m3 e3 base g2 i:Nat)(vs:List Vl)(ln va vb vc:Int)(vk:Nat)(d:Int)(h:w.ownsRow base 31 6 (.slice (some ⟨g2,0,none⟩) vs.length cap) vs.length (iN vs))(hb:base<=w.heap.size)(hn:vs.length<=800000)(hi:i<vs.length)(hv:At w g2 (i*6) ⟨10,ln,va,vb,vc,vk⟩):
  Calls Tryz.prog 54 #[ip b1 m1 e1 (some ⟨g2,0,none⟩) vs.length cap b3 m3 e3,.int .i64 (i:Int),.int .i64 0,.int .i64 d] w λe w'=>PtP w b1 m1 e1 b3 m3 e3 vs base (some g2) ([ik 9 1 d 0 0],((vs.length:Nat):Int)) true e w':=by
 obtain⟨v0,v1,v2,v3,v4,v5⟩:=hv
 have j0:(0:Int)<=(i:Int):=by omega
 have j1:(i:Int)<(vs.length:Int):=by omega
 have hM:MS w _ b1 m1 e1 b3 m3 e3 vs ⟨10,ln,va,vb,vc,vk⟩ base (some g2) (some g2) (some ⟨g2,0,none⟩) cap:=MS.start ⟨10,ln,va,vb,vc,vk⟩ h hb
 have HM:Hid _:=hM
 have hbd:vs.length<=900000:=by omega
 have hg2:g2<w.heap.size:=(ii h (k:=g2) rfl).2
 have HO:Hid _:=h
 clear h hM
 go_enter Tryz.func54,Tryz.ntmps54
 go_wp2_with fail
 generalize ((w.alloc (iv b1 m1 e1 (some ⟨g2,0,none⟩) vs.length cap b3 m3 e3)).alloc iw).alloc (ij 10 ln va vb vc vk)=wB at HM ⊢
 clear v0 v1 v2 v3 v4 v5
 refine jg (C8 HM hbd ?_)
 intro wc g' cap' _ _ _ _ HM1
 clear HM
 generalize hv1:vs++[(ik 9 1 d 0 0)]=vs1 at HM1
 have HV1:Hid (vs1=vs++[(ik 9 1 d 0 0)]):=hv1.symm
 have HL1:Hid (vs1.length=vs.length+1):=by show _=_;rw[HV1.out];simp
 have hL1:vs1.length<=vs.length+1:=by rw[HL1.out];omega
 have hbd:vs1.length<=900000:=by omega
 clear hv1
 have HM:Hid _:=HM1.out
 clear HM1
 go_wp2_with fail
 refine jg (od HM hbd (show(vs1.length:Int)-1=((vs.length:Nat):Int) by have:=HL1.out;omega) ?_)
 intro W3 _ _ _ y0 y1 y2 HR
 have R1:Hid (PtP w b1 m1 e1 b3 m3 e3 vs base (some g2) ([ik 9 1 d 0 0],((vs.length:Nat):Int)) true (.returned (.tuple #[ip b1 m1 e1 (some ⟨g',0,none⟩) vs1.length cap' b3 m3 e3,.int .i64 ((vs.length:Nat):Int),.bool true])) W3):=by
  obtain⟨w3,k3,e3⟩:=HR.out
  rw[e3]
  exact MS.finP (vs0:=vs) (M:=([ik 9 1 d 0 0],((vs.length:Nat):Int))) HM.out k3 (by rw[HV1.out]<;>simp) true
 go_wp2_with fail
 refine bodyPost_ret (v:=.tuple #[ip b1 m1 e1 (some ⟨g',0,none⟩) vs1.length cap' b3 m3 e3,.int .i64 ((vs.length:Nat):Int),.bool true]) (by simp[results,Tryz.results54,go_sem,y0,y1,y2]) rfl R1.out
theorem BP (w:World)(b1 b3:Option Addr)(m1 e1 cap m3 e3 base g2 i:Nat)(vs:List Vl)(ln vb vc:Int)(vk:Nat)(d:Int)(j:Nat)(la:Int)(h:w.ownsRow base 31 6 (.slice (some ⟨g2,0,none⟩) vs.length cap) vs.length (iN vs))(hb:base<=w.heap.size)(hn:vs.length<=800000)(hi:i<vs.length)(hv:At w g2 (i*6) ⟨11,ln,(j:Int),vb,vc,vk⟩)(hj:j<vs.length)(hla:(vs.getD j Vl.zero).len=la):
  Calls Tryz.prog 54 #[ip b1 m1 e1 (some ⟨g2,0,none⟩) vs.length cap b3 m3 e3,.int .i64 (i:Int),.int .i64 0,.int .i64 d] w λe w'=>PtP w b1 m1 e1 b3 m3 e3 vs base (some g2) ([ik 12 la d 0 vc],((vs.length:Nat):Int)) true e w':=by
 obtain⟨v0,v1,v2,v3,v4,v5⟩:=hv
 have j0:(0:Int)<=(i:Int):=by omega
 have j1:(i:Int)<(vs.length:Int):=by omega
 have HLA:Hid _:=hla
 clear hla
 have hM:MS w _ b1 m1 e1 b3 m3 e3 vs ⟨11,ln,(j:Int),vb,vc,vk⟩ base (some g2) (some g2) (some ⟨g2,0,none⟩) cap:=MS.start ⟨11,ln,(j:Int),vb,vc,vk⟩ h hb
 have HM:Hid _:=hM
 have hbd:vs.length<=900000:=by omega
 have hg2:g2<w.heap.size:=(ii h (k:=g2) rfl).2
 have HO:Hid _:=h
 clear h hM
 go_enter Tryz.func54,Tryz.ntmps54
 go_wp2_with fail
 generalize ((w.alloc (iv b1 m1 e1 (some ⟨g2,0,none⟩) vs.length cap b3 m3 e3)).alloc iw).alloc (ij 11 ln (j:Int) vb vc vk)=wB at HM ⊢
 clear v0 v1 v2 v3 v4 v5
 refine jg (C7 HM hbd hj HLA.out ?_)
 intro wc g' cap' _ _ _ _ _ _ _ _ _ _ _ _ _ HM1
 clear HM
 generalize hv1:vs++[(ik 12 la d 0 vc)]=vs1 at HM1
 have HV1:Hid (vs1=vs++[(ik 12 la d 0 vc)]):=hv1.symm
 have HL1:Hid (vs1.length=vs.length+1):=by show _=_;rw[HV1.out];simp
 have hL1:vs1.length<=vs.length+1:=by rw[HL1.out];omega
 have hbd:vs1.length<=900000:=by omega
 clear hv1
 have HM:Hid _:=HM1.out
 clear HM1
 go_wp2_with fail
 refine jg (od HM hbd (show(vs1.length:Int)-1=((vs.length:Nat):Int) by have:=HL1.out;omega) ?_)
 intro W3 _ _ _ y0 y1 y2 HR
 have R1:Hid (PtP w b1 m1 e1 b3 m3 e3 vs base (some g2) ([ik 12 la d 0 vc],((vs.length:Nat):Int)) true (.returned (.tuple #[ip b1 m1 e1 (some ⟨g',0,none⟩) vs1.length cap' b3 m3 e3,.int .i64 ((vs.length:Nat):Int),.bool true])) W3):=by
  obtain⟨w3,k3,e3⟩:=HR.out
  rw[e3]
  exact MS.finP (vs0:=vs) (M:=([ik 12 la d 0 vc],((vs.length:Nat):Int))) HM.out k3 (by rw[HV1.out]<;>simp) true
 go_wp2_with fail
 refine bodyPost_ret (v:=.tuple #[ip b1 m1 e1 (some ⟨g',0,none⟩) vs1.length cap' b3 m3 e3,.int .i64 ((vs.length:Nat):Int),.bool true]) (by simp[results,Tryz.results54,go_sem,y0,y1,y2]) rfl R1.out
end
section
open Go.RowKit Flt
theorem BQ (w:World)(b1 b3:Option Addr)(m1 e1 cap m3 e3 base g2 i:Nat)(vs:List Vl)(v:Vl)(la:Int)(k:Nat)(d:Int)(h:w.ownsRow base 31 6 (.slice (some ⟨g2,0,none⟩) vs.length cap) vs.length (iN vs))(hb:base<=w.heap.size)(hn:vs.length<=800000)(hi:i<vs.length)(hv:At w g2 (i*6) v)
  (hop:0<=v.op/\v.op<=13) (hk:k<cnt v.op) (hla:(v.op=9\/v.op=11)->∃j:Nat,v.a=(j:Int)/\j<vs.length/\(vs.getD j Vl.zero).len=la) (hw:whO v.op):
  Calls Tryz.prog 54 #[ip b1 m1 e1 (some ⟨g2,0,none⟩) vs.length cap b3 m3 e3,.int .i64 (i:Int),.int .i64 (k:Int),.int .i64 d] w λe w'=>PtP w b1 m1 e1 b3 m3 e3 vs base (some g2) (ptM (i:Int) v la k d vs.length) (ku v k) e w':=by
 obtain⟨o,ln,va,vb,vc,vk⟩:=v
 simp only at hop hk hla hw
 unfold whO at hw
 have hc:o=2\/o=3\/o=4\/o=6\/o=9\/o=10\/o=11\/o=12:=by
  by_cases c0:o=0
  ·subst c0;rw[show cnt 0=0 from rfl] at hk;omega
  by_cases c1:o=1
  ·subst c1;rw[show cnt 1=0 from rfl] at hk;omega
  omega
 rcases hc with rfl|rfl|rfl|rfl|rfl|rfl|rfl|rfl
 ·have e:ptM (i:Int) ⟨2,ln,va,vb,vc,vk⟩ la k d vs.length=([],d):=by simp[ptM,iW,ku]
  rw[e,show ku ⟨2,ln,va,vb,vc,vk⟩ k=true by simp[ku]]
  exact C9 w b1 b3 m1 e1 cap m3 e3 base g2 i vs ln va vb vc vk d k h hb hn hi hv
 ·rcases (by have:cnt 3=2:=rfl;omega:k=0\/k=1) with rfl|rfl
  ·exact AM w b1 b3 m1 e1 cap m3 e3 base g2 i vs ln va vb vc vk d h hb hn hi hv
  ·exact AN w b1 b3 m1 e1 cap m3 e3 base g2 i vs ln va vb vc vk d h hb hn hi hv
 ·have e:ptM (i:Int) ⟨4,ln,va,vb,vc,vk⟩ la k d vs.length=([ik 4 ln d (fld ⟨4,ln,va,vb,vc,vk⟩ (1-k)) 0],((vs.length:Nat):Int)):=by
   rcases (by have:cnt 4=2:=rfl;omega:k=0\/k=1) with rfl|rfl<;>rfl
  rw[e,show ku ⟨4,ln,va,vb,vc,vk⟩ k=true by simp[ku]]
  exact Db w b1 b3 m1 e1 cap m3 e3 base g2 i vs ln va vb vc vk d k _ h hb hn hi hv hk rfl
 ·obtain rfl:k=0:=by have:cnt 6=1:=rfl;omega
  exact Da w b1 b3 m1 e1 cap m3 e3 base g2 i vs ln va vb vc vk d h hb hn hi hv
 ·obtain rfl:k=0:=by have:cnt 9=1:=rfl;omega
  obtain⟨j,rfl,hj,hl⟩:=hla (.inl rfl)
  exact Ep w b1 b3 m1 e1 cap m3 e3 base g2 i vs ln vb vc vk d j la h hb hn hi hv hj hl
 ·obtain rfl:k=0:=by have:cnt 10=1:=rfl;omega
  exact BO w b1 b3 m1 e1 cap m3 e3 base g2 i vs ln va vb vc vk d h hb hn hi hv
 ·obtain rfl:k=0:=by have:cnt 11=1:=rfl;omega
  obtain⟨j,rfl,hj,hl⟩:=hla (.inr rfl)
  exact BP w b1 b3 m1 e1 cap m3 e3 base g2 i vs ln vb vc vk d j la h hb hn hi hv hj hl
 ·obtain rfl:k=0:=by have:cnt 12=1:=rfl;omega
  exact De w b1 b3 m1 e1 cap m3 e3 base g2 i vs ln va vb vc vk d h hb hn hi hv
end
end Go.Proofs.YtnlffngpnoodkaaGreat
