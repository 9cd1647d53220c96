import Derived.Test.YtcagphgmfbjneaaGreatP32
namespace Go.Proofs.Z
variable{Zp:Prop}
open Tryz
set_option maxRecDepth 1000000
set_option maxHeartbeats 0
open Go.RowKit Flt
attribute[local go_sem] eE eD eC
theorem cZ.qdx(h:Zp:=by
 rcases b.o with⟨aj,rfl⟩|⟨aj,rfl⟩|⟨aj,rfl⟩|⟨aj,rfl⟩|⟨aj,rfl⟩|⟨aj,rfl⟩|⟨aj,rfl⟩|⟨aj,rfl⟩
 all_goals
  clear b
  first|(have G:(nv bs i:Int)%16=1:=by omega)|(have G:(nv bs i:Int)%16=2:=by omega)|(have G:(nv bs i:Int)%16=3:=by omega)|(have G:(nv bs i:Int)%16=4:=by omega)|(have G:(nv bs i:Int)%16=5:=by omega)|(have G:(nv bs i:Int)%16=6:=by omega)|(have G:(nv bs i:Int)%16=7:=by omega)|(have G:(nv bs i:Int)%16=8:=by omega)
  clear aj
  obtain⟨_,aP,ay,aB,_,_,_⟩:=(au.o.keep (eA 0 0 _ (.cells #[h1 0,h1 2,h1 3,h1 4,h1 5,h1 7,h1 4,h1 2,h1 3] 3))).bx
  go_wp2_with fail
  refine yaj ((au.o.keep (eA 0 0 _ _)).pick ag _) ?_
  rintro e cc ⟨rfl,h,bW⟩
  replace HK:V _:=HK.o.trans ((e8 (eA 0 0 _ _)).trans bW)
  replace au:V _:=h
  clear h bW aP ay aB aJ
  go_wp2_with fail
  obtain⟨_,aP,ay,aB,_,_,_⟩:=au.o.bx
  go_region_with (first|(go_at_call 78;refine yaj (aD.o _ _ _ _ _ _ _ au.o HK.o _ ((eF _).trans aZ)) ?_;rintro e am ⟨aC,cap',rfl,a0,aH⟩;obtain⟨_,bq,aq,aT,bR,bS,bT⟩:=a0)|(go_at_call 79;refine yaj (gG _ _ _ _ _ _) ?_;rintro e aU ⟨rfl,aZ⟩;obtain⟨_,aY,ar,aW,_,_,_⟩:=(au.o.keep ((eF _).trans aZ)).bx))
  all_goals
   go_wp2_with fail
   obtain⟨bl,aS,a9⟩:=fd am (w.heap.size+1) _ _ _ bq aq aT (.slice a1 Z c1) (h0 aC (vs.length+1) cap') (.slice a3 ab c3)
   exact yaz (v:=eX a1 Z c1 (some ⟨aC,0,none⟩) (vs.length+1) cap' a3 ab c3) (by simp[results,results81,go_sem,bl,aS,a9]) rfl aH):Zp:=h
open cZ in
theorem Il{w I P a n cap i bs a1 J a3 Z c1 c2 ab c3 ins vs outs}(f:DG w I (.slice a1 Z c1) (.slice J vs.length c2) (.slice a3 ab c3) ins vs outs)(K:RdF w P a n cap i bs)(hP:P<I)(ag:vs.length<=100000)(ak:0<vs.length){m}(ao:(vd vs (nv bs (ni bs i)%vs.length)).len=m){o}(O:(nv bs i%16=1/\o=2)\/(nv bs i%16=2/\o=3)\/(nv bs i%16=3/\o=4)\/(nv bs i%16=4/\o=5)\/(nv bs i%16=5/\o=7)\/(nv bs i%16=6/\o=4)\/(nv bs i%16=7/\o=2)\/(nv bs i%16=8/\o=3)):
  Calls prog 81 #[eX a1 Z c1 J vs.length c2 a3 ab c3,hZ P] w (GwO w I P a n cap (ni bs (ni bs (ni bs i))) bs (.slice a1 Z c1) (.slice J vs.length c2) (.slice a3 ab c3) ins vs outs ⟨o,m,((nv bs (ni bs i)%vs.length:Nat):Int),jg vs m (nv bs (ni bs (ni bs i))),0,0⟩):=by
 obtain⟨T,ad⟩:=GrS.start f K hP;have aK:V _:=T;have x:V (Kept P (P+1) w _):=e8 ad;have aD:V (∀(W:World) (N:Nat) (o m p q r:Int),GrS W I P a n cap N bs w.heap.size (.slice a1 Z c1) (.slice J vs.length c2) (.slice a3 ab c3) ins vs outs->Kept P (P+1) w W->∀ax,Kept 0 0 W ax->_):=λW N o m p q r S k ax an=>S.put k an (eJ o m p q r) (Nat.zero_lt_succ _) ag;have hj:(nv bs (ni bs i):Int)%(vs.length:Int)=((nv bs (ni bs i)%vs.length:Nat):Int):=by rw[Int.natCast_emod]
 have u:nv bs (ni bs i)%vs.length<vs.length:=Nat.mod_lt _ ak;generalize nv bs (ni bs i)%vs.length=j at hj u ao⊢;have C:V ((nv bs (ni bs i):Int).tmod (vs.length:Int)=j):=(Int.tmod_eq_emod_of_nonneg xaa).trans hj;have bc:¬vs=[]:=λe=>by rw[e]at ak;exact Nat.lt_irrefl _ ak
 have cw:=fp K.ys i;have cj:=fp K.ys (ni bs i);have bE:¬(nv bs i:Int)%16=0:=xaa;have b:V _:=O;have Y:V _:=ao;clear f K T ad O hj ao;go_enter func81,ntmps81;go_wp2_with fail;generalize (w.alloc (.cells #[.slice a1 Z c1,.slice J vs.length c2,.slice a3 ab c3] 108)).alloc fH=W0 at aK x⊢;refine yaj aK.o.next ?_;rintro e ax ⟨rfl,(b1:V _),an⟩;have ay:=b1.o.bx.q1;have bZ:V _:=x.o.trans an;clear an;go_upto_region 11 with fail;go_region_held3 (λB=>B.cell? ⟨w.heap.size,1,none⟩=some (.slice J vs.length c2)) (go_keep) (first|(go_at_call 14;refine yaj (b1.o.keep (eF _)).next ?_;rintro e bo ⟨rfl,t,av⟩;have aB:=t.bx.q1));have HK:V (Kept P (P+1) w bo):=bZ.o.trans ((e8 (eF _)).trans av);have au:V _:=t;obtain⟨g,b7,az,aw,bC,bw⟩:=gO t.dg.r2 rfl u;cases az;exact qdw
