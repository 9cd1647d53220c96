import Derived.Test.YtcagphgmfbjneaaGreatP32
namespace Go.Proofs.Z
variable{Zp:Prop}
open Tryz
set_option maxRecDepth 1000000
set_option maxHeartbeats 0
open Go.RowKit Flt
attribute[local go_sem] eE eD eC
variable{w:World}{I P n cap i Z c1 c2 ab c3:Nat}{a a1 J a3:Option Addr}{bs ins outs:List Int}{vs:List Vl}
theorem o.qad(h:Zp:=by
 obtain⟨g,b7,az,aw,bC,bw⟩:=gO t.dg.r2 rfl u;cases az;exact qdw):Zp:=h
theorem o.qdx(h:Zp:=by
 have G:(nv bs i:Int)%16=10:=ix b.o
 clear b;obtain⟨_,aP,ay,aB,_,_,_⟩:=au.o.bx;go_wp2_with fail;refine yaj (au.o.pick ag _) ?_;rintro e cc ⟨rfl,h,bW⟩;replace HK:V _:=HK.o.trans bW;replace au:V _:=h;clear h bW aP ay aB aJ;obtain⟨_,aP,ay,aB,_,_,_⟩:=au.o.bx;go_wp2_with fail;refine yaj (au.o.pick ag _) ?_;rintro e ca ⟨rfl,v,a2⟩;replace HK:V _:=HK.o.trans a2;replace au:V _:=v;clear v a2 aP ay aB;exact xbu):Zp:=h
open o in
theorem Ij(f:DG w I (.slice a1 Z c1) (.slice J vs.length c2) (.slice a3 ab c3) ins vs outs)(K:RdF w P a n cap i bs)(hP:P<I)(ag:vs.length<=100000)(ak:0<vs.length){m}(ao:(vd vs (nv bs (ni bs i)%vs.length)).len=m)(O:nv bs i%16=10):
  Calls prog 81 #[eX a1 Z c1 J vs.length c2 a3 ab c3,hZ P] w (GwO w I P a n cap (ni bs (ni bs (ni bs (ni bs i)))) bs (.slice a1 Z c1) (.slice J vs.length c2) (.slice a3 ab c3) ins vs outs ⟨8,m,((nv bs (ni bs i)%vs.length:Nat):Int),jg vs m (nv bs (ni bs (ni bs i))),jg vs m (nv bs (ni bs (ni bs (ni bs i)))),0⟩):=by
 exact qac
theorem p.qad(h:Zp:=by
 obtain⟨g,b7,az,aw,bC,bw⟩:=gO t.dg.r2 rfl u;cases az;exact qdw):Zp:=h
theorem p.qdx(h:Zp:=by
 have G:(nv bs i:Int)%16=12:=ix b.o
 clear b;exact xbh):Zp:=h
open p in
theorem Ez(f:DG w I (.slice a1 Z c1) (.slice J vs.length c2) (.slice a3 ab c3) ins vs outs)(K:RdF w P a n cap i bs)(hP:P<I)(ag:vs.length<=100000)(ak:0<vs.length){m:Nat}(ao:(vd vs (nv bs (ni bs i)%vs.length)).len=(m:Int))(bL:0<m)(cG:m<=1000)(O:nv bs i%16=12):
  Calls prog 81 #[eX a1 Z c1 J vs.length c2 a3 ab c3,hZ P] w (GwO w I P a n cap (ni bs (ni bs (ni bs i))) bs (.slice a1 Z c1) (.slice J vs.length c2) (.slice a3 ab c3) ins vs outs ⟨11,1,((nv bs (ni bs i)%vs.length:Nat):Int),0,((nv bs (ni bs (ni bs i))%m:Nat):Int),0⟩):=by
 have al:(nv bs (ni bs (ni bs i)):Int)%(m:Int)=((nv bs (ni bs (ni bs i))%m:Nat):Int):=xaa;have y:nv bs (ni bs (ni bs i))%m<m:=Nat.mod_lt _ bL;have aF:=fp K.ys (ni bs (ni bs i));generalize nv bs (ni bs (ni bs i))%m=c at al y⊢;have bf:V ((nv bs (ni bs (ni bs i)):Int).tmod (m:Int)=c):=(Int.tmod_eq_emod_of_nonneg xaa).trans al;clear al;exact qac
theorem Ik{W:World}{u}{xs:List Int}(h:W.ownsRow I 3 1 u n (xs.map (Value.int .i64)))(ai:xs.length=n){k}(O:k<n):∃g cap,u=h0 g n cap/\I<=g/\g<W.heap.size/\W.cell? ⟨g,k,none⟩=some (h1 (xs.getD k 0)):=by
 obtain⟨b,d,rfl⟩:=iL h;rcases Bs h ai with c|⟨g,rfl,aK,hi⟩
 ·omega
 exact⟨g,d,rfl,aK,hi.lt,hi.at_ k O⟩
theorem aC.qaw(h:Zp:=by
 rcases Nat.eq_zero_or_pos ae with a5|a5
 case' inl=>have X:(ae:Int)<=0:=xaa
 case' inl=>clear a5
 case' inr=>have G:(nv bs i:Int)%16=0:=ix b.o
 all_goals
  clear b
  go_wp2_with fail
  refine yaj au.o.next ?_
  rintro e bo ⟨rfl,t,av⟩
  replace HK:V _:=HK.o.trans av
  replace au:V _:=t
  clear t av aP ay aB
  have r:=HO.o
  have aP:=au.o.bx.q0
  have bk:¬Z=0:=xaa
  go_upto_region 6 with fail
  go_region_held3 (λB=>B.cell? ⟨w.heap.size,0,none⟩=some (.slice a1 Z c1)) (go_keep) (first|(go_at_call 14;refine yaj (au.o.keep (eF _)).next ?_;rintro e cc ⟨rfl,h,bW⟩;have bP:=h.bx.q0))
  replace HK:V _:=HK.o.trans ((e8 (eF _)).trans bW)
  replace au:V _:=h
  have aq:=h.dg.r1
  rw[b8.o]at aq
  obtain⟨g,b7,az,_,bC,y⟩:=Ik aq b8.o u
  cases az
  rw[bX.o]at y
  first|rw[C.o]|rw[eB.o]
  clear h bW aP aq
  go_wp2_with fail
  obtain⟨_,aP,ay,aB,_,_,_⟩:=au.o.bx
  go_region_with (first|(go_at_call 78;refine yaj (aD.o _ _ (eJ 0 l (j:Int) 0 0) au.o HK.o _ ((eF _).trans aZ) (Nat.zero_lt_succ _)) ?_;rintro e am ⟨aC,cap',rfl,a0,aH⟩;obtain⟨_,bq,aq,aT,bR,bS,bT⟩:=a0)|(go_at_call 79;refine yaj (gG _ _ _ _ _ _) ?_;rintro e aU ⟨rfl,aZ⟩;obtain⟨_,aY,ar,aW,_,_,_⟩:=(au.o.keep ((eF _).trans aZ)).bx))
  all_goals
   go_wp2_with fail
   obtain⟨bl,aS,a9⟩:=fd am (w.heap.size+1) _ _ _ bq aq aT (h0 g Z c1) (h0 aC (ae+1) cap') (.slice a3 ab c3)
   exact yaz (v:=eX (some ⟨g,0,none⟩) Z c1 (some ⟨aC,0,none⟩) (ae+1) cap' a3 ab c3) (by simp[results,results81,go_sem,bl,aS,a9]) rfl aH):Zp:=h
open aC in
theorem Lv(f:DG w I (.slice a1 Z c1) (.slice J vs.length c2) (.slice a3 ab c3) ins vs outs)(K:RdF w P a n cap i bs)(hP:P<I)(ag:vs.length<=100000)(F:0<Z)(ho:nv bs (ni bs i)%2=1)(O:nv bs i%16=0\/vs.length=0):
  Calls prog 81 #[eX a1 Z c1 J vs.length c2 a3 ab c3,hZ P] w (GwO w I P a n cap ((ni bs (ni bs (ni bs i)))) bs (.slice a1 Z c1) (.slice J vs.length c2) (.slice a3 ab c3) ins vs outs ⟨0,ins.getD (nv bs (ni bs (ni bs i))%Z) 0,((nv bs (ni bs (ni bs i))%Z:Nat):Int),0,0,0⟩):=by
 have Q:Z=ins.length:=gZ f.r1;have hj:(nv bs (ni bs (ni bs i)):Int)%(Z:Int)=((nv bs (ni bs (ni bs i))%Z:Nat):Int):=xaa;have u:nv bs (ni bs (ni bs i))%Z<Z:=Nat.mod_lt _ F;have aF:=fp K.ys (ni bs (ni bs i));generalize nv bs (ni bs (ni bs i))%Z=j at hj u⊢;have C:V ((nv bs (ni bs (ni bs i)):Int).tmod (Z:Int)=j):=(Int.tmod_eq_emod_of_nonneg xaa).trans hj;have eB:V _:=hj;have b8:V (ins.length=Z):=Q.symm;have r:(nv bs (ni bs i):Int)%2=1:=xaa;have HO:V _:=r;generalize aN:ins.getD j 0=l;have bX:V _:=aN;clear hj Q ho r aN;exact qav
