import Derived.Test.YtamokkcfibdghaaGreatP37
namespace Go.Proofs.Z
variable {Zp:Prop}
open Tryz
set_option maxRecDepth 1000000
set_option maxHeartbeats 0
open Go.RowKit Flt
attribute [local go_sem] eG eE eD
variable {w:World}{I P n cap i Y m c1 c2 Z c3:Nat}{a a1 a2 a3:Option Addr}{bs ins outs:List Int}{vs:List Vl}
theorem q.qad(h:Zp:=by
 obtain⟨g,bR,ag,ak,a5,bg⟩:=ie t.dg.r2 rfl h;cases ag;exact qea):Zp:=h
theorem q.qeb(h:Zp:=by
 have ae:(nv bs i:Int)%16=10:=hR s.o
 clear s;obtain⟨_,ba,aO,aR,_,_,_⟩:=aw.o.bx;go_wp2_with fail;refine yai (aw.o.pick hn _) ?_;rintro e b4 ⟨rfl,z,bZ⟩;replace HK:V _:=HK.o.trans bZ;replace aw:V _:=z;clear z bZ ba aO aR aU;obtain⟨_,ba,aO,aR,_,_,_⟩:=aw.o.bx;go_wp2_with fail;refine yai (aw.o.pick hn _) ?_;rintro e b1 ⟨rfl,v,bc⟩;replace HK:V _:=HK.o.trans bc;replace aw:V _:=v;clear v bc ba aO aR;exact xck):Zp:=h
open q in
theorem Hx(f:DG w I (.slice a1 Y c1) (.slice a2 vs.length c2) (.slice a3 Z c3) ins vs outs)(C:RdF w P a n cap i bs)(hP:P<I)(hn:vs.length<=100000)(aj:0<vs.length){m}(az:(vd vs (nv bs (ni bs i)%vs.length)).len=m)(O:nv bs i%16=10):
  Calls prog 36 #[eZ a1 Y c1 a2 vs.length c2 a3 Z c3,hG P] w (GwO w I P a n cap (ni bs (ni bs (ni bs (ni bs i)))) bs (.slice a1 Y c1) (.slice a2 vs.length c2) (.slice a3 Z c3) ins vs outs ⟨8,m,((nv bs (ni bs i)%vs.length:Nat):Int),jW vs m (nv bs (ni bs (ni bs i))),jW vs m (nv bs (ni bs (ni bs (ni bs i)))),0⟩):=by
 exact qac
theorem r.qad(h:Zp:=by
 obtain⟨g,bR,ag,ak,a5,bg⟩:=ie t.dg.r2 rfl h;cases ag;exact qea):Zp:=h
theorem r.qeb(h:Zp:=by
 have ae:(nv bs i:Int)%16=12:=hR s.o
 clear s;exact xbu):Zp:=h
open r in
theorem Es(f:DG w I (.slice a1 Y c1) (.slice a2 vs.length c2) (.slice a3 Z c3) ins vs outs)(C:RdF w P a n cap i bs)(hP:P<I)(hn:vs.length<=100000)(aj:0<vs.length)(az:(vd vs (nv bs (ni bs i)%vs.length)).len=(m:Int))(Q:0<m)(ay:m<=1000)(O:nv bs i%16=12):
  Calls prog 36 #[eZ a1 Y c1 a2 vs.length c2 a3 Z c3,hG P] w (GwO w I P a n cap (ni bs (ni bs (ni bs i))) bs (.slice a1 Y c1) (.slice a2 vs.length c2) (.slice a3 Z c3) ins vs outs ⟨11,1,((nv bs (ni bs i)%vs.length:Nat):Int),0,((nv bs (ni bs (ni bs i))%m:Nat):Int),0⟩):=by
 have ai:(nv bs (ni bs (ni bs i)):Int)%(m:Int)=((nv bs (ni bs (ni bs i))%m:Nat):Int):=by rw[Int.natCast_emod]
 have y:nv bs (ni bs (ni bs i))%m<m:=Nat.mod_lt _ Q;have K:=fK C.ys (ni bs (ni bs i));generalize nv bs (ni bs (ni bs i))%m=c at ai y⊢;have bl:V ((nv bs (ni bs (ni bs i)):Int).tmod (m:Int)=c):=(Int.tmod_eq_emod_of_nonneg xaa).trans ai;clear ai;exact qac
theorem Hy{W:World}{u}{xs:List Int}(h:W.ownsRow I 3 1 u n (xs.map (Value.int .i64)))(ah:xs.length=n){k}(O:k<n):∃g cap,u=hH g n cap/\I<=g/\g<W.heap.size/\W.cell? ⟨g,k,none⟩=some (hI (xs.getD k 0)):=by
 obtain⟨b,d,rfl⟩:=l9 h;rcases Fe h ah with c|⟨g,rfl,aW,hi⟩
 ·omega
 exact⟨g,d,rfl,aW,hi.lt,hi.at_ k O⟩
theorem jU{W:World}{c xs}{e s:Nat}(h:W.ownsRow I e s (.slice a n c) m xs):n=m:=by
 obtain⟨b,d,e⟩:=l9 h;injection e
theorem aP.qbc(h:Zp:=by
 rcases Nat.eq_zero_or_pos U with bp|bp
 case' inl=>have X:(U:Int)<=0:=xaa
 case' inl=>clear bp
 case' inr=>have ae:(nv bs i:Int)%16=0:=hR s.o
 all_goals
  clear s
  go_wp2_with fail
  refine yai aw.o.next ?_
  rintro e W2 ⟨rfl,t,ao⟩
  replace HK:V _:=HK.o.trans ao
  replace aw:V _:=t
  clear t ao ba aO aR
  have o:=HO.o
  have ba:=aw.o.bx.q0
  have a9:¬Y=0:=xaa
  go_upto_region 6 with fail
  go_region_held3 (λJ=>J.cell? ⟨w.heap.size,0,none⟩=some (.slice a1 Y c1)) (go_keep) (first|(go_at_call 13;refine yai (aw.o.keep (eF _)).next ?_;rintro e b4 ⟨rfl,z,bZ⟩;have bM:=z.bx.q0))
  replace HK:V _:=HK.o.trans ((fw (eF _)).trans bZ)
  replace aw:V _:=z
  have aC:=z.dg.r1
  rw[bX.o]at aC
  obtain⟨g,bR,ag,_,a5,y⟩:=Hy aC bX.o h
  cases ag
  rw[bT.o]at y
  first|rw[x.o]|rw[fc.o]
  clear z bZ ba aC
  go_wp2_with fail
  obtain⟨_,ba,aO,aR,_,_,_⟩:=aw.o.bx
  go_region_with (first|(go_at_call 32;refine yai (aP.o _ _ (eL 0 l (j:Int) 0 0) aw.o HK.o _ ((eF _).trans aM) (Nat.zero_lt_succ _)) ?_;rintro e af ⟨aG,cap',rfl,aB,aX⟩;obtain⟨_,bn,aC,a0,bq,br,bC⟩:=aB)|(go_at_call 34;refine yai (gQ _ _ _ _ _ _) ?_;rintro e aT ⟨rfl,aM⟩;obtain⟨_,s0,ax,aN,_,_,_⟩:=(aw.o.keep ((eF _).trans aM)).bx))
  all_goals
   go_wp2_with fail
   obtain⟨bj,aQ,a6⟩:=fj af (w.heap.size+1) _ _ _ bn aC a0 (hH g Y c1) (hH aG (U+1) cap') (.slice a3 Z c3)
   exact yay (v:=eZ (some ⟨g,0,none⟩) Y c1 (some ⟨aG,0,none⟩) (U+1) cap' a3 Z c3) (by simp[results,results36,go_sem,bj,aQ,a6]) rfl aX):Zp:=h
open aP in
theorem KR(f:DG w I (.slice a1 Y c1) (.slice a2 vs.length c2) (.slice a3 Z c3) ins vs outs)(C:RdF w P a n cap i bs)(hP:P<I)(hn:vs.length<=100000)(B:0<Y)(av:nv bs (ni bs i)%2=1)(O:nv bs i%16=0\/vs.length=0):
  Calls prog 36 #[eZ a1 Y c1 a2 vs.length c2 a3 Z c3,hG P] w (GwO w I P a n cap ((ni bs (ni bs (ni bs i)))) bs (.slice a1 Y c1) (.slice a2 vs.length c2) (.slice a3 Z c3) ins vs outs ⟨0,ins.getD (nv bs (ni bs (ni bs i))%Y) 0,((nv bs (ni bs (ni bs i))%Y:Nat):Int),0,0,0⟩):=by
 have p:Y=ins.length:=jU f.r1;have hj:(nv bs (ni bs (ni bs i)):Int)%(Y:Int)=((nv bs (ni bs (ni bs i))%Y:Nat):Int):=by rw[Int.natCast_emod]
 have h:nv bs (ni bs (ni bs i))%Y<Y:=Nat.mod_lt _ B;have K:=fK C.ys (ni bs (ni bs i));generalize nv bs (ni bs (ni bs i))%Y=j at hj h⊢;have x:V ((nv bs (ni bs (ni bs i)):Int).tmod (Y:Int)=j):=(Int.tmod_eq_emod_of_nonneg xaa).trans hj;have fc:V _:=hj;have bX:V (ins.length=Y):=p.symm;have o:(nv bs (ni bs i):Int)%2=1:=xaa;have HO:V _:=o;generalize aL:ins.getD j 0=l;have bT:V _:=aL;clear hj p av o aL;exact qbb
