import Derived.Test.YtkjahdegnkmejaaGreatP24
namespace Go.Proofs.Z
variable{Zp:Prop}
open Tryz
set_option maxRecDepth 1000000
set_option maxHeartbeats 0
open Go.RowKit Flt
attribute[local go_sem] eE eC eB
variable{w:World}{I P n cap i Y c1 c2 aa c3:Nat}{a a1 K a3:Option Addr}{bs ins outs:List Int}{vs:List Vl}
theorem o.qad(h:Zp:=by
 obtain⟨g,ce,aX,bB,bx,bf⟩:=gQ h.dg.r2 rfl u;cases aX;exact qdp):Zp:=h
theorem o.qdq(h:Zp:=by
 rcases b.o with al|al
 all_goals
  replace b:V _:=al
  clear al
  first|(have C:(nv bs i:Int)%16=14:=i4 b.o)|(have C:(nv bs i:Int)%16=15:=i4 b.o)
  clear b
  obtain⟨_,aU,ax,aF,_,_,_⟩:=aG.o.bx
  go_wp2_with fail
  refine yaj (aG.o.pick hn _) ?_
  rintro e cd ⟨rfl,z,bS⟩
  replace HK:V _:=HK.o.trans bS
  replace aG:V _:=z
  clear z bS aU ax aF aJ
  go_wp2_with fail
  refine yaj aG.o.next ?_
  rintro e bP ⟨rfl,v,a5⟩
  replace HK:V _:=HK.o.trans a5
  replace aG:V _:=v
  clear v a5
  go_wp2_with fail
  obtain⟨_,aU,ax,aF,_,_,_⟩:=aG.o.bx
  go_region_with (first|(go_at_call 59;refine yaj (aO.o _ _ _ _ _ _ _ aG.o HK.o _ ((eD _).trans a9)) ?_;rintro e an ⟨aI,cap',rfl,aK,ak⟩;obtain⟨_,bo,ar,aQ,bR,bV,bW⟩:=aK)|(go_at_call 60;refine yaj (gq _ _ _ _ _ _) ?_;rintro e aM ⟨rfl,a9⟩;obtain⟨_,a0,av,aT,_,_,_⟩:=(aG.o.keep ((eD _).trans a9)).bx))
  all_goals
   go_wp2_with fail
   obtain⟨bm,aW,bd⟩:=fd an (w.heap.size+1) _ _ _ bo ar aQ (.slice a1 Y c1) (ia aI (vs.length+1) cap') (.slice a3 aa c3)
   exact yaz (v:=eX a1 Y c1 (some ⟨aI,0,none⟩) (vs.length+1) cap' a3 aa c3) (by simp[results,results62,go_sem,bm,aW,bd]) rfl ak):Zp:=h
open o in
theorem CU(f:DG w I (.slice a1 Y c1) (.slice K vs.length c2) (.slice a3 aa c3) ins vs outs)(X:RdF w P a n cap i bs)(hP:P<I)(hn:vs.length<=100000)(aj:0<vs.length){m}(aD:(vd vs (nv bs (ni bs i)%vs.length)).len=m)(hb:i9 vs 1 (nv bs (ni bs (ni bs i)))<0)(J:nv bs i%16=14\/nv bs i%16=15):
  Calls prog 62 #[eX a1 Y c1 K vs.length c2 a3 aa c3,ge P] w (GwO w I P a n cap ((ni bs (ni bs (ni bs (ni bs i))))) bs (.slice a1 Y c1) (.slice K vs.length c2) (.slice a3 aa c3) ins vs outs ⟨9,1,((nv bs (ni bs i)%vs.length:Nat):Int),0,0,0⟩):=by
 have af:=fD X.ys (ni bs (ni bs (ni bs i)));exact qac
theorem p.qad(h:Zp:=by
 obtain⟨g,ce,aX,bB,bx,bf⟩:=gQ h.dg.r2 rfl u;cases aX;exact qdi):Zp:=h
theorem p.qdj(h:Zp:=by
 exact xbu):Zp:=h
theorem p.qfc(h:Zp:=by
 generalize 1+nv bs (ni bs (ni bs (ni bs i)))%4=d at l⊢;have da:V _:=l;clear l;exact qac):Zp:=h
open p in
theorem CV(f:DG w I (.slice a1 Y c1) (.slice K vs.length c2) (.slice a3 aa c3) ins vs outs)(X:RdF w P a n cap i bs)(hP:P<I)(hn:vs.length<=100000)(aj:0<vs.length){m}(aD:(vd vs (nv bs (ni bs i)%vs.length)).len=m)(hb:0<=i9 vs 1 (nv bs (ni bs (ni bs i))))(J:nv bs i%16=14):
  Calls prog 62 #[eX a1 Y c1 K vs.length c2 a3 aa c3,ge P] w (GwO w I P a n cap ((ni bs (ni bs (ni bs (ni bs i))))) bs (.slice a1 Y c1) (.slice K vs.length c2) (.slice a3 aa c3) ins vs outs ⟨10,((1+nv bs (ni bs (ni bs (ni bs i)))%4:Nat):Int),i9 vs 1 (nv bs (ni bs (ni bs i))),0,0,0⟩):=by
 exact qfb
theorem FY{W:World}{u}{xs:List Int}(h:W.ownsRow I 3 1 u n (xs.map (Value.int .i64)))(ag:xs.length=n){k}(J:k<n):∃g cap,u=ia g n cap/\I<=g/\g<W.heap.size/\W.cell? ⟨g,k,none⟩=some (ih (xs.getD k 0)):=by
 obtain⟨b,d,rfl⟩:=iH h;rcases AB h ag with c|⟨g,rfl,az,hi⟩
 ·omega
 exact⟨g,d,rfl,az,hi.lt,hi.at_ k J⟩
theorem aD.qaw(h:Zp:=by
 rcases Nat.eq_zero_or_pos ae with b5|b5
 case' inl=>have U:(ae:Int)<=0:=xaa
 case' inl=>clear b5
 case' inr=>have C:(nv bs i:Int)%16=0:=i4 b.o
 all_goals
  clear b
  go_wp2_with fail
  refine yaj aG.o.next ?_
  rintro e bU ⟨rfl,h,aC⟩
  replace HK:V _:=HK.o.trans aC
  replace aG:V _:=h
  clear h aC aU ax aF
  have q:=HO.o
  have aU:=aG.o.bx.q0
  have bq:¬Y=0:=xaa
  go_upto_region 6 with fail
  go_region_held3 (λO=>O.cell? ⟨w.heap.size,0,none⟩=some (.slice a1 Y c1)) (go_keep) (first|(go_at_call 11;refine yaj (aG.o.keep (eD _)).next ?_;rintro e cd ⟨rfl,z,bS⟩;have bX:=z.bx.q0))
  replace HK:V _:=HK.o.trans ((eZ (eD _)).trans bS)
  replace aG:V _:=z
  have ar:=z.dg.r1
  rw[cn.o]at ar
  obtain⟨g,ce,aX,_,bx,y⟩:=FY ar cn.o u
  cases aX
  rw[b2.o]at y
  first|rw[G.o]|rw[e5.o]
  clear z bS aU ar
  go_wp2_with fail
  obtain⟨_,aU,ax,aF,_,_,_⟩:=aG.o.bx
  go_region_with (first|(go_at_call 59;refine yaj (aO.o _ _ (eK 0 l (j:Int) 0 0) aG.o HK.o _ ((eD _).trans a9) (Nat.zero_lt_succ _)) ?_;rintro e an ⟨aI,cap',rfl,aK,ak⟩;obtain⟨_,bo,ar,aQ,bR,bV,bW⟩:=aK)|(go_at_call 60;refine yaj (gq _ _ _ _ _ _) ?_;rintro e aM ⟨rfl,a9⟩;obtain⟨_,a0,av,aT,_,_,_⟩:=(aG.o.keep ((eD _).trans a9)).bx))
  all_goals
   go_wp2_with fail
   obtain⟨bm,aW,bd⟩:=fd an (w.heap.size+1) _ _ _ bo ar aQ (ia g Y c1) (ia aI (ae+1) cap') (.slice a3 aa c3)
   exact yaz (v:=eX (some ⟨g,0,none⟩) Y c1 (some ⟨aI,0,none⟩) (ae+1) cap' a3 aa c3) (by simp[results,results62,go_sem,bm,aW,bd]) rfl ak):Zp:=h
open aD in
theorem JS(f:DG w I (.slice a1 Y c1) (.slice K vs.length c2) (.slice a3 aa c3) ins vs outs)(X:RdF w P a n cap i bs)(hP:P<I)(hn:vs.length<=100000)(B:0<Y)(aR:nv bs (ni bs i)%2=1)(J:nv bs i%16=0\/vs.length=0):
  Calls prog 62 #[eX a1 Y c1 K vs.length c2 a3 aa c3,ge P] w (GwO w I P a n cap ((ni bs (ni bs (ni bs i)))) bs (.slice a1 Y c1) (.slice K vs.length c2) (.slice a3 aa c3) ins vs outs ⟨0,ins.getD (nv bs (ni bs (ni bs i))%Y) 0,((nv bs (ni bs (ni bs i))%Y:Nat):Int),0,0,0⟩):=by
 have ey:Y=ins.length:=f4 f.r1;have hj:(nv bs (ni bs (ni bs i)):Int)%(Y:Int)=((nv bs (ni bs (ni bs i))%Y:Nat):Int):=by rw[Int.natCast_emod]
 have u:nv bs (ni bs (ni bs i))%Y<Y:=Nat.mod_lt _ B;have af:=fD X.ys (ni bs (ni bs i));generalize nv bs (ni bs (ni bs i))%Y=j at hj u⊢;have G:V ((nv bs (ni bs (ni bs i)):Int).tmod (Y:Int)=j):=(Int.tmod_eq_emod_of_nonneg xaa).trans hj;have e5:V _:=hj;have cn:V (ins.length=Y):=ey.symm;have q:(nv bs (ni bs i):Int)%2=1:=xaa;have HO:V _:=q;generalize aL:ins.getD j 0=l;have b2:V _:=aL;clear hj ey aR q aL;exact qav
