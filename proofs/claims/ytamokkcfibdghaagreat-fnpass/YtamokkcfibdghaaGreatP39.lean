import Derived.Test.YtamokkcfibdghaaGreatP37
namespace Go.Proofs.Z
variable {Zp:Prop}
open Tryz
set_option maxRecDepth 1000000
set_option maxHeartbeats 0
open Go.RowKit Flt
attribute [local go_sem] eG eE eD
theorem s.qad(h:Zp:=by
 obtain⟨g,bR,ag,ak,a5,bg⟩:=ie t.dg.r2 rfl h;cases ag;exact qea):Zp:=h
theorem s.qeb(h:Zp:=by
 rcases s.o with⟨ap,rfl⟩|⟨ap,rfl⟩|⟨ap,rfl⟩|⟨ap,rfl⟩|⟨ap,rfl⟩|⟨ap,rfl⟩|⟨ap,rfl⟩|⟨ap,rfl⟩
 all_goals
  clear s
  first|(have ae:(nv bs i:Int)%16=1:=by omega)|(have ae:(nv bs i:Int)%16=2:=by omega)|(have ae:(nv bs i:Int)%16=3:=by omega)|(have ae:(nv bs i:Int)%16=4:=by omega)|(have ae:(nv bs i:Int)%16=5:=by omega)|(have ae:(nv bs i:Int)%16=6:=by omega)|(have ae:(nv bs i:Int)%16=7:=by omega)|(have ae:(nv bs i:Int)%16=8:=by omega)
  clear ap
  obtain⟨_,ba,aO,aR,_,_,_⟩:=(aw.o.keep (ez 0 0 _ (.cells #[hI 0,hI 2,hI 3,hI 4,hI 5,hI 7,hI 4,hI 2,hI 3] 3))).bx
  go_wp2_with fail
  refine yai ((aw.o.keep (ez 0 0 _ _)).pick hn _) ?_
  rintro e b4 ⟨rfl,z,bZ⟩
  replace HK:V _:=HK.o.trans ((fw (ez 0 0 _ _)).trans bZ)
  replace aw:V _:=z
  clear z bZ ba aO aR aU
  go_wp2_with fail
  obtain⟨_,ba,aO,aR,_,_,_⟩:=aw.o.bx
  go_region_with (first|(go_at_call 32;refine yai (aP.o _ _ _ _ _ _ _ aw.o HK.o _ ((eF _).trans aM)) ?_;rintro e af ⟨aG,cap',rfl,aB,aX⟩;obtain⟨_,bn,aC,a0,bq,br,bC⟩:=aB)|(go_at_call 34;refine yai (gQ _ _ _ _ _ _) ?_;rintro e aT ⟨rfl,aM⟩;obtain⟨_,s0,ax,aN,_,_,_⟩:=(aw.o.keep ((eF _).trans aM)).bx))
  all_goals
   go_wp2_with fail
   obtain⟨bj,aQ,a6⟩:=fj af (w.heap.size+1) _ _ _ bn aC a0 (.slice a1 Y c1) (hH aG (vs.length+1) cap') (.slice a3 Z c3)
   exact yay (v:=eZ a1 Y c1 (some ⟨aG,0,none⟩) (vs.length+1) cap' a3 Z c3) (by simp[results,results36,go_sem,bj,aQ,a6]) rfl aX):Zp:=h
open s in
theorem Hz{w I P a n cap i bs a1 a2 a3 Y c1 c2 Z c3 ins vs outs}(f:DG w I (.slice a1 Y c1) (.slice a2 vs.length c2) (.slice a3 Z c3) ins vs outs)(C:RdF w P a n cap i bs)(hP:P<I)(hn:vs.length<=100000)(aj:0<vs.length){m}(az:(vd vs (nv bs (ni bs i)%vs.length)).len=m){o}(O:(nv bs i%16=1/\o=2)\/(nv bs i%16=2/\o=3)\/(nv bs i%16=3/\o=4)\/(nv bs i%16=4/\o=5)\/(nv bs i%16=5/\o=7)\/(nv bs i%16=6/\o=4)\/(nv bs i%16=7/\o=2)\/(nv bs i%16=8/\o=3)):
  Calls prog 36 #[eZ a1 Y c1 a2 vs.length c2 a3 Z c3,hG P] w (GwO w I P a n cap (ni bs (ni bs (ni bs i))) bs (.slice a1 Y c1) (.slice a2 vs.length c2) (.slice a3 Z c3) ins vs outs ⟨o,m,((nv bs (ni bs i)%vs.length:Nat):Int),jW vs m (nv bs (ni bs (ni bs i))),0,0⟩):=by
 exact qac
