import Derived.Test.YtkjahdegnkmejaaGreatP24
namespace Go.Proofs.Z
variable{Zp:Prop}
open Tryz
set_option maxRecDepth 1000000
set_option maxHeartbeats 0
open Go.RowKit Flt
attribute[local go_sem] eE eC eB
theorem q.qad(h:Zp:=by
 obtain⟨g,ce,aX,bB,bx,bf⟩:=gQ h.dg.r2 rfl u;cases aX;exact qdp):Zp:=h
theorem q.qdq(h:Zp:=by
 rcases b.o with⟨al,rfl⟩|⟨al,rfl⟩|⟨al,rfl⟩|⟨al,rfl⟩|⟨al,rfl⟩|⟨al,rfl⟩|⟨al,rfl⟩|⟨al,rfl⟩
 all_goals
  clear b
  first|(have C:(nv bs i:Int)%16=1:=by omega)|(have C:(nv bs i:Int)%16=2:=by omega)|(have C:(nv bs i:Int)%16=3:=by omega)|(have C:(nv bs i:Int)%16=4:=by omega)|(have C:(nv bs i:Int)%16=5:=by omega)|(have C:(nv bs i:Int)%16=6:=by omega)|(have C:(nv bs i:Int)%16=7:=by omega)|(have C:(nv bs i:Int)%16=8:=by omega)
  clear al
  obtain⟨_,aU,ax,aF,_,_,_⟩:=(aG.o.keep (eA 0 0 _ (.cells #[ih 0,ih 2,ih 3,ih 4,ih 5,ih 7,ih 4,ih 2,ih 3] 3))).bx
  go_wp2_with fail
  refine yaj ((aG.o.keep (eA 0 0 _ _)).pick hn _) ?_
  rintro e cd ⟨rfl,z,bS⟩
  replace HK:V _:=HK.o.trans ((eZ (eA 0 0 _ _)).trans bS)
  replace aG:V _:=z
  clear z bS aU ax aF aJ
  go_wp2_with fail
  obtain⟨_,aU,ax,aF,_,_,_⟩:=aG.o.bx
  go_region_with (first|(go_at_call 59;refine yaj (aO.o _ _ _ _ _ _ _ aG.o HK.o _ ((eD _).trans a9)) ?_;rintro e an ⟨aI,cap',rfl,aK,ak⟩;obtain⟨_,bo,ar,aQ,bR,bV,bW⟩:=aK)|(go_at_call 60;refine yaj (gq _ _ _ _ _ _) ?_;rintro e aM ⟨rfl,a9⟩;obtain⟨_,a0,av,aT,_,_,_⟩:=(aG.o.keep ((eD _).trans a9)).bx))
  all_goals
   go_wp2_with fail
   obtain⟨bm,aW,bd⟩:=fd an (w.heap.size+1) _ _ _ bo ar aQ (.slice a1 Y c1) (ia aI (vs.length+1) cap') (.slice a3 aa c3)
   exact yaz (v:=eX a1 Y c1 (some ⟨aI,0,none⟩) (vs.length+1) cap' a3 aa c3) (by simp[results,results62,go_sem,bm,aW,bd]) rfl ak):Zp:=h
open q in
theorem FZ{w I P a n cap i bs a1 K a3 Y c1 c2 aa c3 ins vs outs}(f:DG w I (.slice a1 Y c1) (.slice K vs.length c2) (.slice a3 aa c3) ins vs outs)(X:RdF w P a n cap i bs)(hP:P<I)(hn:vs.length<=100000)(aj:0<vs.length){m}(aD:(vd vs (nv bs (ni bs i)%vs.length)).len=m){o}(J:(nv bs i%16=1/\o=2)\/(nv bs i%16=2/\o=3)\/(nv bs i%16=3/\o=4)\/(nv bs i%16=4/\o=5)\/(nv bs i%16=5/\o=7)\/(nv bs i%16=6/\o=4)\/(nv bs i%16=7/\o=2)\/(nv bs i%16=8/\o=3)):
  Calls prog 62 #[eX a1 Y c1 K vs.length c2 a3 aa c3,ge P] w (GwO w I P a n cap (ni bs (ni bs (ni bs i))) bs (.slice a1 Y c1) (.slice K vs.length c2) (.slice a3 aa c3) ins vs outs ⟨o,m,((nv bs (ni bs i)%vs.length:Nat):Int),i9 vs m (nv bs (ni bs (ni bs i))),0,0⟩):=by
 exact qac
