import Derived.Test.YtbhmhdllnfkjhaaGreatP36
namespace Go.Proofs.Z
variable{Zp:Prop}
open Tryz
set_option maxRecDepth 1000000
set_option maxHeartbeats 0
open Go.RowKit Flt
attribute[local go_sem] eG eE eD
theorem s.qad(h:Zp:=by
 obtain⟨g,cp,aK,bp,aR,be⟩:=ig t.dg.r2 rfl s;cases aK;exact qds):Zp:=h
theorem s.qdt(h:Zp:=by
 rcases ap.o with⟨ai,rfl⟩|⟨ai,rfl⟩|⟨ai,rfl⟩|⟨ai,rfl⟩|⟨ai,rfl⟩|⟨ai,rfl⟩|⟨ai,rfl⟩|⟨ai,rfl⟩
 all_goals
  clear ap
  first|(have av:(nv bs i:Int)%16=1:=by omega)|(have av:(nv bs i:Int)%16=2:=by omega)|(have av:(nv bs i:Int)%16=3:=by omega)|(have av:(nv bs i:Int)%16=4:=by omega)|(have av:(nv bs i:Int)%16=5:=by omega)|(have av:(nv bs i:Int)%16=6:=by omega)|(have av:(nv bs i:Int)%16=7:=by omega)|(have av:(nv bs i:Int)%16=8:=by omega)
  clear ai
  obtain⟨_,bd,aL,aJ,_,_,_⟩:=(au.o.keep (ez 0 0 _ (.cells #[hD 0,hD 2,hD 3,hD 4,hD 5,hD 7,hD 4,hD 2,hD 3] 3))).bx
  go_wp2_with fail
  refine yaj ((au.o.keep (ez 0 0 _ _)).pick hn _) ?_
  rintro e bj ⟨rfl,h,ca⟩
  replace HK:V _:=HK.o.trans ((fh (ez 0 0 _ _)).trans ca)
  replace au:V _:=h
  clear h ca bd aL aJ aM
  go_wp2_with fail
  obtain⟨_,bd,aL,aJ,_,_,_⟩:=au.o.bx
  go_region_with (first|(go_at_call 38;refine yaj (aI.o _ _ _ _ _ _ _ au.o HK.o _ ((eF _).trans aF)) ?_;rintro e ag ⟨aB,cap',rfl,aO,aA⟩;obtain⟨_,bm,ay,aW,bv,bA,bM⟩:=aO)|(go_at_call 40;refine yaj (gO _ _ _ _ _ _) ?_;rintro e ab ⟨rfl,aF⟩;obtain⟨_,aT,ao,aG,_,_,_⟩:=(au.o.keep ((eF _).trans aF)).bx))
  all_goals
   go_wp2_with fail
   obtain⟨bf,aP,aY⟩:=eZ ag (w.heap.size+1) _ _ _ bm ay aW (.slice a1 n1 c1) (hC aB (vs.length+1) cap') (.slice a3 n3 c3)
   exact yaz (v:=eV a1 n1 c1 (some ⟨aB,0,none⟩) (vs.length+1) cap' a3 n3 c3) (by simp[results,results42,go_sem,bf,aP,aY]) rfl aA):Zp:=h
open s in
theorem Ir{w R P a n cap i bs a1 Y a3 n1 c1 c2 n3 c3 ins vs outs}(f:DG w R (.slice a1 n1 c1) (.slice Y vs.length c2) (.slice a3 n3 c3) ins vs outs)(C:RdF w P a n cap i bs)(hP:P<R)(hn:vs.length<=100000)(ae:0<vs.length){m}(aq:(vd vs (nv bs (ni bs i)%vs.length)).len=m){o}(N:(nv bs i%16=1/\o=2)\/(nv bs i%16=2/\o=3)\/(nv bs i%16=3/\o=4)\/(nv bs i%16=4/\o=5)\/(nv bs i%16=5/\o=7)\/(nv bs i%16=6/\o=4)\/(nv bs i%16=7/\o=2)\/(nv bs i%16=8/\o=3)):
  Calls prog 42 #[eV a1 n1 c1 Y vs.length c2 a3 n3 c3,hB P] w (GwO w R P a n cap (ni bs (ni bs (ni bs i))) bs (.slice a1 n1 c1) (.slice Y vs.length c2) (.slice a3 n3 c3) ins vs outs ⟨o,m,((nv bs (ni bs i)%vs.length:Nat):Int),jS vs m (nv bs (ni bs (ni bs i))),0,0⟩):=by
 exact qac
