import Derived.Test.YtkjahdegnkmejaaGreatP24
namespace Go.Proofs.Z
variable{Zp:Prop}
open Tryz
set_option maxRecDepth 1000000
set_option maxHeartbeats 0
open Go.RowKit Flt
attribute[local go_sem] eE eC eB
variable{I P n cap i Y c1 c2 aa c3:Nat}{a a1 K a3:Option Addr}{bs ins outs:List Int}{vs:List Vl}
theorem m.qad(h:Zp:=by
 obtain⟨g,ce,aX,bB,bx,bf⟩:=gQ h.dg.r2 rfl u;cases aX;exact qdp):Zp:=h
theorem m.qdq(h:Zp:=by
 rcases b.o with⟨al,rfl,rfl⟩|⟨al,rfl,rfl⟩|⟨al,rfl,rfl⟩
 all_goals
  clear b
  first|(have C:(nv bs i:Int)%16=9:=by omega)|(have C:(nv bs i:Int)%16=11:=by omega)|(have C:(nv bs i:Int)%16=13:=by omega)
  clear al
  go_wp2_with fail
  obtain⟨_,aU,ax,aF,_,_,_⟩:=aG.o.bx
  go_region_with (first|(go_at_call 59;refine yaj (aO.o _ _ _ _ _ _ _ aG.o HK.o _ ((eD _).trans a9)) ?_;rintro e an ⟨aI,cap',rfl,aK,ak⟩;obtain⟨_,bo,ar,aQ,bR,bV,bW⟩:=aK)|(go_at_call 60;refine yaj (gq _ _ _ _ _ _) ?_;rintro e aM ⟨rfl,a9⟩;obtain⟨_,a0,av,aT,_,_,_⟩:=(aG.o.keep ((eD _).trans a9)).bx))
  all_goals
   go_wp2_with fail
   obtain⟨bm,aW,bd⟩:=fd an (w.heap.size+1) _ _ _ bo ar aQ (.slice a1 Y c1) (ia aI (vs.length+1) cap') (.slice a3 aa c3)
   exact yaz (v:=eX a1 Y c1 (some ⟨aI,0,none⟩) (vs.length+1) cap' a3 aa c3) (by simp[results,results62,go_sem,bm,aW,bd]) rfl ak):Zp:=h
open m in
theorem tD{w}(f:DG w I (.slice a1 Y c1) (.slice K vs.length c2) (.slice a3 aa c3) ins vs outs)(X:RdF w P a n cap i bs)(hP:P<I)(hn:vs.length<=100000)(aj:0<vs.length){m}(aD:(vd vs (nv bs (ni bs i)%vs.length)).len=m){o l}(J:(nv bs i%16=9/\o=6/\l=m)\/(nv bs i%16=11/\o=9/\l=1)\/(nv bs i%16=13/\o=13/\l=m)):
  Calls prog 62 #[eX a1 Y c1 K vs.length c2 a3 aa c3,ge P] w (GwO w I P a n cap (ni bs (ni bs i)) bs (.slice a1 Y c1) (.slice K vs.length c2) (.slice a3 aa c3) ins vs outs ⟨o,l,((nv bs (ni bs i)%vs.length:Nat):Int),0,0,0⟩):=by
 exact qac
theorem n.qad(h:Zp:=by
 obtain⟨g,ce,aX,bB,bx,bf⟩:=gQ h.dg.r2 rfl u;cases aX;exact qdi):Zp:=h
theorem n.qdj(h:Zp:=by
 exact xbf):Zp:=h
theorem n.qfc(h:Zp:=by
 have hd0:0<1+nv bs (ni bs (ni bs (ni bs i)))%4/\1+nv bs (ni bs (ni bs (ni bs i)))%4<=4:=xaa;generalize 1+nv bs (ni bs (ni bs (ni bs i)))%4=d at l hd0⊢;have ai:(nv bs (ni bs (ni bs (ni bs (ni bs i)))):Int)%(d:Int)=((nv bs (ni bs (ni bs (ni bs (ni bs i))))%d:Nat):Int):=by rw[Int.natCast_emod]
 have y:nv bs (ni bs (ni bs (ni bs (ni bs i))))%d<d:=Nat.mod_lt _ hd0.1;have cc:=fD X.ys (ni bs (ni bs (ni bs (ni bs i))));generalize nv bs (ni bs (ni bs (ni bs (ni bs i))))%d=c at ai y⊢;have bi:V ((nv bs (ni bs (ni bs (ni bs (ni bs i)))):Int).tmod (d:Int)=c):=(Int.tmod_eq_emod_of_nonneg xaa).trans ai;have da:V _:=l;clear l ai;exact qac):Zp:=h
open n in
theorem FX{w}(f:DG w I (.slice a1 Y c1) (.slice K vs.length c2) (.slice a3 aa c3) ins vs outs)(X:RdF w P a n cap i bs)(hP:P<I)(hn:vs.length<=100000)(aj:0<vs.length){m}(aD:(vd vs (nv bs (ni bs i)%vs.length)).len=m)(hb:0<=i9 vs 1 (nv bs (ni bs (ni bs i))))(J:nv bs i%16=15):
  Calls prog 62 #[eX a1 Y c1 K vs.length c2 a3 aa c3,ge P] w (GwO w I P a n cap (ni bs (ni bs (ni bs (ni bs (ni bs i))))) bs (.slice a1 Y c1) (.slice K vs.length c2) (.slice a3 aa c3) ins vs outs ⟨12,((1+nv bs (ni bs (ni bs (ni bs i)))%4:Nat):Int),i9 vs 1 (nv bs (ni bs (ni bs i))),0,((nv bs (ni bs (ni bs (ni bs (ni bs i))))%(1+nv bs (ni bs (ni bs (ni bs i)))%4):Nat):Int),0⟩):=by
 exact qfb
