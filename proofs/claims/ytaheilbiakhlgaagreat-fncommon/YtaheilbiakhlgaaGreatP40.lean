import Derived.Test.YtaheilbiakhlgaaGreatP32
namespace Go.Proofs.Z
variable{Zp:Prop}
open Tryz
set_option maxRecDepth 1000000
set_option maxHeartbeats 0
open Go.RowKit Flt
attribute[local go_sem] eF eE eD
theorem s.qad(h:Zp:=by
 obtain⟨g,b0,aU,aY,bj,bm⟩:=hH t.dg.r2 rfl h;cases aU;exact qei):Zp:=h
theorem s.qej(h:Zp:=by
 rcases aj.o with⟨al,rfl⟩|⟨al,rfl⟩|⟨al,rfl⟩|⟨al,rfl⟩|⟨al,rfl⟩|⟨al,rfl⟩|⟨al,rfl⟩|⟨al,rfl⟩
 all_goals
  clear aj
  first|(have af:(nv bs i:Int)%16=1:=by omega)|(have af:(nv bs i:Int)%16=2:=by omega)|(have af:(nv bs i:Int)%16=3:=by omega)|(have af:(nv bs i:Int)%16=4:=by omega)|(have af:(nv bs i:Int)%16=5:=by omega)|(have af:(nv bs i:Int)%16=6:=by omega)|(have af:(nv bs i:Int)%16=7:=by omega)|(have af:(nv bs i:Int)%16=8:=by omega)
  clear al
  obtain⟨_,a7,aK,aP,_,_,_⟩:=(au.o.keep (ez 0 0 _ (.cells #[hF 0,hF 2,hF 3,hF 4,hF 5,hF 7,hF 4,hF 2,hF 3] 3))).bx
  go_wp2_with fail
  refine yai ((au.o.keep (ez 0 0 _ _)).pick hn _) ?_
  rintro e b8 ⟨rfl,x,b7⟩
  replace HK:V _:=HK.o.trans ((ft (ez 0 0 _ _)).trans b7)
  replace au:V _:=x
  clear x b7 a7 aK aP aR
  go_wp2_with fail
  obtain⟨_,a7,aK,aP,_,_,_⟩:=au.o.bx
  go_region_with (first|(go_at_call 37;refine yai (aL.o _ _ _ _ _ _ _ au.o HK.o _ ((eG _).trans aJ)) ?_;rintro e aG ⟨aA,cap',rfl,a8,aH⟩;obtain⟨_,bo,az,aZ,bl,bG,bP⟩:=a8)|(go_at_call 39;refine yai (gS _ _ _ _ _ _) ?_;rintro e aF ⟨rfl,aJ⟩;obtain⟨_,aW,aq,aN,_,_,_⟩:=(au.o.keep ((eG _).trans aJ)).bx))
  all_goals
   go_wp2_with fail
   obtain⟨bf,aO,aX⟩:=fg aG (w.heap.size+1) _ _ _ bo az aZ (.slice a1 Y c1) (hE aA (vs.length+1) cap') (.slice a3 aa c3)
   exact yay (v:=eX a1 Y c1 (some ⟨aA,0,none⟩) (vs.length+1) cap' a3 aa c3) (by simp[results,results41,go_sem,bf,aO,aX]) rfl aH):Zp:=h
open s in
theorem Hg{w I P a n cap i bs a1 Z a3 Y c1 c2 aa c3 ins vs outs}(f:DG w I (.slice a1 Y c1) (.slice Z vs.length c2) (.slice a3 aa c3) ins vs outs)(C:RdF w P a n cap i bs)(hP:P<I)(hn:vs.length<=100000)(ai:0<vs.length){m}(aw:(vd vs (nv bs (ni bs i)%vs.length)).len=m){o}(O:(nv bs i%16=1/\o=2)\/(nv bs i%16=2/\o=3)\/(nv bs i%16=3/\o=4)\/(nv bs i%16=4/\o=5)\/(nv bs i%16=5/\o=7)\/(nv bs i%16=6/\o=4)\/(nv bs i%16=7/\o=2)\/(nv bs i%16=8/\o=3)):
  Calls prog 41 #[eX a1 Y c1 Z vs.length c2 a3 aa c3,hD P] w (GwO w I P a n cap (ni bs (ni bs (ni bs i))) bs (.slice a1 Y c1) (.slice Z vs.length c2) (.slice a3 aa c3) ins vs outs ⟨o,m,((nv bs (ni bs i)%vs.length:Nat):Int),jU vs m (nv bs (ni bs (ni bs i))),0,0⟩):=by
 exact qac
