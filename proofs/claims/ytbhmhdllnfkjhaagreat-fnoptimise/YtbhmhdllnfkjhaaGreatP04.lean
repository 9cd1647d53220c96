import Derived.Test.YtbhmhdllnfkjhaaGreatP03
namespace Go.Proofs.Z
open Tryz
set_option maxRecDepth 1000000
set_option maxHeartbeats 0
open Go.RowKit Flt
attribute[local go_sem] eG eE eD
def jm(op len C:Int)(la lb lc:Nat):Bool:=lenB len&&eY op len C (([(la:Int),(lb:Int),(lc:Int)]).take (cnt op))
def gU(op C:Int)(K:Nat)(xa xb xc:List Nat)(k:Nat):Nat:=
 if op=1 then K else if op=2 then cop .add (xa.getD k 0) (xb.getD k 0)else if op=3 then cop .sub (xa.getD k 0) (xb.getD k 0)
 else if op=4 then cop .mul (xa.getD k 0) (xb.getD k 0)else if op=5 then cop .quo (xa.getD k 0) (xb.getD k 0)
 else if op=6 then Op.negFloat .f64 (xa.getD k 0)else if op=7 then jU (xa.getD k 0) (xb.getD k 0)
 else if op=8 then iH (xa.getD k 0) (xb.getD k 0) (xc.getD k 0)else if op=9 then lI xa
 else if op=10 then xa.getD 0 0 else if op=11 then xa.getD C.toNat 0 else if op=12 then (if k=C.toNat then xa.getD 0 0 else 0)
 else sB (xa.getD k 0)
def OU(n:Nat)(q:Nat->Nat)(w:World)(e:Ending)(w':World):Prop:=
 ∃(G:Nat) (zs:List Nat),e=.returned (.slice (some ⟨G,0,none⟩) n n)/\w.heap.size<=G/\FR w' G zs/\(∀z∈zs,z<18446744073709551616)/\zs.length=n/\(∀k,k<n->fb (zs.getD k 0)=fb (q k))/\Kept 0 0 w w'
theorem wO(w:World)(x y z):IS (w.alloc (.cells #[hD x,hD y,hD z] 3)) 0 (w.heap.size+1) (some ⟨w.heap.size,0,none⟩) 3 [x,y,z]:=
 ⟨rfl,.inr ⟨w.heap.size,0,rfl,yae,yaf,by simp,λk N=>by
  have:k=0\/k=1\/k=2:=xaa
  rcases this with rfl|rfl|rfl<;>simp⟩⟩
theorem rt(w op len A R C K a b c l X f bd cb bK)(ab:lenB len=false):
  Calls prog 63 #[kT op len A R C K,.slice a l bd,.slice b X cb,.slice c f bK] w λe I=>e=.returned (.slice none 0 0)/\Kept 0 0 w I:=by
 have bJ:V (∀w,Calls prog 51 #[hD len] w λe I=>e=.returned (.bool false)/\I=w):=λw=>by
  have:=gF len w
  rw[ab]at this
  exact this
 clear ab;go_enter func63,ntmps63;go_wp2_with fail;go_quiet ((go_at_call 51;exact Calls.quiet_of_same (bJ.o _)))
 go_wp2;go_ret;exact⟨rfl,(((ez 0 0 w _).trans (ez 0 0 _ _)).trans (eK _ _ _ _))⟩
theorem tw(w op len A R C K a b c)(l X f bd cb bK:Nat)(ab:lenB len=true)
  (ar:eY op len C (([(l:Int),(X:Int),(f:Int)]).take (cnt op))=false):
  Calls prog 63 #[kT op len A R C K,.slice a l bd,.slice b X cb,.slice c f bK] w λe I=>e=.returned (.slice none 0 0)/\Kept 0 0 w I:=by
 have bJ:V (∀w,Calls prog 51 #[hD len] w λe I=>e=.returned (.bool true)/\I=w):=λw=>by
  have:=gF len w
  rw[ab]at this
  exact this
 have a6:=wO (w.alloc (fB op len A R C K)) l X f;have j:=a6.prefix (cnt op) (f9 op);have t:=f9 op;have bT:V (∀w,Calls prog 98 #[hD op] w λe I=>e=.returned (hD (cnt op:Nat))/\I=w):=qx op
 have aZ:V (∀m,Calls prog 84 #[kT op len A R C K,hC (w.heap.size+1) (cnt op) 3] (((w.alloc (fB op len A R C K)).alloc (.cells #[hD l,hD X,hD f] 3)).drewN m)
   λe I=>e=.returned (.bool false)/\Kept 0 0 (((w.alloc (fB op len A R C K)).alloc (.cells #[hD l,hD X,hD f] 3)).drewN m) I):=λm=>by
  have h:=ro _ op len A R C K _ _ _ _ 3 _ (j.keep (eK 0 0 _ m) yaa) rfl
  rw[ar]at h
  have e:(w.alloc (fB op len A R C K)).heap.size=w.heap.size+1:=by simp
  rw[e]at h
  exact h
 clear a6 j ar;generalize cnt op=q at bT aZ t;go_enter func63,ntmps63;go_upto_region 2 with fail;go_cut [30] (λr cl=>r=.bool (!false)/\Kept 0 0 ((w.alloc (fB op len A R C K)).alloc (.cells #[hD l,hD X,hD f] 3)) cl)
 case first=>
  exact xdk
 case rest=>
  obtain⟨rfl,F⟩:=hcut;clear bJ bT aZ t;have aw:V _:=((ez 0 0 w _).trans (ez 0 0 _ _)).trans F;clear F;go_wp2;go_ret;exact⟨rfl,aw.o⟩
