import Derived.Test.YtamokkcfibdghaaGreatP03
namespace Go.Proofs.Z
open Tryz
set_option maxRecDepth 1000000
set_option maxHeartbeats 0
open Go.RowKit Flt
attribute [local go_sem] eG eE eD
def fk (op len C:Int)(la lb lc:Nat):Bool:=lenB len&&eR op len C (([(la:Int),(lb:Int),(lc:Int)]).take (cnt op))
def fA (op C:Int)(K:Nat)(xa xb xc:List Nat)(k:Nat):Nat:=
 if op=1 then K else if op=2 then cop .add (xa.getD k 0) (xb.getD k 0)else if op=3 then cop .sub (xa.getD k 0) (xb.getD k 0)
 else if op=4 then cop .mul (xa.getD k 0) (xb.getD k 0)else if op=5 then cop .quo (xa.getD k 0) (xb.getD k 0)
 else if op=6 then Op.negFloat .f64 (xa.getD k 0)else if op=7 then jr (xa.getD k 0) (xb.getD k 0)
 else if op=8 then iC (xa.getD k 0) (xb.getD k 0) (xc.getD k 0)else if op=9 then kR xa
 else if op=10 then xa.getD 0 0 else if op=11 then xa.getD C.toNat 0 else if op=12 then (if k=C.toNat then xa.getD 0 0 else 0)
 else qk (xa.getD k 0)
def OP (n:Nat)(q:Nat->Nat)(w:World)(e:Ending)(w':World):Prop:=
 ∃(G:Nat) (zs:List Nat),e=.returned (.slice (some ⟨G,0,none⟩) n n)/\w.heap.size<=G/\FR w' G zs/\(∀z∈zs,z<18446744073709551616)/\zs.length=n/\(∀k,k<n->fb (zs.getD k 0)=fb (q k))/\Kept 0 0 w w'
theorem ww(w:World)(x y z):IS (w.alloc (.cells #[hI x,hI y,hI z] 3)) 0 (w.heap.size+1) (some ⟨w.heap.size,0,none⟩) 3 [x,y,z]:=
 ⟨rfl,.inr ⟨w.heap.size,0,rfl,Nat.zero_le _,yae,by simp,λk O=>by
  have:k=0\/k=1\/k=2:=xaa
  rcases this with rfl|rfl|rfl<;>simp⟩⟩
theorem q7(w op len A I C K a b c l F s ca b5 b3)(ah:lenB len=false):
  Calls prog 48 #[ii op len A I C K,.slice a l ca,.slice b F b5,.slice c s b3] w λe J=>e=.returned (.slice none 0 0)/\Kept 0 0 w J:=by
 have bO:V (∀w,Calls prog 44 #[hI len] w λe J=>e=.returned (.bool false)/\J=w):=λw=>by
  have:=gH len w
  rw[ah]at this
  exact this
 clear ah;go_enter func48,ntmps48;go_wp2_with fail;go_quiet ((go_at_call 44;exact Calls.quiet_of_same (bO.o _)))
 go_wp2;go_ret;exact⟨rfl,(((ez 0 0 w _).trans (ez 0 0 _ _)).trans (eM _ _ _ _))⟩
theorem sU(w op len A I C K a b c)(l F s ca b5 b3:Nat)(ah:lenB len=true)
  (ad:eR op len C (([(l:Int),(F:Int),(s:Int)]).take (cnt op))=false):
  Calls prog 48 #[ii op len A I C K,.slice a l ca,.slice b F b5,.slice c s b3] w λe J=>e=.returned (.slice none 0 0)/\Kept 0 0 w J:=by
 have bO:V (∀w,Calls prog 44 #[hI len] w λe J=>e=.returned (.bool true)/\J=w):=λw=>by
  have:=gH len w
  rw[ah]at this
  exact this
 have bB:=ww (w.alloc (eK op len A I C K)) l F s;have an:=bB.prefix (cnt op) (gK op);have ar:=gK op;have ap:V (∀w,Calls prog 73 #[hI op] w λe J=>e=.returned (hI (cnt op:Nat))/\J=w):=qj op
 have aT:V (∀m,Calls prog 72 #[ii op len A I C K,hH (w.heap.size+1) (cnt op) 3] (((w.alloc (eK op len A I C K)).alloc (.cells #[hI l,hI F,hI s] 3)).drewN m)
   λe J=>e=.returned (.bool false)/\Kept 0 0 (((w.alloc (eK op len A I C K)).alloc (.cells #[hI l,hI F,hI s] 3)).drewN m) J):=λm=>by
  have h:=qY _ op len A I C K _ _ _ _ 3 _ (an.keep (eM 0 0 _ m) yaa) rfl
  rw[ad]at h
  have e:(w.alloc (eK op len A I C K)).heap.size=w.heap.size+1:=by simp
  rw[e]at h
  exact h
 clear bB an ad;generalize cnt op=q at ap aT ar;go_enter func48,ntmps48;go_upto_region 2 with fail;go_cut [30] (λr bo=>r=.bool (!false)/\Kept 0 0 ((w.alloc (eK op len A I C K)).alloc (.cells #[hI l,hI F,hI s] 3)) bo)
 case first=>
  exact xep
 case rest=>
  obtain⟨rfl,ay⟩:=hcut;clear bO ap aT ar;have aH:V _:=((ez 0 0 w _).trans (ez 0 0 _ _)).trans ay;clear ay;go_wp2;go_ret;exact⟨rfl,aH.o⟩
