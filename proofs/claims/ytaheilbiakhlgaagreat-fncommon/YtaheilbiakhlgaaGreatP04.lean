import Derived.Test.YtaheilbiakhlgaaGreatP03
namespace Go.Proofs.Z
open Tryz
set_option maxRecDepth 1000000
set_option maxHeartbeats 0
open Go.RowKit Flt
attribute[local go_sem] eF eE eD
def fp(op len C:Int)(la lb lc:Nat):Bool:=lenB len&&eR op len C (([(la:Int),(lb:Int),(lc:Int)]).take (cnt op))
def fD(op C:Int)(K:Nat)(xa xb xc:List Nat)(k:Nat):Nat:=
 if op=1 then K else if op=2 then cop .add (xa.getD k 0) (xb.getD k 0)else if op=3 then cop .sub (xa.getD k 0) (xb.getD k 0)
 else if op=4 then cop .mul (xa.getD k 0) (xb.getD k 0)else if op=5 then cop .quo (xa.getD k 0) (xb.getD k 0)
 else if op=6 then Op.negFloat .f64 (xa.getD k 0)else if op=7 then jp (xa.getD k 0) (xb.getD k 0)
 else if op=8 then iz (xa.getD k 0) (xb.getD k 0) (xc.getD k 0)else if op=9 then kT xa
 else if op=10 then xa.getD 0 0 else if op=11 then xa.getD C.toNat 0 else if op=12 then (if k=C.toNat then xa.getD 0 0 else 0)
 else qh (xa.getD k 0)
def OF(n:Nat)(q:Nat->Nat)(w:World)(e:Ending)(w':World):Prop:=
 ∃(G:Nat) (zs:List Nat),e=.returned (.slice (some ⟨G,0,none⟩) n n)/\w.heap.size<=G/\FR w' G zs/\(∀z∈zs,z<18446744073709551616)/\zs.length=n/\(∀k,k<n->fb (zs.getD k 0)=fb (q k))/\Kept 0 0 w w'
theorem vZ(w:World)(x y z):IS (w.alloc (.cells #[hF x,hF y,hF z] 3)) 0 (w.heap.size+1) (some ⟨w.heap.size,0,none⟩) 3 [x,y,z]:=
 ⟨rfl,.inr ⟨w.heap.size,0,rfl,Nat.zero_le _,yae,by simp,λk O=>by
  have:k=0\/k=1\/k=2:=xaa
  rcases this with rfl|rfl|rfl<;>simp⟩⟩
theorem qZ(w op len A I C K a b c P X l bu b2 bT)(ah:lenB len=false):
  Calls prog 55 #[gO op len A I C K,.slice a P bu,.slice b X b2,.slice c l bT] w λe J=>e=.returned (.slice none 0 0)/\Kept 0 0 w J:=by
 have bQ:V (∀w,Calls prog 51 #[hF len] w λe J=>e=.returned (.bool false)/\J=w):=λw=>by
  have:=gI len w
  rw[ah]at this
  exact this
 clear ah;go_enter func55,ntmps55;go_wp2_with fail;go_quiet ((go_at_call 51;exact Calls.quiet_of_same (bQ.o _)))
 go_wp2;go_ret;exact⟨rfl,(((ez 0 0 w _).trans (ez 0 0 _ _)).trans (eL _ _ _ _))⟩
theorem sF(w op len A I C K a b c)(P X l bu b2 bT:Nat)(ah:lenB len=true)
  (ae:eR op len C (([(P:Int),(X:Int),(l:Int)]).take (cnt op))=false):
  Calls prog 55 #[gO op len A I C K,.slice a P bu,.slice b X b2,.slice c l bT] w λe J=>e=.returned (.slice none 0 0)/\Kept 0 0 w J:=by
 have bQ:V (∀w,Calls prog 51 #[hF len] w λe J=>e=.returned (.bool true)/\J=w):=λw=>by
  have:=gI len w
  rw[ah]at this
  exact this
 have bn:=vZ (w.alloc (eM op len A I C K)) P X l;have am:=bn.prefix (cnt op) (gK op);have aB:=gK op;have al:V (∀w,Calls prog 83 #[hF op] w λe J=>e=.returned (hF (cnt op:Nat))/\J=w):=qg op
 have aU:V (∀m,Calls prog 82 #[gO op len A I C K,hE (w.heap.size+1) (cnt op) 3] (((w.alloc (eM op len A I C K)).alloc (.cells #[hF P,hF X,hF l] 3)).drewN m)
   λe J=>e=.returned (.bool false)/\Kept 0 0 (((w.alloc (eM op len A I C K)).alloc (.cells #[hF P,hF X,hF l] 3)).drewN m) J):=λm=>by
  have h:=qX _ op len A I C K _ _ _ _ 3 _ (am.keep (eL 0 0 _ m) yaa) rfl
  rw[ae]at h
  have e:(w.alloc (eM op len A I C K)).heap.size=w.heap.size+1:=by simp
  rw[e]at h
  exact h
 clear bn am ae;generalize cnt op=q at al aU aB;go_enter func55,ntmps55;go_upto_region 2 with fail;go_cut [30] (λr bp=>r=.bool (!false)/\Kept 0 0 ((w.alloc (eM op len A I C K)).alloc (.cells #[hF P,hF X,hF l] 3)) bp)
 case first=>
  exact xeq
 case rest=>
  obtain⟨rfl,aC⟩:=hcut;clear bQ al aU aB;have ar:V _:=((ez 0 0 w _).trans (ez 0 0 _ _)).trans aC;clear aC;go_wp2;go_ret;exact⟨rfl,ar.o⟩
