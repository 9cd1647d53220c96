import Derived.Test.YtcjhlkdleojbjaaGreatP03
namespace Go.Proofs.Z
open Tryz
set_option maxRecDepth 1000000
set_option maxHeartbeats 0
open Go.RowKit Flt
attribute[local go_sem] eF eE eD
def i8(op len C:Int)(la lb lc:Nat):Bool:=lenB len&&eV op len C (([(la:Int),(lb:Int),(lc:Int)]).take (cnt op))
def gD(op C:Int)(K:Nat)(xa xb xc:List Nat)(k:Nat):Nat:=
 if op=1 then K else if op=2 then cop .add (xa.getD k 0) (xb.getD k 0)else if op=3 then cop .sub (xa.getD k 0) (xb.getD k 0)
 else if op=4 then cop .mul (xa.getD k 0) (xb.getD k 0)else if op=5 then cop .quo (xa.getD k 0) (xb.getD k 0)
 else if op=6 then Op.negFloat .f64 (xa.getD k 0)else if op=7 then jF (xa.getD k 0) (xb.getD k 0)
 else if op=8 then io (xa.getD k 0) (xb.getD k 0) (xc.getD k 0)else if op=9 then kX xa
 else if op=10 then xa.getD 0 0 else if op=11 then xa.getD C.toNat 0 else if op=12 then (if k=C.toNat then xa.getD 0 0 else 0)
 else rW (xa.getD k 0)
def Pk(n:Nat)(q:Nat->Nat)(w:World)(e:Ending)(w':World):Prop:=
 ∃(G:Nat) (zs:List Nat),e=.returned (.slice (some ⟨G,0,none⟩) n n)/\w.heap.size<=G/\FR w' G zs/\(∀z∈zs,z<18446744073709551616)/\zs.length=n/\(∀k,k<n->fb (zs.getD k 0)=fb (q k))/\Kept 0 0 w w'
theorem wz(w:World)(x y z):IS (w.alloc (.cells #[hA x,hA y,hA z] 3)) 0 (w.heap.size+1) (some ⟨w.heap.size,0,none⟩) 3 [x,y,z]:=
 ⟨rfl,.inr ⟨w.heap.size,0,rfl,yae,yaf,by simp,λk O=>by
  have:k=0\/k=1\/k=2:=xaa
  rcases this with rfl|rfl|rfl<;>simp⟩⟩
theorem qT(w op len A J C K a b c l bf Y bh cb bV)(af:lenB len=false):
  Calls prog 164 #[lN op len A J C K,.slice a l bh,.slice b bf cb,.slice c Y bV] w λe B=>e=.returned (.slice none 0 0)/\Kept 0 0 w B:=by
 have bA:E (∀w,Calls prog 34 #[hA len] w λe B=>e=.returned (.bool false)/\B=w):=λw=>by
  have:=fD len w
  rw[af]at this
  exact this
 clear af;go_enter func164,ntmps164;go_wp2_with fail;go_quiet ((go_at_call 34;exact Calls.quiet_of_same (bA.o _)))
 go_wp2;go_ret;exact⟨rfl,(((ez 0 0 w _).trans (ez 0 0 _ _)).trans (eJ _ _ _ _))⟩
theorem sP(w op len A J C K a b c)(l bf Y bh cb bV:Nat)(af:lenB len=true)
  (au:eV op len C (([(l:Int),(bf:Int),(Y:Int)]).take (cnt op))=false):
  Calls prog 164 #[lN op len A J C K,.slice a l bh,.slice b bf cb,.slice c Y bV] w λe B=>e=.returned (.slice none 0 0)/\Kept 0 0 w B:=by
 have bA:E (∀w,Calls prog 34 #[hA len] w λe B=>e=.returned (.bool true)/\B=w):=λw=>by
  have:=fD len w
  rw[af]at this
  exact this
 have aM:=wz (w.alloc (fH op len A J C K)) l bf Y;have v:=aM.prefix (cnt op) (fI op);have G:=fI op;have bu:E (∀w,Calls prog 62 #[hA op] w λe B=>e=.returned (hA (cnt op:Nat))/\B=w):=mU op
 have aW:E (∀m,Calls prog 65 #[lN op len A J C K,hz (w.heap.size+1) (cnt op) 3] (((w.alloc (fH op len A J C K)).alloc (.cells #[hA l,hA bf,hA Y] 3)).drewN m)
   λe B=>e=.returned (.bool false)/\Kept 0 0 (((w.alloc (fH op len A J C K)).alloc (.cells #[hA l,hA bf,hA Y] 3)).drewN m) B):=λm=>by
  have h:=mE _ op len A J C K _ _ _ _ 3 _ (v.keep (eJ 0 0 _ m) yaa) rfl
  rw[au]at h
  have e:(w.alloc (fH op len A J C K)).heap.size=w.heap.size+1:=by simp
  rw[e]at h
  exact h
 clear aM v au;generalize cnt op=q at bu aW G;go_enter func164,ntmps164;go_upto_region 2 with fail;go_cut [30] (λr cd=>r=.bool (!false)/\Kept 0 0 ((w.alloc (fH op len A J C K)).alloc (.cells #[hA l,hA bf,hA Y] 3)) cd)
 case first=>
  exact xcz
 case rest=>
  obtain⟨rfl,N⟩:=hcut;clear bA bu aW G;have aI:E _:=((ez 0 0 w _).trans (ez 0 0 _ _)).trans N;clear N;go_wp2;go_ret;exact⟨rfl,aI.o⟩
