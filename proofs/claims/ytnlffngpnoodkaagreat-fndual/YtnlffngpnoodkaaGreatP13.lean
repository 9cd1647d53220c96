import Derived.Test.YtnlffngpnoodkaaGreatP11
import Derived.Deep.DeepCutAuto
namespace Go.Proofs.YtnlffngpnoodkaaGreat
set_option maxRecDepth 1000000
set_option maxHeartbeats 0
open Go.RowKit Flt
attribute [local go_sem] ic ib ia
def iA (op len C:Int)(la lb lc:Nat):Bool:=iJ len&&im op len C (([(la:Int),(lb:Int),(lc:Int)]).take (cnt op))
def iF (op C:Int)(K:Nat)(xa xb xc:List Nat)(k:Nat):Nat:=
 if op=1 then K else if op=2 then cop .add (xa.getD k 0) (xb.getD k 0) else if op=3 then cop .sub (xa.getD k 0) (xb.getD k 0)
 else if op=4 then cop .mul (xa.getD k 0) (xb.getD k 0) else if op=5 then cop .quo (xa.getD k 0) (xb.getD k 0)
 else if op=6 then Op.negFloat .f64 (xa.getD k 0) else if op=7 then jZ (xa.getD k 0) (xb.getD k 0)
 else if op=8 then jz (xa.getD k 0) (xb.getD k 0) (xc.getD k 0) else if op=9 then kP xa
 else if op=10 then xa.getD 0 0 else if op=11 then xa.getD C.toNat 0 else if op=12 then (if k=C.toNat then xa.getD 0 0 else 0)
 else oC (xa.getD k 0)
def EI (n:Nat)(q:Nat->Nat)(w:World)(e:Ending)(w':World):Prop:=
 ∃(G:Nat) (zs:List Nat),e=.returned (.slice (some ⟨G,0,none⟩) n n)/\w.heap.size<=G/\FR w' G zs/\(∀z∈zs,z<18446744073709551616)/\zs.length=n/\(∀k,k<n->fb (zs.getD k 0)=fb (q k))/\Kept 0 0 w w'
theorem sn (w:World)(x y z:Int):IS (w.alloc (.cells #[.int .i64 x,.int .i64 y,.int .i64 z] 3)) 0 (w.heap.size+1) (some ⟨w.heap.size,0,none⟩) 3 [x,y,z]:=
 ⟨rfl,.inr ⟨w.heap.size,0,rfl,Nat.zero_le _,Nat.lt_succ_self _,by simp,λk hk=>by
  have:k=0\/k=1\/k=2:=by omega
  rcases this with rfl|rfl|rfl<;>simp⟩⟩
theorem oY (w:World)(op len A B C:Int)(K:Nat)(a b c:Option Addr)(la lb lc ca cb cc:Nat)(hl:iJ len=false):
  Calls Tryz.prog 68 #[jA op len A B C K,.slice a la ca,.slice b lb cb,.slice c lc cc] w λe w'=>e=.returned (.slice none 0 0)/\Kept 0 0 w w':=by
 have hL:Hid (∀w,Calls Tryz.prog 56 #[.int .i64 len] w λe w'=>e=.returned (.bool false)/\w'=w):=λw=>by
  have:=je len w
  rw[hl] at this
  exact this
 clear hl
 go_enter Tryz.func68,Tryz.ntmps68
 go_wp2_with fail
 go_quiet ((go_at_call 56;exact Calls.quiet_of_same (hL.out _)))
 go_wp2
 go_ret
 exact⟨rfl,(((hU 0 0 w _).trans (hU 0 0 _ _)).trans (iq _ _ _ _))⟩
theorem pZ (w:World)(op len A B C:Int)(K:Nat)(a b c:Option Addr)(la lb lc ca cb cc:Nat)(hl:iJ len=true)
  (hs:im op len C (([(la:Int),(lb:Int),(lc:Int)]).take (cnt op))=false):
  Calls Tryz.prog 68 #[jA op len A B C K,.slice a la ca,.slice b lb cb,.slice c lc cc] w λe w'=>e=.returned (.slice none 0 0)/\Kept 0 0 w w':=by
 have hL:Hid (∀w,Calls Tryz.prog 56 #[.int .i64 len] w λe w'=>e=.returned (.bool true)/\w'=w):=λw=>by
  have:=je len w
  rw[hl] at this
  exact this
 have hI:=sn (w.alloc (ij op len A B C K)) la lb lc
 have hI2:=hI.prefix (cnt op) (jo op)
 have hcnt:=jo op
 have hC:Hid (∀w,Calls Tryz.prog 92 #[.int .i64 op] w λe w'=>e=.returned (.int .i64 (cnt op:Nat))/\w'=w):=pF op
 have hS:Hid (∀m,Calls Tryz.prog 79 #[jA op len A B C K,.slice (some ⟨w.heap.size+1,0,none⟩) (cnt op) 3] (((w.alloc (ij op len A B C K)).alloc (.cells #[.int .i64 la,.int .i64 lb,.int .i64 lc] 3)).drewN m)
   λe w'=>e=.returned (.bool false)/\Kept 0 0 (((w.alloc (ij op len A B C K)).alloc (.cells #[.int .i64 la,.int .i64 lb,.int .i64 lc] 3)).drewN m) w'):=λm=>by
  have h:=oX _ op len A B C K _ _ _ _ 3 _ (hI2.keep (iq 0 0 _ m) (.inr (.inr (Nat.le_refl _)))) rfl
  rw[hs] at h
  have e:(w.alloc (ij op len A B C K)).heap.size=w.heap.size+1:=by simp
  rw[e] at h
  exact h
 clear hI hI2 hs
 generalize cnt op=q at hC hS hcnt
 go_enter Tryz.func68,Tryz.ntmps68
 go_upto_region 2 with fail
 go_cut [30] (λr wx=>r=.bool (!false)/\Kept 0 0 ((w.alloc (ij op len A B C K)).alloc (.cells #[.int .i64 la,.int .i64 lb,.int .i64 lc] 3)) wx)
 case first=>
  go_region_with (first|(go_at_call 56;refine(hL.out _).mono ?_;rintro e w2 ⟨rfl,rfl⟩)|(go_at_call 92;refine(hC.out _).mono ?_;rintro e w2 ⟨rfl,rfl⟩)|(go_at_call 79;refine(hS.out 1).mono ?_;rintro e w2 ⟨rfl,hk⟩))
  all_goals
   go_wp2_with fail
   go_meet
   exact⟨rfl,(iq 0 0 _ 1).trans hk⟩
 case rest=>
  obtain⟨rfl,hcut2⟩:=hcut
  clear hL hC hS hcnt
  have hK:Hid _:=((hU 0 0 w _).trans (hU 0 0 _ _)).trans hcut2
  clear hcut2
  go_wp2
  go_ret
  exact⟨rfl,hK.out⟩
end Go.Proofs.YtnlffngpnoodkaaGreat
