import Derived.Test.YtcagphgmfbjneaaGreatP05
namespace Go.Proofs.Z
open Tryz
set_option maxRecDepth 1000000
set_option maxHeartbeats 0
open Go.RowKit Flt
attribute[local go_sem] eE eD eC
def jQ(op len C:Int)(la lb lc:Nat):Bool:=lenB len&&eQ op len C (([(la:Int),(lb:Int),(lc:Int)]).take (cnt op))
def gS(op C:Int)(K:Nat)(xa xb xc:List Nat)(k:Nat):Nat:=
 if op=1 then K else if op=2 then cop .add (xa.getD k 0) (xb.getD k 0)else if op=3 then cop .sub (xa.getD k 0) (xb.getD k 0)
 else if op=4 then cop .mul (xa.getD k 0) (xb.getD k 0)else if op=5 then cop .quo (xa.getD k 0) (xb.getD k 0)
 else if op=6 then Op.negFloat .f64 (xa.getD k 0)else if op=7 then jP (xa.getD k 0) (xb.getD k 0)
 else if op=8 then ir (xa.getD k 0) (xb.getD k 0) (xc.getD k 0)else if op=9 then lB xa
 else if op=10 then xa.getD 0 0 else if op=11 then xa.getD C.toNat 0 else if op=12 then (if k=C.toNat then xa.getD 0 0 else 0)
 else sF (xa.getD k 0)
def PR(n:Nat)(q:Nat->Nat)(w:World)(e:Ending)(w':World):Prop:=
 ∃(G:Nat) (zs:List Nat),e=.returned (.slice (some ⟨G,0,none⟩) n n)/\w.heap.size<=G/\FR w' G zs/\(∀z∈zs,z<18446744073709551616)/\zs.length=n/\(∀k,k<n->fb (zs.getD k 0)=fb (q k))/\Kept 0 0 w w'
theorem Cs(w:World)(x y z):IS (w.alloc (.cells #[h1 x,h1 y,h1 z] 3)) 0 (w.heap.size+1) (some ⟨w.heap.size,0,none⟩) 3 [x,y,z]:=
 ⟨rfl,.inr ⟨w.heap.size,0,rfl,yae,yaf,by simp,λk O=>by
  have:k=0\/k=1\/k=2:=xaa
  rcases this with rfl|rfl|rfl<;>simp⟩⟩
theorem rC(w op len A I C K a b c S X f bc cb aK)(ai:lenB len=false):
  Calls prog 162 #[lK op len A I C K,.slice a S bc,.slice b X cb,.slice c f aK] w λe B=>e=.returned (.slice none 0 0)/\Kept 0 0 w B:=by
 have bV:V (∀w,Calls prog 30 #[h1 len] w λe B=>e=.returned (.bool false)/\B=w):=λw=>by
  have:=gX len w
  rw[ai]at this
  exact this
 clear ai;go_enter func162,ntmps162;go_wp2_with fail;go_quiet ((go_at_call 30;exact Calls.quiet_of_same (bV.o _)))
 go_wp2;go_ret;exact⟨rfl,(((eA 0 0 w _).trans (eA 0 0 _ _)).trans (eH _ _ _ _))⟩
theorem tZ(w op len A I C K a b c)(S X f bc cb aK:Nat)(ai:lenB len=true)
  (aw:eQ op len C (([(S:Int),(X:Int),(f:Int)]).take (cnt op))=false):
  Calls prog 162 #[lK op len A I C K,.slice a S bc,.slice b X cb,.slice c f aK] w λe B=>e=.returned (.slice none 0 0)/\Kept 0 0 w B:=by
 have bV:V (∀w,Calls prog 30 #[h1 len] w λe B=>e=.returned (.bool true)/\B=w):=λw=>by
  have:=gX len w
  rw[ai]at this
  exact this
 have aL:=Cs (w.alloc (fW op len A I C K)) S X f;have u:=aL.prefix (cnt op) (gK op);have ab:=gK op;have aj:V (∀w,Calls prog 54 #[h1 op] w λe B=>e=.returned (h1 (cnt op:Nat))/\B=w):=qq op
 have a2:V (∀m,Calls prog 56 #[lK op len A I C K,h0 (w.heap.size+1) (cnt op) 3] (((w.alloc (fW op len A I C K)).alloc (.cells #[h1 S,h1 X,h1 f] 3)).drewN m)
   λe B=>e=.returned (.bool false)/\Kept 0 0 (((w.alloc (fW op len A I C K)).alloc (.cells #[h1 S,h1 X,h1 f] 3)).drewN m) B):=λm=>by
  have h:=pe _ op len A I C K _ _ _ _ 3 _ (u.keep (eH 0 0 _ m) yaa) rfl
  rw[aw]at h
  have e:(w.alloc (fW op len A I C K)).heap.size=w.heap.size+1:=by simp
  rw[e]at h
  exact h
 clear aL u aw;generalize cnt op=q at aj a2 ab;go_enter func162,ntmps162;go_upto_region 2 with fail;go_cut [30] (λr bb=>r=.bool (!false)/\Kept 0 0 ((w.alloc (fW op len A I C K)).alloc (.cells #[h1 S,h1 X,h1 f] 3)) bb)
 case first=>
  exact xdj
 case rest=>
  obtain⟨rfl,j⟩:=hcut;clear bV aj a2 ab;have aG:V _:=((eA 0 0 w _).trans (eA 0 0 _ _)).trans j;clear j;go_wp2;go_ret;exact⟨rfl,aG.o⟩
