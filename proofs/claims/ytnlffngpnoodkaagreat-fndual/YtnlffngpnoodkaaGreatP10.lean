import Derived.Test.YtnlffngpnoodkaaGreatP09
import Derived.Deep.RegionWith
namespace Go.Proofs.YtnlffngpnoodkaaGreat
set_option maxRecDepth 1000000
set_option maxHeartbeats 0
open Go.RowKit Flt
attribute [local go_sem] ic ib ia
def jz (x y z:Nat):Nat:=if FloatKind.f64.format.order x 0==some .gt then y else z
theorem uL (x y z:Nat)(w:World):Calls Tryz.prog 103 #[.float .f64 x,.float .f64 y,.float .f64 z] w λe w'=>e=.returned (.float .f64 (jz x y z))/\w'=w:=by
 unfold jz
 cases h:(FloatKind.f64.format.order x 0==some .gt)
 all_goals
  go_enter Tryz.func103,Tryz.ntmps103
  go_wp2
  go_ret
  exact⟨rfl,rfl⟩
theorem tN (w:World)(n:Nat)(hn:n<=1000)(g0 o0 c0:Nat)(xs:List Nat)(b0:g0<w.heap.size)(l0:∀x∈xs,x<18446744073709551616)(k0:∀k,k<n->w.cell? ⟨g0,o0+k,none⟩=some (.float .f64 (xs.getD k 0)))(g1 o1 c1:Nat)(ys:List Nat)(b1:g1<w.heap.size)(l1:∀x∈ys,x<18446744073709551616)(k1:∀k,k<n->w.cell? ⟨g1,o1+k,none⟩=some (.float .f64 (ys.getD k 0)))(g2 o2 c2:Nat)(us:List Nat)(b2:g2<w.heap.size)(l2:∀x∈us,x<18446744073709551616)(k2:∀k,k<n->w.cell? ⟨g2,o2+k,none⟩=some (.float .f64 (us.getD k 0))):
  Calls Tryz.prog 102 #[.slice (some ⟨g0,o0,none⟩) n c0,.slice (some ⟨g1,o1,none⟩) n c1,.slice (some ⟨g2,o2,none⟩) n c2,.func (.func 103) #[] #[]] w λe w'=>Made n (λk=>jz (xs.getD k 0) (ys.getD k 0) (us.getD k 0)) w e w':=by
 have hm:=lT n w (by omega)
 have hS:=jD w n (λk=>jz (xs.getD k 0) (ys.getD k 0) (us.getD k 0))
 generalize hw1:w.alloc (.cells (madeCells #[.float .f64 0] n) 29)=w1 at hm hS
 clear hw1
 have C0:Hid (∀k,k<n->w.cell? ⟨g0,o0+k,none⟩=some (.float .f64 (xs.getD k 0))):=k0
 have L0:Hid (∀x∈xs,x<18446744073709551616):=l0
 clear k0 l0
 have C1:Hid (∀k,k<n->w.cell? ⟨g1,o1+k,none⟩=some (.float .f64 (ys.getD k 0))):=k1
 have L1:Hid (∀x∈ys,x<18446744073709551616):=l1
 clear k1 l1
 have C2:Hid (∀k,k<n->w.cell? ⟨g2,o2+k,none⟩=some (.float .f64 (us.getD k 0))):=k2
 have L2:Hid (∀x∈us,x<18446744073709551616):=l2
 clear k2 l2
 go_enter Tryz.func102,Tryz.ntmps102
 go_wp2_with fail
 clear hm
 go_loopw [10,11,17] (λ_ _ i W=>∃k:Nat,k<=n/\i=.int .i64 k/\Making w.heap.size n k (λk=>jz (xs.getD k 0) (ys.getD k 0) (us.getD k 0)) w W) (λ_ _ i _=>n-(intOf i).toNat)
 case atStart=>exact⟨0,Nat.zero_le _,rfl,hS⟩
 case round=>
  obtain⟨k,hk,rfl,hM⟩:=hrel
  clear hS
  by_cases hlt:k<n
  ·obtain⟨v0,m0⟩:=hM.cell hlt
   have m1:=hM.free
   have d0:=il hM.kept b0 (C0.out k hlt)
   have e0:Hid _:=iE L0.out k
   have d1:=il hM.kept b1 (C1.out k hlt)
   have e1:Hid _:=iE L1.out k
   have d2:=il hM.kept b2 (C2.out k hlt)
   have e2:Hid _:=iE L2.out k
   have hq:Hid (∀z,fb z=fb (jz (xs.getD k 0) (ys.getD k 0) (us.getD k 0))->fb z=fb ((λk=>jz (xs.getD k 0) (ys.getD k 0) (us.getD k 0)) k)):=λ_ h=>h
   generalize xs.getD k 0=x at d0 e0 hq
   generalize ys.getD k 0=y at d1 e1 hq
   generalize us.getD k 0=u at d2 e2 hq
   go_wp2_with fail
   have R:Hid (Making w.heap.size n (k+1) (λk=>jz (xs.getD k 0) (ys.getD k 0) (us.getD k 0)) w (wr.setCell ⟨w.heap.size,k,none⟩ (.float .f64 (jz x y u)))):=by
    refine hM.step (Nat.le_refl _) ?_ (hq.out _ rfl) hlt
    unfold jz
    split
    ·exact e1.out
    ·exact e2.out
   clear hM
   go_region_with (go_at_call 103;refine(uL _ _ _ _).mono ?_;rintro e w2 ⟨rfl,rfl⟩)
   all_goals
    go_wp2
    go_roundw
    case rel=>exact⟨k+1,by omega,by go_num,R.out.drawn ⟨1,rfl⟩⟩
    case measure=>simp[intOf];omega
  ·obtain rfl:k=n:=by omega
   go_wp2
   go_ret
   exact hM.done
end Go.Proofs.YtnlffngpnoodkaaGreat
