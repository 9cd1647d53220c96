import Derived.Test.YtcphabjekfihnaaR02
import Derived.Test.YtcphabjekfihnaaP20
namespace Go.Proofs.Ytcphabjekfihnaa
open Go.RowKit Flt
attribute [local go_sem] alloc_drewN setCell_drewN run_store_float

abbrev lbox (op len A B C : Int) (K : Nat) : Obj := .cells #[.int .i64 op, .int .i64 len, .int .i64 A, .int .i64 B, .int .i64 C, .float .f64 K] 37
theorem same_trans {a b c : List Nat} (h : same a b) (k : same c b) : same a c := by unfold same at *; rw [h, k]
theorem box_at (w : World) (op len A B C : Int) (K : Nat) (W : World) (hk : Kept 0 0 (w.alloc (lbox op len A B C K)) W) :
    W.cell? ⟨w.heap.size, 0, none⟩ = some (.int .i64 op) ∧ W.cell? ⟨w.heap.size, 1, none⟩ = some (.int .i64 len) ∧ W.cell? ⟨w.heap.size, 2, none⟩ = some (.int .i64 A) ∧ W.cell? ⟨w.heap.size, 3, none⟩ = some (.int .i64 B) ∧ W.cell? ⟨w.heap.size, 4, none⟩ = some (.int .i64 C) ∧ W.cell? ⟨w.heap.size, 5, none⟩ = some (.float .f64 K) := by
  have h : ∀ i, W.cell? ⟨w.heap.size, i, none⟩ = (w.alloc (lbox op len A B C K)).cell? ⟨w.heap.size, i, none⟩ := fun i => hk.cell (p := ⟨w.heap.size, i, none⟩) (by simp) (by omega)
  refine ⟨?_, ?_, ?_, ?_, ?_, ?_⟩ <;> (rw [h]; simp)

theorem fs_of_row {w w' : World} {g lo hi : Nat} {a : Option Addr} {n : Nat} {xs : List Nat} (r : FR w g xs) (f : FS w' lo hi a n xs) : FS w 0 w.heap.size (some ⟨g, 0, none⟩) n xs := by
  have := r.fs f.lt (Nat.zero_le _) r.lt
  rw [f.len] at this
  exact this
set_option maxRecDepth 100000 in
set_option maxHeartbeats 4000000 in
theorem fnKernel (w : World) (op len A B C : Int) (K : Nat) (hk0 : K < 18446744073709551616) (a b c : Option Addr) (la lb lc ca cb cc : Nat) (xa xb xc : List Nat)
    (fa : FS w 0 w.heap.size a la xa) (fb' : FS w 0 w.heap.size b lb xb) (fc : FS w 0 w.heap.size c lc xc) (ha : la ≤ 1048576) (hb : lb ≤ 1048576) (hc : lc ≤ 1048576) :
    Calls Try.prog 8 #[vagg op len A B C K, .slice a la ca, .slice b lb cb, .slice c lc cc] w fun e w' => e = .returned (.bool true) ∧ Below w.heap.size w w' := by
  have HB : Hid _ := box_at w op len A B C K
  have hK := Kept.refl 0 0 (w.alloc (lbox op len A B C K))
  replace fa := fa.keep (kept_alloc 0 0 w (lbox op len A B C K)) (.inr (.inr (Nat.le_refl _)))
  replace fb' := fb'.keep (kept_alloc 0 0 w (lbox op len A B C K)) (.inr (.inr (Nat.le_refl _)))
  replace fc := fc.keep (kept_alloc 0 0 w (lbox op len A B C K)) (.inr (.inr (Nat.le_refl _)))
  have KK := kern_len_le op len C K xa xb xc
  go_enter Try.func8, Try.ntmps8
  go_wp2_with fail
  refine (toVal _ op len A B C K).mono ?_
  rintro e v1 ⟨rfl, hk⟩
  replace fa := fa.keep hk (.inr (.inr (Nat.le_refl _)))
  replace fb' := fb'.keep hk (.inr (.inr (Nat.le_refl _)))
  replace fc := fc.keep hk (.inr (.inr (Nat.le_refl _)))
  replace hK := hK.trans hk
  clear hk
  go_wp2_with fail
  refine (toF _ _ _ _ _ _ _ fa ha).mono ?_
  rintro e v2 ⟨rfl, ra, hk⟩
  replace fa := fa.keep hk (.inr (.inr (Nat.le_refl _)))
  replace fb' := fb'.keep hk (.inr (.inr (Nat.le_refl _)))
  replace fc := fc.keep hk (.inr (.inr (Nat.le_refl _)))
  replace hK := hK.trans hk
  clear hk
  go_wp2_with fail
  refine (toF _ _ _ _ _ _ _ fb' hb).mono ?_
  rintro e v3 ⟨rfl, rb, hk⟩
  replace fa := fa.keep hk (.inr (.inr (Nat.le_refl _)))
  replace fb' := fb'.keep hk (.inr (.inr (Nat.le_refl _)))
  replace fc := fc.keep hk (.inr (.inr (Nat.le_refl _)))
  replace hK := hK.trans hk
  replace ra := ra.keep hk (.inr (.inr (Nat.le_refl _)))
  clear hk
  go_wp2_with fail
  refine (toF _ _ _ _ _ _ _ fc hc).mono ?_
  rintro e v4 ⟨rfl, rc, hk⟩
  replace fa := fa.keep hk (.inr (.inr (Nat.le_refl _)))
  replace fb' := fb'.keep hk (.inr (.inr (Nat.le_refl _)))
  replace fc := fc.keep hk (.inr (.inr (Nat.le_refl _)))
  replace hK := hK.trans hk
  replace ra := ra.keep hk (.inr (.inr (Nat.le_refl _)))
  replace rb := rb.keep hk (.inr (.inr (Nat.le_refl _)))
  clear hk
  have sa := fs_of_row ra fa
  have sb := fs_of_row rb fb'
  have sc := fs_of_row rc fc
  go_wp2_with fail
  refine (specKernel _ op len A B C K hk0 sa sb sc (Nat.le_refl _)).mono ?_
  rintro e v5 ⟨aw, nw, cw, zw, rfl, fw, hsw, hk⟩
  clear sa sb sc ra rb rc
  replace fa := fa.keep hk (.inr (.inr (Nat.le_refl _)))
  replace fb' := fb'.keep hk (.inr (.inr (Nat.le_refl _)))
  replace fc := fc.keep hk (.inr (.inr (Nat.le_refl _)))
  replace hK := hK.trans hk
  have SZ : Hid (w.heap.size ≤ v5.heap.size ∧ (w.alloc (lbox op len A B C K)).heap.size ≤ v5.heap.size) := ⟨by have := hK.size; simp at this; omega, hK.size⟩
  clear hk
  go_wp2_with fail
  refine (toF _ _ _ _ _ _ _ fa ha).mono ?_
  rintro e v6 ⟨rfl, x1, hk⟩
  replace fa := fa.keep hk (.inr (.inr (Nat.le_refl _)))
  replace fb' := fb'.keep hk (.inr (.inr (Nat.le_refl _)))
  replace fc := fc.keep hk (.inr (.inr (Nat.le_refl _)))
  replace hK := hK.trans hk
  replace fw := fw.keep hk (.inr (.inr (Nat.le_refl _)))
  replace SZ : Hid ((w.heap.size ≤ v5.heap.size ∧ (w.alloc (lbox op len A B C K)).heap.size ≤ v5.heap.size) ∧ v5.heap.size < v6.heap.size) := ⟨SZ.out, x1.lt⟩
  clear hk
  go_wp2_with fail
  refine (toF _ _ _ _ _ _ _ fb' hb).mono ?_
  rintro e v7 ⟨rfl, x2, hk⟩
  replace fa := fa.keep hk (.inr (.inr (Nat.le_refl _)))
  replace fb' := fb'.keep hk (.inr (.inr (Nat.le_refl _)))
  replace fc := fc.keep hk (.inr (.inr (Nat.le_refl _)))
  replace hK := hK.trans hk
  replace fw := fw.keep hk (.inr (.inr (Nat.le_refl _)))
  replace x1 := x1.keep hk (.inr (.inr (Nat.le_refl _)))
  replace SZ : Hid (((w.heap.size ≤ v5.heap.size ∧ (w.alloc (lbox op len A B C K)).heap.size ≤ v5.heap.size) ∧ v5.heap.size < v6.heap.size) ∧ v6.heap.size < v7.heap.size) := ⟨SZ.out, x2.lt⟩
  clear hk
  go_wp2_with fail
  refine (toF _ _ _ _ _ _ _ fc hc).mono ?_
  rintro e v8 ⟨rfl, x3, hk⟩
  replace fa := fa.keep hk (.inr (.inr (Nat.le_refl _)))
  replace fb' := fb'.keep hk (.inr (.inr (Nat.le_refl _)))
  replace fc := fc.keep hk (.inr (.inr (Nat.le_refl _)))
  replace hK := hK.trans hk
  replace fw := fw.keep hk (.inr (.inr (Nat.le_refl _)))
  replace x1 := x1.keep hk (.inr (.inr (Nat.le_refl _)))
  replace x2 := x2.keep hk (.inr (.inr (Nat.le_refl _)))
  replace SZ : Hid ((((w.heap.size ≤ v5.heap.size ∧ (w.alloc (lbox op len A B C K)).heap.size ≤ v5.heap.size) ∧ v5.heap.size < v6.heap.size) ∧ v6.heap.size < v7.heap.size) ∧ v7.heap.size < v8.heap.size) := ⟨SZ.out, x3.lt⟩
  clear hk
  obtain ⟨q0, q1, q2, q3, q4, q5⟩ := HB.out _ hK
  go_wp2_with fail
  refine (toVal _ op len A B C K).mono ?_
  rintro e v9 ⟨rfl, hk⟩
  replace fa := fa.keep hk (.inr (.inr (Nat.le_refl _)))
  replace fb' := fb'.keep hk (.inr (.inr (Nat.le_refl _)))
  replace fc := fc.keep hk (.inr (.inr (Nat.le_refl _)))
  replace hK := hK.trans hk
  replace fw := fw.keep hk (.inr (.inr (Nat.le_refl _)))
  replace x1 := x1.keep hk (.inr (.inr (Nat.le_refl _)))
  replace x2 := x2.keep hk (.inr (.inr (Nat.le_refl _)))
  replace x3 := x3.keep hk (.inr (.inr (Nat.le_refl _)))
  clear hk
  clear q0 q1 q2 q3 q4 q5
  have s1 := fs_of_row x1 fa
  have s2 := fs_of_row x2 fb'
  have s3 := fs_of_row x3 fc
  have Z9 : Hid (v7.heap.size < v9.heap.size) := x3.lt
  go_wp2_with fail
  refine (implKernel _ op len A B C K hk0 s1 s2 s3 (Nat.le_refl _)).mono ?_
  rintro e v10 ⟨ag, ng, cg, zg, rfl, og, hsg, hk⟩
  clear s1 s2 s3
  replace fa := fa.keep hk (.inr (.inr (Nat.le_refl _)))
  replace fb' := fb'.keep hk (.inr (.inr (Nat.le_refl _)))
  replace fc := fc.keep hk (.inr (.inr (Nat.le_refl _)))
  replace hK := hK.trans hk
  replace fw := fw.keep hk (.inr (.inr (Nat.le_refl _)))
  replace x1 := x1.keep hk (.inr (.inr (Nat.le_refl _)))
  replace x2 := x2.keep hk (.inr (.inr (Nat.le_refl _)))
  replace x3 := x3.keep hk (.inr (.inr (Nat.le_refl _)))
  replace SZ : Hid (((((w.heap.size ≤ v5.heap.size ∧ (w.alloc (lbox op len A B C K)).heap.size ≤ v5.heap.size) ∧ v5.heap.size < v6.heap.size) ∧ v6.heap.size < v7.heap.size) ∧ v7.heap.size < v8.heap.size) ∧ v7.heap.size < v9.heap.size) := ⟨SZ.out, Z9.out⟩
  clear Z9 hk
  have hng : ng ≤ 1000 := by have h1 := same_len hsg; have h2 := og.fs.len; omega
  go_wp2_with fail
  refine (eqF _ _ _ _ _ _ _ _ _ _ _ _ _ og.fs fw (same_trans hsg hsw) (by omega)).mono ?_
  rintro e v11 ⟨rfl, hD⟩
  have hk := hD.kept 0 0
  replace fa := fa.keep hk (.inr (.inr (Nat.le_refl _)))
  replace fb' := fb'.keep hk (.inr (.inr (Nat.le_refl _)))
  replace fc := fc.keep hk (.inr (.inr (Nat.le_refl _)))
  replace hK := hK.trans hk
  replace fw := fw.keep hk (.inr (.inr (Nat.le_refl _)))
  replace x1 := x1.keep hk (.inr (.inr (Nat.le_refl _)))
  replace x2 := x2.keep hk (.inr (.inr (Nat.le_refl _)))
  replace x3 := x3.keep hk (.inr (.inr (Nat.le_refl _)))
  replace og := og.keep hk (.inr (Nat.le_refl _))
  clear hk hD
  go_wp2_with fail
  refine (toF _ _ _ _ _ _ _ fa ha).mono ?_
  rintro e v12 ⟨rfl, rt, hk⟩
  replace fa := fa.keep hk (.inr (.inr (Nat.le_refl _)))
  replace fb' := fb'.keep hk (.inr (.inr (Nat.le_refl _)))
  replace fc := fc.keep hk (.inr (.inr (Nat.le_refl _)))
  replace hK := hK.trans hk
  replace fw := fw.keep hk (.inr (.inr (Nat.le_refl _)))
  replace x1 := x1.keep hk (.inr (.inr (Nat.le_refl _)))
  replace x2 := x2.keep hk (.inr (.inr (Nat.le_refl _)))
  replace x3 := x3.keep hk (.inr (.inr (Nat.le_refl _)))
  replace og := og.keep hk (.inr (Nat.le_refl _))
  clear hk
  have sx := fs_of_row x1 fa
  have st := fs_of_row rt fa
  go_wp2_with fail
  refine (eqF _ _ _ _ _ _ _ _ _ _ _ _ _ sx st rfl (by omega)).mono ?_
  rintro e v13 ⟨rfl, hD⟩
  have hk := hD.kept 0 0
  replace fa := fa.keep hk (.inr (.inr (Nat.le_refl _)))
  replace fb' := fb'.keep hk (.inr (.inr (Nat.le_refl _)))
  replace fc := fc.keep hk (.inr (.inr (Nat.le_refl _)))
  replace hK := hK.trans hk
  replace fw := fw.keep hk (.inr (.inr (Nat.le_refl _)))
  replace x1 := x1.keep hk (.inr (.inr (Nat.le_refl _)))
  replace x2 := x2.keep hk (.inr (.inr (Nat.le_refl _)))
  replace x3 := x3.keep hk (.inr (.inr (Nat.le_refl _)))
  replace og := og.keep hk (.inr (Nat.le_refl _))
  replace rt := rt.keep hk (.inr (.inr (Nat.le_refl _)))
  clear hk hD
  clear sx st rt
  go_wp2_with fail
  refine (toF _ _ _ _ _ _ _ fb' hb).mono ?_
  rintro e v14 ⟨rfl, rt, hk⟩
  replace fa := fa.keep hk (.inr (.inr (Nat.le_refl _)))
  replace fb' := fb'.keep hk (.inr (.inr (Nat.le_refl _)))
  replace fc := fc.keep hk (.inr (.inr (Nat.le_refl _)))
  replace hK := hK.trans hk
  replace fw := fw.keep hk (.inr (.inr (Nat.le_refl _)))
  replace x1 := x1.keep hk (.inr (.inr (Nat.le_refl _)))
  replace x2 := x2.keep hk (.inr (.inr (Nat.le_refl _)))
  replace x3 := x3.keep hk (.inr (.inr (Nat.le_refl _)))
  replace og := og.keep hk (.inr (Nat.le_refl _))
  clear hk
  have sx := fs_of_row x2 fb'
  have st := fs_of_row rt fb'
  go_wp2_with fail
  refine (eqF _ _ _ _ _ _ _ _ _ _ _ _ _ sx st rfl (by omega)).mono ?_
  rintro e v15 ⟨rfl, hD⟩
  have hk := hD.kept 0 0
  replace fa := fa.keep hk (.inr (.inr (Nat.le_refl _)))
  replace fb' := fb'.keep hk (.inr (.inr (Nat.le_refl _)))
  replace fc := fc.keep hk (.inr (.inr (Nat.le_refl _)))
  replace hK := hK.trans hk
  replace fw := fw.keep hk (.inr (.inr (Nat.le_refl _)))
  replace x1 := x1.keep hk (.inr (.inr (Nat.le_refl _)))
  replace x2 := x2.keep hk (.inr (.inr (Nat.le_refl _)))
  replace x3 := x3.keep hk (.inr (.inr (Nat.le_refl _)))
  replace og := og.keep hk (.inr (Nat.le_refl _))
  replace rt := rt.keep hk (.inr (.inr (Nat.le_refl _)))
  clear hk hD
  clear sx st rt
  go_wp2_with fail
  refine (toF _ _ _ _ _ _ _ fc hc).mono ?_
  rintro e v16 ⟨rfl, rt, hk⟩
  replace fa := fa.keep hk (.inr (.inr (Nat.le_refl _)))
  replace fb' := fb'.keep hk (.inr (.inr (Nat.le_refl _)))
  replace fc := fc.keep hk (.inr (.inr (Nat.le_refl _)))
  replace hK := hK.trans hk
  replace fw := fw.keep hk (.inr (.inr (Nat.le_refl _)))
  replace x1 := x1.keep hk (.inr (.inr (Nat.le_refl _)))
  replace x2 := x2.keep hk (.inr (.inr (Nat.le_refl _)))
  replace x3 := x3.keep hk (.inr (.inr (Nat.le_refl _)))
  replace og := og.keep hk (.inr (Nat.le_refl _))
  clear hk
  have sx := fs_of_row x3 fc
  have st := fs_of_row rt fc
  go_wp2_with fail
  refine (eqF _ _ _ _ _ _ _ _ _ _ _ _ _ sx st rfl (by omega)).mono ?_
  rintro e v17 ⟨rfl, hD⟩
  have hk := hD.kept 0 0
  replace fa := fa.keep hk (.inr (.inr (Nat.le_refl _)))
  replace fb' := fb'.keep hk (.inr (.inr (Nat.le_refl _)))
  replace fc := fc.keep hk (.inr (.inr (Nat.le_refl _)))
  replace hK := hK.trans hk
  replace fw := fw.keep hk (.inr (.inr (Nat.le_refl _)))
  replace x1 := x1.keep hk (.inr (.inr (Nat.le_refl _)))
  replace x2 := x2.keep hk (.inr (.inr (Nat.le_refl _)))
  replace x3 := x3.keep hk (.inr (.inr (Nat.le_refl _)))
  replace og := og.keep hk (.inr (Nat.le_refl _))
  replace rt := rt.keep hk (.inr (.inr (Nat.le_refl _)))
  clear hk hD
  clear sx st rt
  go_wp2_with fail
  refine (markF_pos _ _ _ _ _ _ x1 fa.len (by omega) (by omega) (by omega)).mono ?_
  rintro e v18 ⟨rfl, mm, hk⟩
  replace fa := fa.keep hk (.inl (by have := SZ.out; omega))
  replace fb' := fb'.keep hk (.inl (by have := SZ.out; omega))
  replace fc := fc.keep hk (.inl (by have := SZ.out; omega))
  replace hK := hK.new hk (by have := SZ.out; omega)
  replace fw := fw.keep hk (.inl (by have := SZ.out; omega))
  replace x2 := x2.keep hk (by have := SZ.out; omega)
  replace x3 := x3.keep hk (by have := SZ.out; omega)
  replace og := og.keep hk (by have := SZ.out; omega)
  clear hk mm x1
  go_wp2_with fail
  refine (markF_pos _ _ _ _ _ _ x2 fb'.len (by omega) (by omega) (by omega)).mono ?_
  rintro e v19 ⟨rfl, mm, hk⟩
  replace fa := fa.keep hk (.inl (by have := SZ.out; omega))
  replace fb' := fb'.keep hk (.inl (by have := SZ.out; omega))
  replace fc := fc.keep hk (.inl (by have := SZ.out; omega))
  replace hK := hK.new hk (by have := SZ.out; omega)
  replace fw := fw.keep hk (.inl (by have := SZ.out; omega))
  replace x3 := x3.keep hk (by have := SZ.out; omega)
  replace og := og.keep hk (by have := SZ.out; omega)
  clear hk mm x2
  go_wp2_with fail
  refine (markF_pos _ _ _ _ _ _ x3 fc.len (by omega) (by omega) (by omega)).mono ?_
  rintro e v20 ⟨rfl, mm, hk⟩
  replace fa := fa.keep hk (.inl (by have := SZ.out; omega))
  replace fb' := fb'.keep hk (.inl (by have := SZ.out; omega))
  replace fc := fc.keep hk (.inl (by have := SZ.out; omega))
  replace hK := hK.new hk (by have := SZ.out; omega)
  replace fw := fw.keep hk (.inl (by have := SZ.out; omega))
  replace og := og.keep hk (by have := SZ.out; omega)
  clear hk mm x3
  go_wp2_with fail
  refine (eqF _ _ _ _ _ _ _ _ _ _ _ _ _ og.fs fw (same_trans hsg hsw) (by omega)).mono ?_
  rintro e v21 ⟨rfl, hD⟩
  have hk := hD.kept 0 0
  replace fa := fa.keep hk (.inr (.inr (Nat.le_refl _)))
  replace fb' := fb'.keep hk (.inr (.inr (Nat.le_refl _)))
  replace fc := fc.keep hk (.inr (.inr (Nat.le_refl _)))
  replace hK := hK.trans hk
  replace fw := fw.keep hk (.inr (.inr (Nat.le_refl _)))
  replace og := og.keep hk (.inr (Nat.le_refl _))
  clear hk hD
  go_wp2_with fail
  refine (markO _ _ _ _ _ _ _ og (by omega) (by omega) (by omega)).mono ?_
  rintro e v22 ⟨rfl, og2, hk⟩
  replace fa := fa.keep hk (.inl (by have := SZ.out; omega))
  replace fb' := fb'.keep hk (.inl (by have := SZ.out; omega))
  replace fc := fc.keep hk (.inl (by have := SZ.out; omega))
  replace hK := hK.new hk (by have := SZ.out; omega)
  replace fw := fw.keep hk (.inl (by have := SZ.out; omega))
  clear hk og
  go_wp2_with fail
  refine (heldO _ _ _ _ _ _ og2 (by omega) (by omega) (by omega)).mono ?_
  rintro e v23 ⟨rfl, rfl⟩
  clear og2
  obtain ⟨q0, q1, q2, q3, q4, q5⟩ := HB.out _ hK
  go_wp2_with fail
  refine (toVal _ op len A B C K).mono ?_
  rintro e v24 ⟨rfl, hk⟩
  replace fa := fa.keep hk (.inr (.inr (Nat.le_refl _)))
  replace fb' := fb'.keep hk (.inr (.inr (Nat.le_refl _)))
  replace fc := fc.keep hk (.inr (.inr (Nat.le_refl _)))
  replace hK := hK.trans hk
  replace fw := fw.keep hk (.inr (.inr (Nat.le_refl _)))
  clear hk
  clear q0 q1 q2 q3 q4 q5
  go_wp2_with fail
  refine (toF _ _ _ _ _ _ _ fa ha).mono ?_
  rintro e v25 ⟨rfl, ra, hk⟩
  replace fa := fa.keep hk (.inr (.inr (Nat.le_refl _)))
  replace fb' := fb'.keep hk (.inr (.inr (Nat.le_refl _)))
  replace fc := fc.keep hk (.inr (.inr (Nat.le_refl _)))
  replace hK := hK.trans hk
  replace fw := fw.keep hk (.inr (.inr (Nat.le_refl _)))
  clear hk
  go_wp2_with fail
  refine (toF _ _ _ _ _ _ _ fb' hb).mono ?_
  rintro e v26 ⟨rfl, rb, hk⟩
  replace fa := fa.keep hk (.inr (.inr (Nat.le_refl _)))
  replace fb' := fb'.keep hk (.inr (.inr (Nat.le_refl _)))
  replace fc := fc.keep hk (.inr (.inr (Nat.le_refl _)))
  replace hK := hK.trans hk
  replace fw := fw.keep hk (.inr (.inr (Nat.le_refl _)))
  replace ra := ra.keep hk (.inr (.inr (Nat.le_refl _)))
  clear hk
  go_wp2_with fail
  refine (toF _ _ _ _ _ _ _ fc hc).mono ?_
  rintro e v27 ⟨rfl, rc, hk⟩
  replace fa := fa.keep hk (.inr (.inr (Nat.le_refl _)))
  replace fb' := fb'.keep hk (.inr (.inr (Nat.le_refl _)))
  replace fc := fc.keep hk (.inr (.inr (Nat.le_refl _)))
  replace hK := hK.trans hk
  replace fw := fw.keep hk (.inr (.inr (Nat.le_refl _)))
  replace ra := ra.keep hk (.inr (.inr (Nat.le_refl _)))
  replace rb := rb.keep hk (.inr (.inr (Nat.le_refl _)))
  clear hk
  have sa := fs_of_row ra fa
  have sb := fs_of_row rb fb'
  have sc := fs_of_row rc fc
  go_wp2_with fail
  refine (implKernel _ op len A B C K hk0 sa sb sc (Nat.le_refl _)).mono ?_
  rintro e v28 ⟨ah, nh, ch, zh, rfl, oh, hsh, hk⟩
  clear sa sb sc ra rb rc
  replace fa := fa.keep hk (.inr (.inr (Nat.le_refl _)))
  replace fb' := fb'.keep hk (.inr (.inr (Nat.le_refl _)))
  replace fc := fc.keep hk (.inr (.inr (Nat.le_refl _)))
  replace hK := hK.trans hk
  replace fw := fw.keep hk (.inr (.inr (Nat.le_refl _)))
  clear hk
  have hnh : nh ≤ 1000 := by have h1 := same_len hsh; have h2 := oh.fs.len; omega
  go_wp2_with fail
  refine (eqF _ _ _ _ _ _ _ _ _ _ _ _ _ oh.fs fw (same_trans hsh hsw) (by omega)).mono ?_
  rintro e v29 ⟨rfl, hD⟩
  have hk := hD.kept 0 0
  replace fa := fa.keep hk (.inr (.inr (Nat.le_refl _)))
  replace fb' := fb'.keep hk (.inr (.inr (Nat.le_refl _)))
  replace fc := fc.keep hk (.inr (.inr (Nat.le_refl _)))
  replace hK := hK.trans hk
  replace fw := fw.keep hk (.inr (.inr (Nat.le_refl _)))
  replace oh := oh.keep hk (.inr (Nat.le_refl _))
  clear hk hD
  have hF := ((kept_alloc 0 0 w _).trans hK).below
  go_wp2
  go_ret
  exact ⟨rfl, hF⟩
end Go.Proofs.Ytcphabjekfihnaa

namespace Go.Proofs.Ytcphabjekfihnaa
open Go.ChangeShapes Go.WideShapes Go.ChangeAt Go.RowKit Flt

set_option maxRecDepth 100000 in
set_option maxHeartbeats 1000000 in
theorem fnKernel_long (w : World) (op len A B C : Int) (K : Nat) (a b c : Option Addr) (la lb lc ca cb cc : Nat) (h : ¬ (la ≤ 1048576 ∧ lb ≤ 1048576 ∧ lc ≤ 1048576)) :
    Calls Try.prog 8 #[vagg op len A B C K, .slice a la ca, .slice b lb cb, .slice c lc cc] w fun e w' => e = .returned (.bool true) ∧ Below w.heap.size w w' := by
  by_cases h1 : la ≤ 1048576
  · by_cases h2 : lb ≤ 1048576
    · have h3 : 1048576 < lc := by omega
      clear h
      go_enter Try.func8, Try.ntmps8
      go_wp2
      go_ret
      exact ⟨rfl, (Below.refl _ _).alloc (Nat.le_refl _) _⟩
    · have h3 : 1048576 < lb := by omega
      clear h h2
      go_enter Try.func8, Try.ntmps8
      go_wp2
      go_ret
      exact ⟨rfl, (Below.refl _ _).alloc (Nat.le_refl _) _⟩
  · have h3 : 1048576 < la := by omega
    clear h h1
    go_enter Try.func8, Try.ntmps8
    go_wp2
    go_ret
    exact ⟨rfl, (Below.refl _ _).alloc (Nat.le_refl _) _⟩

namespace PKernel
set_option maxRecDepth 100000 in
theorem lifted (os : Os) (started : os.Started) (H : Type) (enc : TypeId × Value → H) :
    ReturnsInHanded {} Try.checked os 8 .any (Rows.fnExactKernelSpec.pre6 enc Try.prog Try.f8 Rows.fnExactKernelRow.domain false) (Rows.fnExactKernelSpec.post enc Try.prog Try.f8 false true false false) := by
  refine returnsInHanded_of_change (C := Try.checked) own started (by kernel_rfl) Try.func8
    (ChangeSpec.witness6 (enc := enc) (C := Try.checked) false ⟨#[], #[.agg #[.int .i64 0, .int .i64 0, .int .i64 0, .int .i64 0, .int .i64 0, .float .f64 0], .slice none 0 0, .slice none 0 0, .slice none 0 0], []⟩ 8 (by kernel_rfl) (by kernel_rfl) (by kernel_rfl) (by kernel_rfl)) ?_
  intro W base args ds gs before hval0 hW hcnd _
  have hval : ∀ (j : Nat) t v, Try.f8.params[j]? = some t → args[j]? = some v → Value.okWide Try.prog W .any base t v := hval0
  have hW' := hW
  obtain ⟨p, q, hA0, hV, rfl, hfz, hnd⟩ := hW
  have hA : DataW.TrodAll enc Try.prog W 0 (fun _ => true) true Try.f8.params.toList args.toList ds p := hA0
  rw [Try.params8] at hA hval
  obtain ⟨v0, vs0, d0, ds0, p0, q0, hargs, rfl, rfl, h0, r0⟩ := trodAll_cons hA
  obtain ⟨v1, vs1, d1, ds1, p1, q1, rfl, rfl, rfl, h1, r1⟩ := trodAll_cons r0
  obtain ⟨v2, vs2, d2, ds2, p2, q2, rfl, rfl, rfl, h2, r2⟩ := trodAll_cons r1
  obtain ⟨v3, vs3, d3, ds3, p3, q3, rfl, rfl, rfl, h3, r3⟩ := trodAll_cons r2
  obtain ⟨rfl, rfl, rfl⟩ := trodAll_nil r3
  obtain rfl : args = #[v0, v1, v2, v3] := by cases args; simp_all
  obtain ⟨rfl, rfl⟩ := trodVars_none hV
  have lt0 : ∀ x ∈ p0, x.block < W.heap.size := by obtain ⟨m, hm⟩ := h0; exact DataW.trod_lt m _ _ _ hm
  have lt1 : ∀ x ∈ p1, x.block < W.heap.size := by obtain ⟨m, hm⟩ := h1; exact DataW.trod_lt m _ _ _ hm
  have lt2 : ∀ x ∈ p2, x.block < W.heap.size := by obtain ⟨m, hm⟩ := h2; exact DataW.trod_lt m _ _ _ hm
  have lt3 : ∀ x ∈ p3, x.block < W.heap.size := by obtain ⟨m, hm⟩ := h3; exact DataW.trod_lt m _ _ _ hm
  obtain ⟨op, len, A, B, C, K, rfl, hK⟩ := open_val (hval 0 37 v0 rfl rfl) h0
  obtain ⟨a, la, ca, rfl⟩ := okWide_slice Try.underlying38 (hval 1 38 v1 rfl rfl)
  obtain ⟨b, lb, cb, rfl⟩ := okWide_slice Try.underlying38 (hval 2 38 v2 rfl rfl)
  obtain ⟨c, lc, cc, rfl⟩ := okWide_slice Try.underlying38 (hval 3 38 v3 rfl rfl)
  obtain ⟨_, xa, fa⟩ := open_floats h1
  obtain ⟨_, xb, fb'⟩ := open_floats h2
  obtain ⟨_, xc, fc⟩ := open_floats h3
  clear hA0 hval0
  have walk : Calls Try.prog 8 #[vagg op len A B C K, .slice a la ca, .slice b lb cb, .slice c lc cc] W fun e w' => e = .returned (.bool true) ∧ Below W.heap.size W w' := by
    by_cases hl : la ≤ 1048576 ∧ lb ≤ 1048576 ∧ lc ≤ 1048576
    · exact fnKernel W op len A B C K hK a b c la lb lc ca cb cc xa xb xc fa fb' fc hl.1 hl.2.1 hl.2.2
    · exact fnKernel_long W op len A B C K a b c la lb lc ca cb cc hl
  refine walk.mono fun e W' ⟨he, bel⟩ => ?_
  subst he
  exact ⟨_, rfl, _, _, _, [], _, [], hW', trodAll_mk1 (shut_bool Try.underlying4 _), (trodAll_cons_mk (Below.trod laidOut (by kernel_rfl) (of_decide_eq_true (by kernel_rfl)) h0 bel lt0) (trodAll_cons_mk (Below.trod laidOut (by kernel_rfl) (of_decide_eq_true (by kernel_rfl)) h1 bel lt1) (trodAll_cons_mk (Below.trod laidOut (by kernel_rfl) (of_decide_eq_true (by kernel_rfl)) h2 bel lt2) (trodAll_cons_mk (Below.trod laidOut (by kernel_rfl) (of_decide_eq_true (by kernel_rfl)) h3 bel lt3) trodAll_mk0)))), rfl, bel.frame _, fun h => by cases h⟩
end PKernel

theorem fnExactKernel_holds : Rows.FnExactKernelSaid :=
  OpenClaim.holds_of_wide 8 Try.f8 rfl rfl rfl rfl rfl rfl rfl ⟨rfl, rfl, rfl, rfl, rfl⟩ rfl rfl rfl rfl rfl (by kernel_rfl) Try.func8 (by kernel_rfl)
    (of_decide_eq_true (by kernel_rfl)) (by unfold Func.isWrapper; first | (rw [if_pos (by decide +kernel)]; kernel_rfl) | (rw [if_neg (by decide +kernel)]; exact ⟨rfl, rfl⟩))
    (fun os started H enc _ => PKernel.lifted os started H enc)
#print axioms fnExactKernel_holds
end Go.Proofs.Ytcphabjekfihnaa
