/-
  Drawn triangles and rays: what is drawn is told by the reader's bytes alone.
-/
import Derived.Test.YtfcnokagfibgcahGreatDrawBToBdA
import Derived.Deep.CutRange
namespace Go.Proofs.YtfcnokagfibgcahGreat
open Go.RowKit

theorem xor_range (a b : Int) : 0 ≤ bits .xor .u32 a b ∧ bits .xor .u32 a b < 4294967296 := by
  show 0 ≤ IntKind.u32.wrap _ ∧ IntKind.u32.wrap _ < 4294967296
  simp only [IntKind.wrap, IntKind.bits, IntKind.signed]
  simp
  omega
theorem getD_range {l : List Int} (h : ∀ z, z ∈ l → 0 ≤ z ∧ z < 4294967296) (n : Nat) : 0 ≤ l.getD n 0 ∧ l.getD n 0 < 4294967296 := U32.at h n
theorem l2b_range (wild : Bool) (rs : List Int) : 0 ≤ (l2bF wild rs).1 ∧ (l2bF wild rs).1 < 4294967296 := by
  have h1 : ∀ z, z ∈ smallU → 0 ≤ z ∧ z < 4294967296 := by decide
  have h2 : ∀ z, z ∈ oddU → 0 ≤ z ∧ z < 4294967296 := by decide
  unfold l2bF
  split
  · exact getD_range h1 _
  · split
    · exact getD_range h2 _
    · split
      · exact getD_range h2 _
      · simp only []
        split
        · exact xor_range _ _
        · exact xor_range _ _

/-- A point that is drawn. -/
structure PtD (wild : Bool) (rs : List Int) (x y z : Int) (rs' : List Int) : Prop where
  xr : 0 ≤ x ∧ x < 4294967296
  yr : 0 ≤ y ∧ y < 4294967296
  zr : 0 ≤ z ∧ z < 4294967296
  tells : ∀ P w, Rs P rs w → Calls Tryz.prog 155 #[.pointer (some ⟨P, 0, none⟩), .bool wild] w fun e w' => Drew P (.agg #[.int .u32 x, .int .u32 y, .int .u32 z]) rs' w e w'
theorem ptD (wild : Bool) (rs : List Int) : ∃ x y z rs', PtD wild rs x y z rs' :=
  ⟨_, _, _, _, l2b_range _ _, l2b_range _ _, l2b_range _ _, fun P w h => drawPt wild rs P w h⟩

structure TriD (wild : Bool) (rs : List Int) (x0 x1 x2 x3 x4 x5 x6 x7 x8 : Int) (rs' : List Int) : Prop where
  r : U32 [x0, x1, x2, x3, x4, x5, x6, x7, x8]
  tells : ∀ P w, Rs P rs w → Calls Tryz.prog 126 #[.pointer (some ⟨P, 0, none⟩), .bool wild] w fun e w' => Drew P (.agg #[.int .u32 x0, .int .u32 x1, .int .u32 x2, .int .u32 x3, .int .u32 x4, .int .u32 x5, .int .u32 x6, .int .u32 x7, .int .u32 x8]) rs' w e w'
structure RayD (wild : Bool) (rs : List Int) (x0 x1 x2 x3 x4 x5 : Int) (rs' : List Int) : Prop where
  r : U32 [x0, x1, x2, x3, x4, x5]
  tells : ∀ P w, Rs P rs w → Calls Tryz.prog 127 #[.pointer (some ⟨P, 0, none⟩), .bool wild] w fun e w' => Drew P (.agg #[.int .u32 x0, .int .u32 x1, .int .u32 x2, .int .u32 x3, .int .u32 x4, .int .u32 x5]) rs' w e w'

theorem u32_9 {x0 x1 x2 x3 x4 x5 x6 x7 x8 : Int} (h0 : 0 ≤ x0 ∧ x0 < 4294967296) (h1 : 0 ≤ x1 ∧ x1 < 4294967296) (h2 : 0 ≤ x2 ∧ x2 < 4294967296) (h3 : 0 ≤ x3 ∧ x3 < 4294967296) (h4 : 0 ≤ x4 ∧ x4 < 4294967296) (h5 : 0 ≤ x5 ∧ x5 < 4294967296) (h6 : 0 ≤ x6 ∧ x6 < 4294967296) (h7 : 0 ≤ x7 ∧ x7 < 4294967296) (h8 : 0 ≤ x8 ∧ x8 < 4294967296) : U32 [x0, x1, x2, x3, x4, x5, x6, x7, x8] := by
  intro z hz
  simp at hz
  rcases hz with rfl | rfl | rfl | rfl | rfl | rfl | rfl | rfl | rfl <;> assumption
theorem u32_6 {x0 x1 x2 x3 x4 x5 : Int} (h0 : 0 ≤ x0 ∧ x0 < 4294967296) (h1 : 0 ≤ x1 ∧ x1 < 4294967296) (h2 : 0 ≤ x2 ∧ x2 < 4294967296) (h3 : 0 ≤ x3 ∧ x3 < 4294967296) (h4 : 0 ≤ x4 ∧ x4 < 4294967296) (h5 : 0 ≤ x5 ∧ x5 < 4294967296) : U32 [x0, x1, x2, x3, x4, x5] := by
  intro z hz
  simp at hz
  rcases hz with rfl | rfl | rfl | rfl | rfl | rfl <;> assumption

set_option maxRecDepth 100000 in
set_option maxHeartbeats 4000000 in
theorem triD (wild : Bool) (rs : List Int) : ∃ x0 x1 x2 x3 x4 x5 x6 x7 x8 rs', TriD wild rs x0 x1 x2 x3 x4 x5 x6 x7 x8 rs' := by
  obtain ⟨a0, a1, a2, rs1, hA⟩ := ptD wild rs.tail
  obtain ⟨b0, b1, b2, rs2, hB⟩ := ptD wild rs1
  obtain ⟨c0, c1, c2, rs3, hC⟩ := ptD wild rs2
  have HA : Hid (PtD wild rs.tail a0 a1 a2 rs1) := hA
  have HB : Hid (PtD wild rs1 b0 b1 b2 rs2) := hB
  have HC : Hid (PtD wild rs2 c0 c1 c2 rs3) := hC
  have xa := hA.xr
  have ya := hA.yr
  have za := hA.zr
  have xb := hB.xr
  have yb := hB.yr
  have zb := hB.zr
  have xc := hC.xr
  have yc := hC.yr
  have zc := hC.zr
  clear hA hB hC
  obtain ⟨kk, hkk⟩ : ∃ k, k = rs.headD 0 := ⟨_, rfl⟩
  have HK : Hid (rs.headD 0 = kk) := hkk.symm
  clear hkk
  by_cases h16 : kk % 16 = 0
  · refine ⟨a0, a1, a2, b0, b1, b2, a0, a1, a2, rs3, u32_9 xa ya za xb yb zb xa ya za, ?_⟩
    have e1 : (kk % 16 == 0) = true := by rw [beq_iff_eq]; exact h16
    have e2 : (kk % 4 == 1) = false := by rw [beq_eq_false_iff_ne]; omega
    intro P w h
    have hP := h.lt
    have HS : Hid (Rs P rs w) := h
    clear h
    go_enter Tryz.func126, Tryz.ntmps126
    go_wp2_with fail
    refine (nextF_any P rs _ (HS.out.later (bel0 _ _))).mono ?_
    rintro e w1 ⟨rfl, hk0, hk1, hr, ha⟩
    rw [HK.out] at hk0 hk1 ⊢
    have O1 : Hid (Own .u32 w1 w.heap.size 0 [0, 0, 0, 0, 0, 0, 0, 0, 0]) := own_asideP (own_lit w [0, 0, 0, 0, 0, 0, 0, 0, 0] _ _ rfl) ha (by omega)
    have H1 : Hid (Rs P rs.tail w1 ∧ Aside P w w1) := ⟨hr, (Aside.of (bel0 _ _)).trans ha⟩
    have hm16 : kk.tmod 16 = kk % 16 := Int.tmod_eq_emod_of_nonneg hk0
    have hm4 : kk.tmod 4 = kk % 4 := Int.tmod_eq_emod_of_nonneg hk0
    have z1 := O1.out.lt
    clear hr ha
    go_wp2_with fail
    refine (HA.out.tells P w1 H1.out.1).mono ?_
    rintro e w2 ⟨rfl, hr, ha⟩
    have OA0 : Own .u32 (w2.alloc (.cells #[.int .u32 a0, .int .u32 a1, .int .u32 a2] 26)) w2.heap.size 0 [a0, a1, a2] := own_lit w2 [a0, a1, a2] _ _ rfl
    obtain ⟨W2, hW2⟩ : ∃ W, W = w2.alloc (.cells #[.int .u32 a0, .int .u32 a1, .int .u32 a2] 26) := ⟨_, rfl⟩
    rw [← hW2] at OA0
    have bW : Below w2.heap.size w2 W2 := by rw [hW2]; exact bel0 _ _
    have X2 : Hid (Own .u32 W2 w.heap.size 0 [0, 0, 0, 0, 0, 0, 0, 0, 0] ∧ Own .u32 W2 w2.heap.size 0 [a0, a1, a2]) := ⟨(own_asideP O1.out ha (by omega)).later bW, OA0⟩
    have H2 : Hid (Rs P rs1 W2 ∧ Aside P w W2) := ⟨hr.later bW, (H1.out.2.trans ha).trans (Aside.of bW)⟩
    have z2 : w.heap.size < w2.heap.size := by have := ha.size; omega
    clear hr ha OA0 bW O1 H1
    go_wp2_with fail
    rw [← hW2]
    clear hW2
    refine (HB.out.tells P W2 H2.out.1).mono ?_
    rintro e w3 ⟨rfl, hr, ha⟩
    have OB0 : Own .u32 (w3.alloc (.cells #[.int .u32 b0, .int .u32 b1, .int .u32 b2] 26)) w3.heap.size 0 [b0, b1, b2] := own_lit w3 [b0, b1, b2] _ _ rfl
    obtain ⟨W3, hW3⟩ : ∃ W, W = w3.alloc (.cells #[.int .u32 b0, .int .u32 b1, .int .u32 b2] 26) := ⟨_, rfl⟩
    rw [← hW3] at OB0
    have bW : Below w3.heap.size w3 W3 := by rw [hW3]; exact bel0 _ _
    have X3 : Hid (Own .u32 W3 w.heap.size 0 [0, 0, 0, 0, 0, 0, 0, 0, 0] ∧ Own .u32 W3 w2.heap.size 0 [a0, a1, a2] ∧ Own .u32 W3 w3.heap.size 0 [b0, b1, b2]) := ⟨(own_asideP X2.out.1 ha (by omega)).later bW, (own_asideP X2.out.2 ha (by omega)).later bW, OB0⟩
    have H3 : Hid (Rs P rs2 W3 ∧ Aside P w W3) := ⟨hr.later bW, (H2.out.2.trans ha).trans (Aside.of bW)⟩
    have z3 : w2.heap.size < w3.heap.size := by have := ha.size; have := X2.out.2.lt; omega
    clear hr ha OB0 bW X2 H2
    go_wp2_with fail
    rw [← hW3]
    clear hW3
    refine (HC.out.tells P W3 H3.out.1).mono ?_
    rintro e w4 ⟨rfl, hr, ha⟩
    have OC0 : Own .u32 (w4.alloc (.cells #[.int .u32 c0, .int .u32 c1, .int .u32 c2] 26)) w4.heap.size 0 [c0, c1, c2] := own_lit w4 [c0, c1, c2] _ _ rfl
    obtain ⟨W4, hW4⟩ : ∃ W, W = w4.alloc (.cells #[.int .u32 c0, .int .u32 c1, .int .u32 c2] 26) := ⟨_, rfl⟩
    rw [← hW4] at OC0
    have bW : Below w4.heap.size w4 W4 := by rw [hW4]; exact bel0 _ _
    have X4 : Hid (Own .u32 W4 w.heap.size 0 [0, 0, 0, 0, 0, 0, 0, 0, 0] ∧ Own .u32 W4 w2.heap.size 0 [a0, a1, a2] ∧ Own .u32 W4 w3.heap.size 0 [b0, b1, b2] ∧ Own .u32 W4 w4.heap.size 0 [c0, c1, c2]) := ⟨(own_asideP X3.out.1 ha (by omega)).later bW, (own_asideP X3.out.2.1 ha (by omega)).later bW, (own_asideP X3.out.2.2 ha (by omega)).later bW, OC0⟩
    have H4 : Hid (Rs P rs3 W4 ∧ Aside P w W4) := ⟨hr.later bW, (H3.out.2.trans ha).trans (Aside.of bW)⟩
    have z4 : w3.heap.size < w4.heap.size := by have := ha.size; have := X3.out.2.2.lt; omega
    clear hr ha OC0 bW X3 H3
    go_upto_region 5 with fail
    rw [← hW4]
    clear hW4
    have r0 : W4.cell? ⟨w.heap.size, 0, none⟩ = some (.int .u32 0) := X4.out.1.cell 0 (by simp)
    have rf0 : W4.frozen? ⟨w.heap.size, 0, none⟩ = false := X4.out.1.free 0 (by simp)
    have r1 : W4.cell? ⟨w.heap.size, 1, none⟩ = some (.int .u32 0) := X4.out.1.cell 1 (by simp)
    have rf1 : W4.frozen? ⟨w.heap.size, 1, none⟩ = false := X4.out.1.free 1 (by simp)
    have r2 : W4.cell? ⟨w.heap.size, 2, none⟩ = some (.int .u32 0) := X4.out.1.cell 2 (by simp)
    have rf2 : W4.frozen? ⟨w.heap.size, 2, none⟩ = false := X4.out.1.free 2 (by simp)
    have r3 : W4.cell? ⟨w.heap.size, 3, none⟩ = some (.int .u32 0) := X4.out.1.cell 3 (by simp)
    have rf3 : W4.frozen? ⟨w.heap.size, 3, none⟩ = false := X4.out.1.free 3 (by simp)
    have r4 : W4.cell? ⟨w.heap.size, 4, none⟩ = some (.int .u32 0) := X4.out.1.cell 4 (by simp)
    have rf4 : W4.frozen? ⟨w.heap.size, 4, none⟩ = false := X4.out.1.free 4 (by simp)
    have r5 : W4.cell? ⟨w.heap.size, 5, none⟩ = some (.int .u32 0) := X4.out.1.cell 5 (by simp)
    have rf5 : W4.frozen? ⟨w.heap.size, 5, none⟩ = false := X4.out.1.free 5 (by simp)
    have r6 : W4.cell? ⟨w.heap.size, 6, none⟩ = some (.int .u32 0) := X4.out.1.cell 6 (by simp)
    have rf6 : W4.frozen? ⟨w.heap.size, 6, none⟩ = false := X4.out.1.free 6 (by simp)
    have r7 : W4.cell? ⟨w.heap.size, 7, none⟩ = some (.int .u32 0) := X4.out.1.cell 7 (by simp)
    have rf7 : W4.frozen? ⟨w.heap.size, 7, none⟩ = false := X4.out.1.free 7 (by simp)
    have r8 : W4.cell? ⟨w.heap.size, 8, none⟩ = some (.int .u32 0) := X4.out.1.cell 8 (by simp)
    have rf8 : W4.frozen? ⟨w.heap.size, 8, none⟩ = false := X4.out.1.free 8 (by simp)
    have p0 : W4.cell? ⟨w2.heap.size, 0, none⟩ = some (.int .u32 a0) := X4.out.2.1.cell 0 (by simp)
    have pf0 : W4.frozen? ⟨w2.heap.size, 0, none⟩ = false := X4.out.2.1.free 0 (by simp)
    have p1 : W4.cell? ⟨w2.heap.size, 1, none⟩ = some (.int .u32 a1) := X4.out.2.1.cell 1 (by simp)
    have pf1 : W4.frozen? ⟨w2.heap.size, 1, none⟩ = false := X4.out.2.1.free 1 (by simp)
    have p2 : W4.cell? ⟨w2.heap.size, 2, none⟩ = some (.int .u32 a2) := X4.out.2.1.cell 2 (by simp)
    have pf2 : W4.frozen? ⟨w2.heap.size, 2, none⟩ = false := X4.out.2.1.free 2 (by simp)
    have q0 : W4.cell? ⟨w3.heap.size, 0, none⟩ = some (.int .u32 b0) := X4.out.2.2.1.cell 0 (by simp)
    have qf0 : W4.frozen? ⟨w3.heap.size, 0, none⟩ = false := X4.out.2.2.1.free 0 (by simp)
    have q1 : W4.cell? ⟨w3.heap.size, 1, none⟩ = some (.int .u32 b1) := X4.out.2.2.1.cell 1 (by simp)
    have qf1 : W4.frozen? ⟨w3.heap.size, 1, none⟩ = false := X4.out.2.2.1.free 1 (by simp)
    have q2 : W4.cell? ⟨w3.heap.size, 2, none⟩ = some (.int .u32 b2) := X4.out.2.2.1.cell 2 (by simp)
    have qf2 : W4.frozen? ⟨w3.heap.size, 2, none⟩ = false := X4.out.2.2.1.free 2 (by simp)
    have t0 : W4.cell? ⟨w4.heap.size, 0, none⟩ = some (.int .u32 c0) := X4.out.2.2.2.cell 0 (by simp)
    have tf0 : W4.frozen? ⟨w4.heap.size, 0, none⟩ = false := X4.out.2.2.2.free 0 (by simp)
    have t1 : W4.cell? ⟨w4.heap.size, 1, none⟩ = some (.int .u32 c1) := X4.out.2.2.2.cell 1 (by simp)
    have tf1 : W4.frozen? ⟨w4.heap.size, 1, none⟩ = false := X4.out.2.2.2.free 1 (by simp)
    have t2 : W4.cell? ⟨w4.heap.size, 2, none⟩ = some (.int .u32 c2) := X4.out.2.2.2.cell 2 (by simp)
    have tf2 : W4.frozen? ⟨w4.heap.size, 2, none⟩ = false := X4.out.2.2.2.free 2 (by simp)
    have n1 : w.heap.size ≠ w2.heap.size := by omega
    have n2 : w.heap.size ≠ w3.heap.size := by omega
    have n3 : w.heap.size ≠ w4.heap.size := by omega
    have n4 : w2.heap.size ≠ w3.heap.size := by omega
    have n5 : w2.heap.size ≠ w4.heap.size := by omega
    have n6 : w3.heap.size ≠ w4.heap.size := by omega
    have H9 := H4
    clear X4 H4
    go_wp2
    refine bodyPost_ret (v := .agg #[.int .u32 a0, .int .u32 a1, .int .u32 a2, .int .u32 b0, .int .u32 b1, .int .u32 b2, .int .u32 a0, .int .u32 a1, .int .u32 a2]) (by simp [results, Tryz.results126, go_sem, r0, r1, r2, r3, r4, r5, r6, r7, r8]) rfl ?_
    exact ⟨rfl, by (repeat refine Rs.set ?_ (by omega) _ _); exact H9.out.1, by (repeat refine Aside.setHigh ?_ (by simp <;> omega) _); exact H9.out.2⟩
  · by_cases h4 : kk % 4 = 1
    · refine ⟨a0, a1, a2, b0, b1, a2, c0, c1, a2, rs3, u32_9 xa ya za xb yb za xc yc za, ?_⟩
      have e1 : (kk % 16 == 0) = false := by rw [beq_eq_false_iff_ne]; exact h16
      have e2 : (kk % 4 == 1) = true := by rw [beq_iff_eq]; exact h4
      intro P w h
      have hP := h.lt
      have HS : Hid (Rs P rs w) := h
      clear h
      go_enter Tryz.func126, Tryz.ntmps126
      go_wp2_with fail
      refine (nextF_any P rs _ (HS.out.later (bel0 _ _))).mono ?_
      rintro e w1 ⟨rfl, hk0, hk1, hr, ha⟩
      rw [HK.out] at hk0 hk1 ⊢
      have O1 : Hid (Own .u32 w1 w.heap.size 0 [0, 0, 0, 0, 0, 0, 0, 0, 0]) := own_asideP (own_lit w [0, 0, 0, 0, 0, 0, 0, 0, 0] _ _ rfl) ha (by omega)
      have H1 : Hid (Rs P rs.tail w1 ∧ Aside P w w1) := ⟨hr, (Aside.of (bel0 _ _)).trans ha⟩
      have hm16 : kk.tmod 16 = kk % 16 := Int.tmod_eq_emod_of_nonneg hk0
      have hm4 : kk.tmod 4 = kk % 4 := Int.tmod_eq_emod_of_nonneg hk0
      have z1 := O1.out.lt
      clear hr ha
      go_wp2_with fail
      refine (HA.out.tells P w1 H1.out.1).mono ?_
      rintro e w2 ⟨rfl, hr, ha⟩
      have OA0 : Own .u32 (w2.alloc (.cells #[.int .u32 a0, .int .u32 a1, .int .u32 a2] 26)) w2.heap.size 0 [a0, a1, a2] := own_lit w2 [a0, a1, a2] _ _ rfl
      obtain ⟨W2, hW2⟩ : ∃ W, W = w2.alloc (.cells #[.int .u32 a0, .int .u32 a1, .int .u32 a2] 26) := ⟨_, rfl⟩
      rw [← hW2] at OA0
      have bW : Below w2.heap.size w2 W2 := by rw [hW2]; exact bel0 _ _
      have X2 : Hid (Own .u32 W2 w.heap.size 0 [0, 0, 0, 0, 0, 0, 0, 0, 0] ∧ Own .u32 W2 w2.heap.size 0 [a0, a1, a2]) := ⟨(own_asideP O1.out ha (by omega)).later bW, OA0⟩
      have H2 : Hid (Rs P rs1 W2 ∧ Aside P w W2) := ⟨hr.later bW, (H1.out.2.trans ha).trans (Aside.of bW)⟩
      have z2 : w.heap.size < w2.heap.size := by have := ha.size; omega
      clear hr ha OA0 bW O1 H1
      go_wp2_with fail
      rw [← hW2]
      clear hW2
      refine (HB.out.tells P W2 H2.out.1).mono ?_
      rintro e w3 ⟨rfl, hr, ha⟩
      have OB0 : Own .u32 (w3.alloc (.cells #[.int .u32 b0, .int .u32 b1, .int .u32 b2] 26)) w3.heap.size 0 [b0, b1, b2] := own_lit w3 [b0, b1, b2] _ _ rfl
      obtain ⟨W3, hW3⟩ : ∃ W, W = w3.alloc (.cells #[.int .u32 b0, .int .u32 b1, .int .u32 b2] 26) := ⟨_, rfl⟩
      rw [← hW3] at OB0
      have bW : Below w3.heap.size w3 W3 := by rw [hW3]; exact bel0 _ _
      have X3 : Hid (Own .u32 W3 w.heap.size 0 [0, 0, 0, 0, 0, 0, 0, 0, 0] ∧ Own .u32 W3 w2.heap.size 0 [a0, a1, a2] ∧ Own .u32 W3 w3.heap.size 0 [b0, b1, b2]) := ⟨(own_asideP X2.out.1 ha (by omega)).later bW, (own_asideP X2.out.2 ha (by omega)).later bW, OB0⟩
      have H3 : Hid (Rs P rs2 W3 ∧ Aside P w W3) := ⟨hr.later bW, (H2.out.2.trans ha).trans (Aside.of bW)⟩
      have z3 : w2.heap.size < w3.heap.size := by have := ha.size; have := X2.out.2.lt; omega
      clear hr ha OB0 bW X2 H2
      go_wp2_with fail
      rw [← hW3]
      clear hW3
      refine (HC.out.tells P W3 H3.out.1).mono ?_
      rintro e w4 ⟨rfl, hr, ha⟩
      have OC0 : Own .u32 (w4.alloc (.cells #[.int .u32 c0, .int .u32 c1, .int .u32 c2] 26)) w4.heap.size 0 [c0, c1, c2] := own_lit w4 [c0, c1, c2] _ _ rfl
      obtain ⟨W4, hW4⟩ : ∃ W, W = w4.alloc (.cells #[.int .u32 c0, .int .u32 c1, .int .u32 c2] 26) := ⟨_, rfl⟩
      rw [← hW4] at OC0
      have bW : Below w4.heap.size w4 W4 := by rw [hW4]; exact bel0 _ _
      have X4 : Hid (Own .u32 W4 w.heap.size 0 [0, 0, 0, 0, 0, 0, 0, 0, 0] ∧ Own .u32 W4 w2.heap.size 0 [a0, a1, a2] ∧ Own .u32 W4 w3.heap.size 0 [b0, b1, b2] ∧ Own .u32 W4 w4.heap.size 0 [c0, c1, c2]) := ⟨(own_asideP X3.out.1 ha (by omega)).later bW, (own_asideP X3.out.2.1 ha (by omega)).later bW, (own_asideP X3.out.2.2 ha (by omega)).later bW, OC0⟩
      have H4 : Hid (Rs P rs3 W4 ∧ Aside P w W4) := ⟨hr.later bW, (H3.out.2.trans ha).trans (Aside.of bW)⟩
      have z4 : w3.heap.size < w4.heap.size := by have := ha.size; have := X3.out.2.2.lt; omega
      clear hr ha OC0 bW X3 H3
      go_upto_region 5 with fail
      rw [← hW4]
      clear hW4
      have r0 : W4.cell? ⟨w.heap.size, 0, none⟩ = some (.int .u32 0) := X4.out.1.cell 0 (by simp)
      have rf0 : W4.frozen? ⟨w.heap.size, 0, none⟩ = false := X4.out.1.free 0 (by simp)
      have r1 : W4.cell? ⟨w.heap.size, 1, none⟩ = some (.int .u32 0) := X4.out.1.cell 1 (by simp)
      have rf1 : W4.frozen? ⟨w.heap.size, 1, none⟩ = false := X4.out.1.free 1 (by simp)
      have r2 : W4.cell? ⟨w.heap.size, 2, none⟩ = some (.int .u32 0) := X4.out.1.cell 2 (by simp)
      have rf2 : W4.frozen? ⟨w.heap.size, 2, none⟩ = false := X4.out.1.free 2 (by simp)
      have r3 : W4.cell? ⟨w.heap.size, 3, none⟩ = some (.int .u32 0) := X4.out.1.cell 3 (by simp)
      have rf3 : W4.frozen? ⟨w.heap.size, 3, none⟩ = false := X4.out.1.free 3 (by simp)
      have r4 : W4.cell? ⟨w.heap.size, 4, none⟩ = some (.int .u32 0) := X4.out.1.cell 4 (by simp)
      have rf4 : W4.frozen? ⟨w.heap.size, 4, none⟩ = false := X4.out.1.free 4 (by simp)
      have r5 : W4.cell? ⟨w.heap.size, 5, none⟩ = some (.int .u32 0) := X4.out.1.cell 5 (by simp)
      have rf5 : W4.frozen? ⟨w.heap.size, 5, none⟩ = false := X4.out.1.free 5 (by simp)
      have r6 : W4.cell? ⟨w.heap.size, 6, none⟩ = some (.int .u32 0) := X4.out.1.cell 6 (by simp)
      have rf6 : W4.frozen? ⟨w.heap.size, 6, none⟩ = false := X4.out.1.free 6 (by simp)
      have r7 : W4.cell? ⟨w.heap.size, 7, none⟩ = some (.int .u32 0) := X4.out.1.cell 7 (by simp)
      have rf7 : W4.frozen? ⟨w.heap.size, 7, none⟩ = false := X4.out.1.free 7 (by simp)
      have r8 : W4.cell? ⟨w.heap.size, 8, none⟩ = some (.int .u32 0) := X4.out.1.cell 8 (by simp)
      have rf8 : W4.frozen? ⟨w.heap.size, 8, none⟩ = false := X4.out.1.free 8 (by simp)
      have p0 : W4.cell? ⟨w2.heap.size, 0, none⟩ = some (.int .u32 a0) := X4.out.2.1.cell 0 (by simp)
      have pf0 : W4.frozen? ⟨w2.heap.size, 0, none⟩ = false := X4.out.2.1.free 0 (by simp)
      have p1 : W4.cell? ⟨w2.heap.size, 1, none⟩ = some (.int .u32 a1) := X4.out.2.1.cell 1 (by simp)
      have pf1 : W4.frozen? ⟨w2.heap.size, 1, none⟩ = false := X4.out.2.1.free 1 (by simp)
      have p2 : W4.cell? ⟨w2.heap.size, 2, none⟩ = some (.int .u32 a2) := X4.out.2.1.cell 2 (by simp)
      have pf2 : W4.frozen? ⟨w2.heap.size, 2, none⟩ = false := X4.out.2.1.free 2 (by simp)
      have q0 : W4.cell? ⟨w3.heap.size, 0, none⟩ = some (.int .u32 b0) := X4.out.2.2.1.cell 0 (by simp)
      have qf0 : W4.frozen? ⟨w3.heap.size, 0, none⟩ = false := X4.out.2.2.1.free 0 (by simp)
      have q1 : W4.cell? ⟨w3.heap.size, 1, none⟩ = some (.int .u32 b1) := X4.out.2.2.1.cell 1 (by simp)
      have qf1 : W4.frozen? ⟨w3.heap.size, 1, none⟩ = false := X4.out.2.2.1.free 1 (by simp)
      have q2 : W4.cell? ⟨w3.heap.size, 2, none⟩ = some (.int .u32 b2) := X4.out.2.2.1.cell 2 (by simp)
      have qf2 : W4.frozen? ⟨w3.heap.size, 2, none⟩ = false := X4.out.2.2.1.free 2 (by simp)
      have t0 : W4.cell? ⟨w4.heap.size, 0, none⟩ = some (.int .u32 c0) := X4.out.2.2.2.cell 0 (by simp)
      have tf0 : W4.frozen? ⟨w4.heap.size, 0, none⟩ = false := X4.out.2.2.2.free 0 (by simp)
      have t1 : W4.cell? ⟨w4.heap.size, 1, none⟩ = some (.int .u32 c1) := X4.out.2.2.2.cell 1 (by simp)
      have tf1 : W4.frozen? ⟨w4.heap.size, 1, none⟩ = false := X4.out.2.2.2.free 1 (by simp)
      have t2 : W4.cell? ⟨w4.heap.size, 2, none⟩ = some (.int .u32 c2) := X4.out.2.2.2.cell 2 (by simp)
      have tf2 : W4.frozen? ⟨w4.heap.size, 2, none⟩ = false := X4.out.2.2.2.free 2 (by simp)
      have n1 : w.heap.size ≠ w2.heap.size := by omega
      have n2 : w.heap.size ≠ w3.heap.size := by omega
      have n3 : w.heap.size ≠ w4.heap.size := by omega
      have n4 : w2.heap.size ≠ w3.heap.size := by omega
      have n5 : w2.heap.size ≠ w4.heap.size := by omega
      have n6 : w3.heap.size ≠ w4.heap.size := by omega
      have H9 := H4
      clear X4 H4
      go_wp2
      refine bodyPost_ret (v := .agg #[.int .u32 a0, .int .u32 a1, .int .u32 a2, .int .u32 b0, .int .u32 b1, .int .u32 a2, .int .u32 c0, .int .u32 c1, .int .u32 a2]) (by simp [results, Tryz.results126, go_sem, r0, r1, r2, r3, r4, r5, r6, r7, r8]) rfl ?_
      exact ⟨rfl, by (repeat refine Rs.set ?_ (by omega) _ _); exact H9.out.1, by (repeat refine Aside.setHigh ?_ (by simp <;> omega) _); exact H9.out.2⟩
    · refine ⟨a0, a1, a2, b0, b1, b2, c0, c1, c2, rs3, u32_9 xa ya za xb yb zb xc yc zc, ?_⟩
      have e1 : (kk % 16 == 0) = false := by rw [beq_eq_false_iff_ne]; exact h16
      have e2 : (kk % 4 == 1) = false := by rw [beq_eq_false_iff_ne]; exact h4
      intro P w h
      have hP := h.lt
      have HS : Hid (Rs P rs w) := h
      clear h
      go_enter Tryz.func126, Tryz.ntmps126
      go_wp2_with fail
      refine (nextF_any P rs _ (HS.out.later (bel0 _ _))).mono ?_
      rintro e w1 ⟨rfl, hk0, hk1, hr, ha⟩
      rw [HK.out] at hk0 hk1 ⊢
      have O1 : Hid (Own .u32 w1 w.heap.size 0 [0, 0, 0, 0, 0, 0, 0, 0, 0]) := own_asideP (own_lit w [0, 0, 0, 0, 0, 0, 0, 0, 0] _ _ rfl) ha (by omega)
      have H1 : Hid (Rs P rs.tail w1 ∧ Aside P w w1) := ⟨hr, (Aside.of (bel0 _ _)).trans ha⟩
      have hm16 : kk.tmod 16 = kk % 16 := Int.tmod_eq_emod_of_nonneg hk0
      have hm4 : kk.tmod 4 = kk % 4 := Int.tmod_eq_emod_of_nonneg hk0
      have z1 := O1.out.lt
      clear hr ha
      go_wp2_with fail
      refine (HA.out.tells P w1 H1.out.1).mono ?_
      rintro e w2 ⟨rfl, hr, ha⟩
      have OA0 : Own .u32 (w2.alloc (.cells #[.int .u32 a0, .int .u32 a1, .int .u32 a2] 26)) w2.heap.size 0 [a0, a1, a2] := own_lit w2 [a0, a1, a2] _ _ rfl
      obtain ⟨W2, hW2⟩ : ∃ W, W = w2.alloc (.cells #[.int .u32 a0, .int .u32 a1, .int .u32 a2] 26) := ⟨_, rfl⟩
      rw [← hW2] at OA0
      have bW : Below w2.heap.size w2 W2 := by rw [hW2]; exact bel0 _ _
      have X2 : Hid (Own .u32 W2 w.heap.size 0 [0, 0, 0, 0, 0, 0, 0, 0, 0] ∧ Own .u32 W2 w2.heap.size 0 [a0, a1, a2]) := ⟨(own_asideP O1.out ha (by omega)).later bW, OA0⟩
      have H2 : Hid (Rs P rs1 W2 ∧ Aside P w W2) := ⟨hr.later bW, (H1.out.2.trans ha).trans (Aside.of bW)⟩
      have z2 : w.heap.size < w2.heap.size := by have := ha.size; omega
      clear hr ha OA0 bW O1 H1
      go_wp2_with fail
      rw [← hW2]
      clear hW2
      refine (HB.out.tells P W2 H2.out.1).mono ?_
      rintro e w3 ⟨rfl, hr, ha⟩
      have OB0 : Own .u32 (w3.alloc (.cells #[.int .u32 b0, .int .u32 b1, .int .u32 b2] 26)) w3.heap.size 0 [b0, b1, b2] := own_lit w3 [b0, b1, b2] _ _ rfl
      obtain ⟨W3, hW3⟩ : ∃ W, W = w3.alloc (.cells #[.int .u32 b0, .int .u32 b1, .int .u32 b2] 26) := ⟨_, rfl⟩
      rw [← hW3] at OB0
      have bW : Below w3.heap.size w3 W3 := by rw [hW3]; exact bel0 _ _
      have X3 : Hid (Own .u32 W3 w.heap.size 0 [0, 0, 0, 0, 0, 0, 0, 0, 0] ∧ Own .u32 W3 w2.heap.size 0 [a0, a1, a2] ∧ Own .u32 W3 w3.heap.size 0 [b0, b1, b2]) := ⟨(own_asideP X2.out.1 ha (by omega)).later bW, (own_asideP X2.out.2 ha (by omega)).later bW, OB0⟩
      have H3 : Hid (Rs P rs2 W3 ∧ Aside P w W3) := ⟨hr.later bW, (H2.out.2.trans ha).trans (Aside.of bW)⟩
      have z3 : w2.heap.size < w3.heap.size := by have := ha.size; have := X2.out.2.lt; omega
      clear hr ha OB0 bW X2 H2
      go_wp2_with fail
      rw [← hW3]
      clear hW3
      refine (HC.out.tells P W3 H3.out.1).mono ?_
      rintro e w4 ⟨rfl, hr, ha⟩
      have OC0 : Own .u32 (w4.alloc (.cells #[.int .u32 c0, .int .u32 c1, .int .u32 c2] 26)) w4.heap.size 0 [c0, c1, c2] := own_lit w4 [c0, c1, c2] _ _ rfl
      obtain ⟨W4, hW4⟩ : ∃ W, W = w4.alloc (.cells #[.int .u32 c0, .int .u32 c1, .int .u32 c2] 26) := ⟨_, rfl⟩
      rw [← hW4] at OC0
      have bW : Below w4.heap.size w4 W4 := by rw [hW4]; exact bel0 _ _
      have X4 : Hid (Own .u32 W4 w.heap.size 0 [0, 0, 0, 0, 0, 0, 0, 0, 0] ∧ Own .u32 W4 w2.heap.size 0 [a0, a1, a2] ∧ Own .u32 W4 w3.heap.size 0 [b0, b1, b2] ∧ Own .u32 W4 w4.heap.size 0 [c0, c1, c2]) := ⟨(own_asideP X3.out.1 ha (by omega)).later bW, (own_asideP X3.out.2.1 ha (by omega)).later bW, (own_asideP X3.out.2.2 ha (by omega)).later bW, OC0⟩
      have H4 : Hid (Rs P rs3 W4 ∧ Aside P w W4) := ⟨hr.later bW, (H3.out.2.trans ha).trans (Aside.of bW)⟩
      have z4 : w3.heap.size < w4.heap.size := by have := ha.size; have := X3.out.2.2.lt; omega
      clear hr ha OC0 bW X3 H3
      go_upto_region 5 with fail
      rw [← hW4]
      clear hW4
      have r0 : W4.cell? ⟨w.heap.size, 0, none⟩ = some (.int .u32 0) := X4.out.1.cell 0 (by simp)
      have rf0 : W4.frozen? ⟨w.heap.size, 0, none⟩ = false := X4.out.1.free 0 (by simp)
      have r1 : W4.cell? ⟨w.heap.size, 1, none⟩ = some (.int .u32 0) := X4.out.1.cell 1 (by simp)
      have rf1 : W4.frozen? ⟨w.heap.size, 1, none⟩ = false := X4.out.1.free 1 (by simp)
      have r2 : W4.cell? ⟨w.heap.size, 2, none⟩ = some (.int .u32 0) := X4.out.1.cell 2 (by simp)
      have rf2 : W4.frozen? ⟨w.heap.size, 2, none⟩ = false := X4.out.1.free 2 (by simp)
      have r3 : W4.cell? ⟨w.heap.size, 3, none⟩ = some (.int .u32 0) := X4.out.1.cell 3 (by simp)
      have rf3 : W4.frozen? ⟨w.heap.size, 3, none⟩ = false := X4.out.1.free 3 (by simp)
      have r4 : W4.cell? ⟨w.heap.size, 4, none⟩ = some (.int .u32 0) := X4.out.1.cell 4 (by simp)
      have rf4 : W4.frozen? ⟨w.heap.size, 4, none⟩ = false := X4.out.1.free 4 (by simp)
      have r5 : W4.cell? ⟨w.heap.size, 5, none⟩ = some (.int .u32 0) := X4.out.1.cell 5 (by simp)
      have rf5 : W4.frozen? ⟨w.heap.size, 5, none⟩ = false := X4.out.1.free 5 (by simp)
      have r6 : W4.cell? ⟨w.heap.size, 6, none⟩ = some (.int .u32 0) := X4.out.1.cell 6 (by simp)
      have rf6 : W4.frozen? ⟨w.heap.size, 6, none⟩ = false := X4.out.1.free 6 (by simp)
      have r7 : W4.cell? ⟨w.heap.size, 7, none⟩ = some (.int .u32 0) := X4.out.1.cell 7 (by simp)
      have rf7 : W4.frozen? ⟨w.heap.size, 7, none⟩ = false := X4.out.1.free 7 (by simp)
      have r8 : W4.cell? ⟨w.heap.size, 8, none⟩ = some (.int .u32 0) := X4.out.1.cell 8 (by simp)
      have rf8 : W4.frozen? ⟨w.heap.size, 8, none⟩ = false := X4.out.1.free 8 (by simp)
      have p0 : W4.cell? ⟨w2.heap.size, 0, none⟩ = some (.int .u32 a0) := X4.out.2.1.cell 0 (by simp)
      have pf0 : W4.frozen? ⟨w2.heap.size, 0, none⟩ = false := X4.out.2.1.free 0 (by simp)
      have p1 : W4.cell? ⟨w2.heap.size, 1, none⟩ = some (.int .u32 a1) := X4.out.2.1.cell 1 (by simp)
      have pf1 : W4.frozen? ⟨w2.heap.size, 1, none⟩ = false := X4.out.2.1.free 1 (by simp)
      have p2 : W4.cell? ⟨w2.heap.size, 2, none⟩ = some (.int .u32 a2) := X4.out.2.1.cell 2 (by simp)
      have pf2 : W4.frozen? ⟨w2.heap.size, 2, none⟩ = false := X4.out.2.1.free 2 (by simp)
      have q0 : W4.cell? ⟨w3.heap.size, 0, none⟩ = some (.int .u32 b0) := X4.out.2.2.1.cell 0 (by simp)
      have qf0 : W4.frozen? ⟨w3.heap.size, 0, none⟩ = false := X4.out.2.2.1.free 0 (by simp)
      have q1 : W4.cell? ⟨w3.heap.size, 1, none⟩ = some (.int .u32 b1) := X4.out.2.2.1.cell 1 (by simp)
      have qf1 : W4.frozen? ⟨w3.heap.size, 1, none⟩ = false := X4.out.2.2.1.free 1 (by simp)
      have q2 : W4.cell? ⟨w3.heap.size, 2, none⟩ = some (.int .u32 b2) := X4.out.2.2.1.cell 2 (by simp)
      have qf2 : W4.frozen? ⟨w3.heap.size, 2, none⟩ = false := X4.out.2.2.1.free 2 (by simp)
      have t0 : W4.cell? ⟨w4.heap.size, 0, none⟩ = some (.int .u32 c0) := X4.out.2.2.2.cell 0 (by simp)
      have tf0 : W4.frozen? ⟨w4.heap.size, 0, none⟩ = false := X4.out.2.2.2.free 0 (by simp)
      have t1 : W4.cell? ⟨w4.heap.size, 1, none⟩ = some (.int .u32 c1) := X4.out.2.2.2.cell 1 (by simp)
      have tf1 : W4.frozen? ⟨w4.heap.size, 1, none⟩ = false := X4.out.2.2.2.free 1 (by simp)
      have t2 : W4.cell? ⟨w4.heap.size, 2, none⟩ = some (.int .u32 c2) := X4.out.2.2.2.cell 2 (by simp)
      have tf2 : W4.frozen? ⟨w4.heap.size, 2, none⟩ = false := X4.out.2.2.2.free 2 (by simp)
      have n1 : w.heap.size ≠ w2.heap.size := by omega
      have n2 : w.heap.size ≠ w3.heap.size := by omega
      have n3 : w.heap.size ≠ w4.heap.size := by omega
      have n4 : w2.heap.size ≠ w3.heap.size := by omega
      have n5 : w2.heap.size ≠ w4.heap.size := by omega
      have n6 : w3.heap.size ≠ w4.heap.size := by omega
      have H9 := H4
      clear X4 H4
      go_wp2
      refine bodyPost_ret (v := .agg #[.int .u32 a0, .int .u32 a1, .int .u32 a2, .int .u32 b0, .int .u32 b1, .int .u32 b2, .int .u32 c0, .int .u32 c1, .int .u32 c2]) (by simp [results, Tryz.results126, go_sem, r0, r1, r2, r3, r4, r5, r6, r7, r8]) rfl ?_
      exact ⟨rfl, by (repeat refine Rs.set ?_ (by omega) _ _); exact H9.out.1, by (repeat refine Aside.setHigh ?_ (by simp <;> omega) _); exact H9.out.2⟩

end Go.Proofs.YtfcnokagfibgcahGreat
