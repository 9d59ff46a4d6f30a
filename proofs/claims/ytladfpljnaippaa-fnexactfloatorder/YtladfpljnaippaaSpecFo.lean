/-
  The model's order of floats.
-/
import Derived.Test.YtladfpljnaippaaSpecFl
import Derived.Test.YtladfpljnaippaaDy3a
namespace Go.Proofs.Ytladfpljnaippaa
open Go.RowKit

theorem fo_sgn {a b m1 e1 m2 e2 : Int} {T T' : Nat} (h1 : NormOf (fNum a) (fExp a - 150) m1 e1 T) (h2 : NormOf (fNum b) (fExp b - 150) m2 e2 T') (a0 : 0 ≤ a) (b0 : 0 ≤ b) : sgn (sumAt m1 e1 (-m2) e2) = sgn (fVal a - fVal b) := by
  have ea := fExp_pos a0
  have eb := fExp_pos b0
  have b1 := h1.bound
  have b2 := h2.bound
  unfold fVal
  rw [sgn_sumAt (K := 150) (by omega) (by omega), atK_neg, h1.at (by omega), h2.at (by omega)]
  congr 1

theorem finS_any (b : Int) (w : World) (h0 : 0 ≤ b) (h1 : b < 4294967296) :
    Calls Try.prog 15 #[.int .u32 b] w fun e w' => e = .returned (.bool (fFin b)) ∧ Below w.heap.size w w' := by
  go_enter Try.func15, Try.ntmps15
  go_wp2
  go_ret
  exact ⟨by unfold fFin; rfl, Below.refl _ _⟩

set_option maxRecDepth 100000 in
set_option maxHeartbeats 8000000 in
theorem l3order_any (a b : Int) (w : World) (a0 : 0 ≤ a) (a1 : a < 4294967296) (b0 : 0 ≤ b) (b1 : b < 4294967296) :
    Calls Try.prog 16 #[.int .u32 a, .int .u32 b] w fun e w' => e = .returned (.int .i64 (sgn (fVal a - fVal b))) ∧ Below w.heap.size w w' := by
  have ea := fExp_pos a0
  have eb := fExp_pos b0
  obtain ⟨r, hr⟩ : ∃ r, r = sgn (fVal a - fVal b) := ⟨_, rfl⟩
  rw [← hr]
  have HR : Hid (r = sgn (fVal a - fVal b)) := hr
  clear hr
  go_enter Try.func16, Try.ntmps16
  go_wp2_with fail
  refine (float2_any a _ a0 a1).mono ?_
  rintro e w2 ⟨m1, e1, hn1, g1, a1', c1, f1, rfl, hl1, hL1, hF1, hB1⟩
  go_wp2_with fail
  refine (float2_any b _ b0 b1).mono ?_
  rintro e w3 ⟨m2, e2, hn2, g2, a2, c2, f2, rfl, hl2, hL2, hF2, hb2⟩
  have hB2 : Below w.heap.size w w3 := hB1.trans (hb2.mono hB1.size)
  have hL1b := hL1.later hb2
  go_wp2_with fail
  refine (neg2_any g2 a2 c2 f2 m2 e2 _ (by omega) hL2).mono ?_
  rintro e w4 ⟨g3, f3, rfl, hl3, hL3, hb3⟩
  have hB3 : Below w.heap.size w w4 := hB2.trans (hb3.mono hB2.size)
  have hL1c := hL1b.later hb3
  go_wp2_with fail
  refine (add2_any g1 g3 a1' a2 c1 c2 f1 f3 m1 (-m2) e1 e2 _ (by omega) (by omega) (by have := hn1.bound; have := hn2.bound; omega) (by have := hn1.bound; have := hn2.bound; omega) hL1c hL3).mono ?_
  rintro e w5 ⟨g4, a4, c4, f4, rfl, hl4, hL4, hF4, hb4⟩
  have HS : Hid (sgn (sumAt m1 e1 (-m2) e2) = r) := (fo_sgn hn1 hn2 a0 b0).trans HR.out.symm
  have HB : Hid (Below w.heap.size w w5) := hB3.trans (hb4.mono hB3.size)
  have HL : Hid (L1 w5 g4 a4 c4 f4 (sumAt m1 e1 (-m2) e2)) := hL4
  generalize sumAt m1 e1 (-m2) e2 = m4 at HS HL
  generalize min e1 e2 = e4
  clear hB1 hb2 hB2 hb3 hB3 hb4 hL1 hL1b hL1c hL2 hL3 hL4 hF1 hF2 hF4
  go_wp2_with fail
  refine (sign_any g4 a4 c4 f4 m4 _ (by omega) (HL.out.later (bel0 _ _))).mono ?_
  rintro e w6 ⟨rfl, hb6⟩
  rw [HS.out]
  have HB6 : Hid (Below w.heap.size w w6) := (HB.out.alloc HB.out.size _).trans (hb6.mono (by have := HB.out.size; simp; omega))
  clear hb6
  go_wp2
  go_ret
  exact ⟨rfl, HB6.out⟩

set_option maxHeartbeats 1000000 in
theorem orderS_ok (a b : Int) (w : World) (a0 : 0 ≤ a) (a1 : a < 4294967296) (b0 : 0 ≤ b) (b1 : b < 4294967296) (fa : fFin a = true) (fb : fFin b = true) :
    Calls Try.prog 6 #[.int .u32 a, .int .u32 b] w fun e w' => e = .returned (.tuple #[.int .i64 (sgn (fVal a - fVal b)), .int .i64 0]) ∧ Below w.heap.size w w' := by
  obtain ⟨r, hr⟩ : ∃ r, r = sgn (fVal a - fVal b) := ⟨_, rfl⟩
  rw [← hr]
  have HR : Hid (r = sgn (fVal a - fVal b)) := hr
  clear hr
  go_enter Try.func6, Try.ntmps6
  go_wp2_with fail
  refine (finS_any a _ a0 a1).mono ?_
  rintro e w1 ⟨rfl, hb1⟩
  rw [fa]
  go_wp2_with fail
  refine (finS_any b _ b0 b1).mono ?_
  rintro e w2 ⟨rfl, hb2⟩
  rw [fb]
  go_wp2_with fail
  refine (l3order_any a b _ a0 a1 b0 b1).mono ?_
  rintro e w3 ⟨rfl, hb3⟩
  rw [← HR.out]
  have HB : Hid (Below w.heap.size w w3) := (hb1.trans (hb2.mono hb1.size)).trans (hb3.mono (Nat.le_trans hb1.size hb2.size))
  clear hb1 hb2 hb3
  go_wp2
  refine bodyPost_ret (v := .tuple #[.int .i64 r, .int .i64 0]) (by simp [results, Try.results6, go_sem]) rfl ?_
  exact ⟨rfl, HB.out⟩

set_option maxHeartbeats 1000000 in
theorem orderS_bad (a b : Int) (w : World) (a0 : 0 ≤ a) (a1 : a < 4294967296) (b0 : 0 ≤ b) (b1 : b < 4294967296) (h : (fFin a && fFin b) = false) :
    Calls Try.prog 6 #[.int .u32 a, .int .u32 b] w fun e w' => e = .returned (.tuple #[.int .i64 0, .int .i64 1]) ∧ Below w.heap.size w w' := by
  cases fa : fFin a
  · go_enter Try.func6, Try.ntmps6
    go_wp2_with fail
    refine (finS_any a _ a0 a1).mono ?_
    rintro e w1 ⟨rfl, hb1⟩
    rw [fa]
    go_wp2
    refine bodyPost_ret (v := .tuple #[.int .i64 0, .int .i64 1]) (by simp [results, Try.results6, go_sem]) rfl ?_
    exact ⟨rfl, hb1⟩
  · have fb : fFin b = false := by simpa [fa] using h
    go_enter Try.func6, Try.ntmps6
    go_wp2_with fail
    refine (finS_any a _ a0 a1).mono ?_
    rintro e w1 ⟨rfl, hb1⟩
    rw [fa]
    go_wp2_with fail
    refine (finS_any b _ b0 b1).mono ?_
    rintro e w2 ⟨rfl, hb2⟩
    rw [fb]
    have HB : Hid (Below w.heap.size w w2) := hb1.trans (hb2.mono hb1.size)
    clear hb1 hb2
    go_wp2
    refine bodyPost_ret (v := .tuple #[.int .i64 0, .int .i64 1]) (by simp [results, Try.results6, go_sem]) rfl ?_
    exact ⟨rfl, HB.out⟩

end Go.Proofs.Ytladfpljnaippaa
