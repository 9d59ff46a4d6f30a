/-
  BigCmp of the program and of the model.
-/
import Derived.Test.YtlbegmepmeimkaaBox
import Derived.Test.YtlbegmepmeimkaaImplO
import Derived.Test.YtlbegmepmeimkaaSpecJ
namespace Go.Proofs.Ytlbegmepmeimkaa
open Go.RowKit

set_option maxHeartbeats 1000000 in
theorem cmpBI_ok (g g' : Bool) (a a' : Option Addr) (c c' : Nat) (zs ys : List Int) (w : World) (hn : zs.length ≤ 1048576) (hn' : ys.length ≤ 1048576) (hz : RowAt .u32 w a zs) (hy : RowAt .u32 w a' ys) (v1 : validB g zs = true) (v2 : validB g' ys = true) :
    Calls Try.prog 24 #[.agg #[.bool g, .slice a zs.length c], .agg #[.bool g', .slice a' ys.length c']] w fun e w' => e = .returned (.tuple #[.int .i64 (ordB g g' zs ys), .int .i64 0]) ∧ Below w.heap.size w w' := by
  go_enter Try.func24, Try.ntmps24
  go_wp2_with fail
  refine (validI_any g a c zs _ (by unfold maxLen; omega) (hz.later (bel2 _ _ _))).mono ?_
  rintro e w1 ⟨rfl, hb1⟩
  rw [v1]
  have F1 : Hid (Bx2 w (.bool g) (.slice a zs.length c) (.bool g') (.slice a' ys.length c') w1) := (Bx2.start w _ _ _ _ _ _).later hb1
  have q0 := F1.out.q0
  have q1 := F1.out.q1
  have q2 := F1.out.q2
  have q3 := F1.out.q3
  clear hb1
  go_wp2_with fail
  refine (validI_any g' a' c' ys _ (by unfold maxLen; omega) (hy.later F1.out.bel)).mono ?_
  rintro e w2 ⟨rfl, hb2⟩
  rw [v2]
  have F2 : Hid (Bx2 w (.bool g) (.slice a zs.length c) (.bool g') (.slice a' ys.length c') w2) := F1.out.later hb2
  clear q0 q1 q2 q3 hb2 F1
  have q0 := F2.out.q0
  have q1 := F2.out.q1
  have q2 := F2.out.q2
  have q3 := F2.out.q3
  go_wp2_with fail
  refine (orderOf_any g g' a a' c c' zs ys _ hn hn' (hz.later F2.out.bel) (hy.later F2.out.bel)).mono ?_
  rintro e w3 ⟨rfl, hb3⟩
  have HB : Hid (Below w.heap.size w w3) := (F2.out.later hb3).bel
  clear hb3
  go_wp2
  go_ret2
  exact ⟨rfl, HB.out⟩

set_option maxHeartbeats 1000000 in
theorem cmpBI_bad1 (g g' : Bool) (a a' : Option Addr) (c c' : Nat) (zs ys : List Int) (w : World) (hn : zs.length ≤ 1048576) (hz : RowAt .u32 w a zs) (v1 : validB g zs = false) :
    Calls Try.prog 24 #[.agg #[.bool g, .slice a zs.length c], .agg #[.bool g', .slice a' ys.length c']] w fun e w' => e = .returned (.tuple #[.int .i64 0, .int .i64 1]) ∧ Below w.heap.size w w' := by
  go_enter Try.func24, Try.ntmps24
  go_wp2_with fail
  refine (validI_any g a c zs _ (by unfold maxLen; omega) (hz.later (bel2 _ _ _))).mono ?_
  rintro e w1 ⟨rfl, hb1⟩
  rw [v1]
  have HB : Hid (Below w.heap.size w w1) := (bel2 _ _ _).trans (hb1.mono (by simp; omega))
  clear hb1
  go_wp2
  go_ret2
  exact ⟨rfl, HB.out⟩

set_option maxHeartbeats 1000000 in
theorem cmpBI_bad2 (g g' : Bool) (a a' : Option Addr) (c c' : Nat) (zs ys : List Int) (w : World) (hn : zs.length ≤ 1048576) (hn' : ys.length ≤ 1048576) (hz : RowAt .u32 w a zs) (hy : RowAt .u32 w a' ys) (v1 : validB g zs = true) (v2 : validB g' ys = false) :
    Calls Try.prog 24 #[.agg #[.bool g, .slice a zs.length c], .agg #[.bool g', .slice a' ys.length c']] w fun e w' => e = .returned (.tuple #[.int .i64 0, .int .i64 1]) ∧ Below w.heap.size w w' := by
  go_enter Try.func24, Try.ntmps24
  go_wp2_with fail
  refine (validI_any g a c zs _ (by unfold maxLen; omega) (hz.later (bel2 _ _ _))).mono ?_
  rintro e w1 ⟨rfl, hb1⟩
  rw [v1]
  have F1 : Hid (Bx2 w (.bool g) (.slice a zs.length c) (.bool g') (.slice a' ys.length c') w1) := (Bx2.start w _ _ _ _ _ _).later hb1
  have q0 := F1.out.q0
  have q1 := F1.out.q1
  have q2 := F1.out.q2
  have q3 := F1.out.q3
  clear hb1
  go_wp2_with fail
  refine (validI_any g' a' c' ys _ (by unfold maxLen; omega) (hy.later F1.out.bel)).mono ?_
  rintro e w2 ⟨rfl, hb2⟩
  rw [v2]
  have HB : Hid (Below w.heap.size w w2) := (F1.out.later hb2).bel
  clear hb2
  go_wp2
  go_ret2
  exact ⟨rfl, HB.out⟩

set_option maxHeartbeats 1000000 in
theorem cmpBS_bad1 (g g' : Bool) (a a' : Option Addr) (c c' : Nat) (zs ys : List Int) (w : World) (hn : zs.length ≤ 1048576) (hz : RowAt .u32 w a zs) (v1 : validB g zs = false) :
    Calls Try.prog 23 #[.agg #[.bool g, .slice a zs.length c], .agg #[.bool g', .slice a' ys.length c']] w fun e w' => e = .returned (.tuple #[.int .i64 0, .int .i64 1]) ∧ Below w.heap.size w w' := by
  go_enter Try.func23, Try.ntmps23
  go_wp2_with fail
  refine (validS_any g a c zs _ (by unfold maxLen; omega) (hz.later (bel2 _ _ _))).mono ?_
  rintro e w1 ⟨rfl, hb1⟩
  rw [v1]
  have HB : Hid (Below w.heap.size w w1) := (bel2 _ _ _).trans (hb1.mono (by simp; omega))
  clear hb1
  go_wp2
  go_ret2
  exact ⟨rfl, HB.out⟩

set_option maxHeartbeats 1000000 in
theorem cmpBS_bad2 (g g' : Bool) (a a' : Option Addr) (c c' : Nat) (zs ys : List Int) (w : World) (hn : zs.length ≤ 1048576) (hn' : ys.length ≤ 1048576) (hz : RowAt .u32 w a zs) (hy : RowAt .u32 w a' ys) (v1 : validB g zs = true) (v2 : validB g' ys = false) :
    Calls Try.prog 23 #[.agg #[.bool g, .slice a zs.length c], .agg #[.bool g', .slice a' ys.length c']] w fun e w' => e = .returned (.tuple #[.int .i64 0, .int .i64 1]) ∧ Below w.heap.size w w' := by
  go_enter Try.func23, Try.ntmps23
  go_wp2_with fail
  refine (validS_any g a c zs _ (by unfold maxLen; omega) (hz.later (bel2 _ _ _))).mono ?_
  rintro e w1 ⟨rfl, hb1⟩
  rw [v1]
  have F1 : Hid (Bx2 w (.bool g) (.slice a zs.length c) (.bool g') (.slice a' ys.length c') w1) := (Bx2.start w _ _ _ _ _ _).later hb1
  have q0 := F1.out.q0
  have q1 := F1.out.q1
  have q2 := F1.out.q2
  have q3 := F1.out.q3
  clear hb1
  go_wp2_with fail
  refine (validS_any g' a' c' ys _ (by unfold maxLen; omega) (hy.later F1.out.bel)).mono ?_
  rintro e w2 ⟨rfl, hb2⟩
  rw [v2]
  have HB : Hid (Below w.heap.size w w2) := (F1.out.later hb2).bel
  clear hb2
  go_wp2
  go_ret2
  exact ⟨rfl, HB.out⟩

set_option maxHeartbeats 4000000 in
theorem cmpBS_ok (g g' : Bool) (a a' : Option Addr) (c c' : Nat) (zs ys : List Int) (w : World) (hn : zs.length ≤ 512) (hn' : ys.length ≤ 512) (hz : RowAt .u32 w a zs) (hy : RowAt .u32 w a' ys) (hu : Dig 4294967296 zs) (hu' : Dig 4294967296 ys) (v1 : validB g zs = true) (v2 : validB g' ys = true) :
    Calls Try.prog 23 #[.agg #[.bool g, .slice a zs.length c], .agg #[.bool g', .slice a' ys.length c']] w fun e w' => e = .returned (.tuple #[.int .i64 (sgn (sg g (val 4294967296 zs) - sg g' (val 4294967296 ys))), .int .i64 0]) ∧ Below w.heap.size w w' := by
  obtain ⟨x, hx⟩ : ∃ x, x = sg g (val 4294967296 zs) := ⟨_, rfl⟩
  obtain ⟨y, hyy⟩ : ∃ y, y = sg g' (val 4294967296 ys) := ⟨_, rfl⟩
  rw [← hx, ← hyy]
  have HX : Hid (x = sg g (val 4294967296 zs)) := hx
  have HY : Hid (y = sg g' (val 4294967296 ys)) := hyy
  clear hx hyy
  go_enter Try.func23, Try.ntmps23
  go_wp2_with fail
  refine (validS_any g a c zs _ (by unfold maxLen; omega) (hz.later (bel2 _ _ _))).mono ?_
  rintro e w1 ⟨rfl, hb1⟩
  rw [v1]
  have F1 : Hid (Bx2 w (.bool g) (.slice a zs.length c) (.bool g') (.slice a' ys.length c') w1) := (Bx2.start w _ _ _ _ _ _).later hb1
  have q0 := F1.out.q0
  have q1 := F1.out.q1
  have q2 := F1.out.q2
  have q3 := F1.out.q3
  clear hb1
  go_wp2_with fail
  refine (validS_any g' a' c' ys _ (by unfold maxLen; omega) (hy.later F1.out.bel)).mono ?_
  rintro e W0 ⟨rfl, hb2⟩
  rw [v2]
  have F : Hid (Bx2 w (.bool g) (.slice a zs.length c) (.bool g') (.slice a' ys.length c') W0) := F1.out.later hb2
  clear q0 q1 q2 q3 hb2 F1 v1 v2
  go_wp2
  go_region_held3 (fun w' => w'.cell? ⟨w.heap.size, 0, none⟩ = some (.bool g) ∧ w'.cell? ⟨w.heap.size, 1, none⟩ = some (.slice a zs.length c) ∧ w'.cell? ⟨w.heap.size + 1, 0, none⟩ = some (.bool g') ∧ w'.cell? ⟨w.heap.size + 1, 1, none⟩ = some (.slice a' ys.length c') ∧ Below W0.heap.size W0 w')
    (first | exact F.out.held (Below.refl _ _).drew | exact F.out.held (by assumption))
    (first
      | (go_at_call_of 35 a; refine (of_any g a c zs _ (by omega) (hz.later ?_) hu).mono ?_; (first | exact F.out.bel.drew | exact F.out.bel.trans (Below.mono (by assumption) F.out.bel.size)); rintro e w2 ⟨g1, a1, c1, ds, rfl, hl1, hL1, hb1⟩; rw [← HX.out] at hL1; have hB : Below W0.heap.size W0 w2 := (by first | exact (Below.refl _ _).drew.trans hb1 | exact Below.trans (by assumption) (Below.mono hb1 (Below.size (by assumption)))); have K1 := fun {g a c ds x} (h : L1 _ g a c ds x) => h.later hb1)
      | (go_at_call_of 35 a'; refine (of_any g' a' c' ys _ (by omega) (hy.later ?_) hu').mono ?_; (first | exact F.out.bel.drew | exact F.out.bel.trans (Below.mono (by assumption) F.out.bel.size)); rintro e w3 ⟨g2, a2, c2, es, rfl, hl2, hL2, hb2⟩; rw [← HY.out] at hL2; have hB' : Below W0.heap.size W0 w3 := (by first | exact (Below.refl _ _).drew.trans hb2 | exact Below.trans (by assumption) (Below.mono hb2 (Below.size (by assumption)))); have K2 := fun {g a c ds x} (h : L1 _ g a c ds x) => h.later hb2)
      | (go_at_call 43; refine (cmpS_any g1 g2 a1 a2 c1 c2 ds es x y _ (by omega) (by omega) ?_ ?_).mono ?_; (first | exact hL1 | exact K2 hL1); (first | exact hL2 | exact K1 hL2); rintro e w4 ⟨rfl, hb4⟩; have hB4 : Below W0.heap.size W0 w4 := (by first | exact hB.trans (hb4.mono hB.size) | exact hB'.trans (hb4.mono hB'.size))))
  all_goals
    go_wp2
    go_ret2
    exact ⟨rfl, F.out.bel.trans (hB4.mono (by have := F.out.le; omega))⟩

end Go.Proofs.Ytlbegmepmeimkaa
