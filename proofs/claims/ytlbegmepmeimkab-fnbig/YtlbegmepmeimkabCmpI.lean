/-
  The program's BigCmp.
-/
import Derived.Test.YtlbegmepmeimkabBox
import Derived.Test.YtlbegmepmeimkabImplMulImplO
namespace Go.Proofs.Ytlbegmepmeimkab
open Go.RowKit

set_option maxHeartbeats 1000000 in
theorem cmpBI_ok (g g' : Bool) (a a' : Option Addr) (c c' : Nat) (zs ys : List Int) (w : World) (hn : zs.length ≤ 1048576) (hn' : ys.length ≤ 1048576) (hz : RowAt .u32 w a zs) (hy : RowAt .u32 w a' ys) (v1 : validB g zs = true) (v2 : validB g' ys = true) :
    Calls Try.prog 29 #[.agg #[.bool g, .slice a zs.length c], .agg #[.bool g', .slice a' ys.length c']] w fun e w' => e = .returned (.tuple #[.int .i64 (ordB g g' zs ys), .int .i64 0]) ∧ Below w.heap.size w w' := by
  go_enter Try.func29, Try.ntmps29
  go_wp2_with fail
  refine (validI_any g a c zs _ (by unfold maxLen; omega) (hz.later (bel2 _ _ _))).mono ?_
  rintro e w1 ⟨rfl, hb1⟩
  rw [v1]
  have F1 : Hid (Bx2 w (.bool g) (.slice a zs.length c) (.bool g') (.slice a' ys.length c') w1) := (Bx2.start w _ _ _ _ _ _).later hb1
  have q0 := F1.out.q0
  have q1 := F1.out.q1
  have q2 := F1.out.q2
  have q3 := F1.out.q3
  clear hb1
  go_wp2_with fail
  refine (validI_any g' a' c' ys _ (by unfold maxLen; omega) (hy.later F1.out.bel)).mono ?_
  rintro e w2 ⟨rfl, hb2⟩
  rw [v2]
  have F2 : Hid (Bx2 w (.bool g) (.slice a zs.length c) (.bool g') (.slice a' ys.length c') w2) := F1.out.later hb2
  clear q0 q1 q2 q3 hb2 F1
  have q0 := F2.out.q0
  have q1 := F2.out.q1
  have q2 := F2.out.q2
  have q3 := F2.out.q3
  go_wp2_with fail
  refine (orderOf_any g g' a a' c c' zs ys _ hn hn' (hz.later F2.out.bel) (hy.later F2.out.bel)).mono ?_
  rintro e w3 ⟨rfl, hb3⟩
  have HB : Hid (Below w.heap.size w w3) := (F2.out.later hb3).bel
  clear hb3
  go_wp2
  go_ret2
  exact ⟨rfl, HB.out⟩

set_option maxHeartbeats 1000000 in
theorem cmpBI_bad1 (g g' : Bool) (a a' : Option Addr) (c c' : Nat) (zs ys : List Int) (w : World) (hn : zs.length ≤ 1048576) (hz : RowAt .u32 w a zs) (v1 : validB g zs = false) :
    Calls Try.prog 29 #[.agg #[.bool g, .slice a zs.length c], .agg #[.bool g', .slice a' ys.length c']] w fun e w' => e = .returned (.tuple #[.int .i64 0, .int .i64 1]) ∧ Below w.heap.size w w' := by
  go_enter Try.func29, Try.ntmps29
  go_wp2_with fail
  refine (validI_any g a c zs _ (by unfold maxLen; omega) (hz.later (bel2 _ _ _))).mono ?_
  rintro e w1 ⟨rfl, hb1⟩
  rw [v1]
  have HB : Hid (Below w.heap.size w w1) := (bel2 _ _ _).trans (hb1.mono (by simp; omega))
  clear hb1
  go_wp2
  go_ret2
  exact ⟨rfl, HB.out⟩

set_option maxHeartbeats 1000000 in
theorem cmpBI_bad2 (g g' : Bool) (a a' : Option Addr) (c c' : Nat) (zs ys : List Int) (w : World) (hn : zs.length ≤ 1048576) (hn' : ys.length ≤ 1048576) (hz : RowAt .u32 w a zs) (hy : RowAt .u32 w a' ys) (v1 : validB g zs = true) (v2 : validB g' ys = false) :
    Calls Try.prog 29 #[.agg #[.bool g, .slice a zs.length c], .agg #[.bool g', .slice a' ys.length c']] w fun e w' => e = .returned (.tuple #[.int .i64 0, .int .i64 1]) ∧ Below w.heap.size w w' := by
  go_enter Try.func29, Try.ntmps29
  go_wp2_with fail
  refine (validI_any g a c zs _ (by unfold maxLen; omega) (hz.later (bel2 _ _ _))).mono ?_
  rintro e w1 ⟨rfl, hb1⟩
  rw [v1]
  have F1 : Hid (Bx2 w (.bool g) (.slice a zs.length c) (.bool g') (.slice a' ys.length c') w1) := (Bx2.start w _ _ _ _ _ _).later hb1
  have q0 := F1.out.q0
  have q1 := F1.out.q1
  have q2 := F1.out.q2
  have q3 := F1.out.q3
  clear hb1
  go_wp2_with fail
  refine (validI_any g' a' c' ys _ (by unfold maxLen; omega) (hy.later F1.out.bel)).mono ?_
  rintro e w2 ⟨rfl, hb2⟩
  rw [v2]
  have HB : Hid (Below w.heap.size w w2) := (F1.out.later hb2).bel
  clear hb2
  go_wp2
  go_ret2
  exact ⟨rfl, HB.out⟩

/-- BigCmp's two answers. -/
def cmpR (g g' : Bool) (zs ys : List Int) : Int := if validB g zs = true ∧ validB g' ys = true then sgn (sg g (val 4294967296 zs) - sg g' (val 4294967296 ys)) else 0
def cmpK (g g' : Bool) (zs ys : List Int) : Int := if validB g zs = true ∧ validB g' ys = true then 0 else 1

theorem sgn_of_pos {x : Int} (h : 0 < x) : sgn x = 1 := by unfold sgn; rw [if_neg (by omega), if_neg (by omega)]
theorem sgn_of_neg {x : Int} (h : x < 0) : sgn x = -1 := by unfold sgn; rw [if_pos h]
theorem sgn_neg (x : Int) : sgn (-x) = - sgn x := by
  rcases sgn_cases x with ⟨h1, h2⟩ | ⟨h1, h2⟩ | ⟨h1, h2⟩
  · rw [h2, sgn_of_pos (by omega)]; rfl
  · rw [h2, h1]; rfl
  · rw [h2, sgn_of_neg (by omega)]

theorem ord_val {g g' : Bool} {zs ys : List Int} (hu : U32 zs) (hu' : U32 ys) (v1 : validB g zs = true) (v2 : validB g' ys = true) : ordB g g' zs ys = sgn (sg g (val 4294967296 zs) - sg g' (val 4294967296 ys)) := by
  obtain ⟨c1, _, n1⟩ := valid_canon hu v1
  obtain ⟨c2, _, n2⟩ := valid_canon hu' v2
  have p1 := val_nonneg (B := 4294967296) (by decide) c1.1
  have p2 := val_nonneg (B := 4294967296) (by decide) c2.1
  cases g <;> cases g'
  · simp only [ordB, sg]
    rw [if_neg (by simp), if_neg (by simp), if_neg (by simp), cmpL_val (by decide) c1 c2]
    rfl
  · have := val_pos (B := 4294967296) (by decide) c2 (n2 rfl)
    simp only [ordB, sg]
    rw [if_neg (by simp), if_pos (by simp)]
    simp only [Bool.false_eq_true, if_false, if_true]
    rw [sgn_of_pos (by omega)]
  · have := val_pos (B := 4294967296) (by decide) c1 (n1 rfl)
    simp only [ordB, sg]
    rw [if_pos (by simp)]
    simp only [Bool.false_eq_true, if_false, if_true]
    rw [sgn_of_neg (by omega)]
  · simp only [ordB, sg]
    rw [if_neg (by simp), if_neg (by simp)]
    simp only [if_true]
    rw [cmpL_val (by decide) c2 c1]
    congr 1
    omega

theorem cmpBI_any (g g' : Bool) (a a' : Option Addr) (c c' : Nat) (zs ys : List Int) (w : World) (hn : zs.length ≤ 1048576) (hn' : ys.length ≤ 1048576) (hz : RowAt .u32 w a zs) (hy : RowAt .u32 w a' ys) (hu : U32 zs) (hu' : U32 ys) :
    Calls Try.prog 29 #[.agg #[.bool g, .slice a zs.length c], .agg #[.bool g', .slice a' ys.length c']] w fun e w' => e = .returned (.tuple #[.int .i64 (cmpR g g' zs ys), .int .i64 (cmpK g g' zs ys)]) ∧ Below w.heap.size w w' := by
  cases v1 : validB g zs
  · unfold cmpR cmpK
    rw [if_neg (by simp [v1]), if_neg (by simp [v1])]
    exact cmpBI_bad1 g g' a a' c c' zs ys w hn hz v1
  · cases v2 : validB g' ys
    · unfold cmpR cmpK
      rw [if_neg (by simp [v2]), if_neg (by simp [v2])]
      exact cmpBI_bad2 g g' a a' c c' zs ys w hn hn' hz hy v1 v2
    · unfold cmpR cmpK
      rw [if_pos ⟨v1, v2⟩, if_pos ⟨v1, v2⟩, ← ord_val hu hu' v1 v2]
      exact cmpBI_ok g g' a a' c c' zs ys w hn hn' hz hy v1 v2

end Go.Proofs.Ytlbegmepmeimkab
