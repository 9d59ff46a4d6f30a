/-
  The laws' own helpers over Bigs, and both BigValid.
-/
import Derived.Test.YtfgpknglgbpebaeDoorUtil
namespace Go.Proofs.YtfgpknglgbpebaeDoor
open Go.RowKit

theorem len_ne {zs : List Int} (h : ¬ zs.length = 0) : ((zs.length : Int) == 0) = false := by
  rw [beq_eq_false_iff_ne]; omega

/-- A Big is valid. -/
def validB (g : Bool) (zs : List Int) : Bool := if zs.length = 0 then !g else (decide (zs.length ≤ 512) && (zs.getD (zs.length - 1) 0 != 0))

set_option maxHeartbeats 400000 in
theorem validI_any (g : Bool) (a : Option Addr) (c : Nat) (zs : List Int) (w : World) (hn : zs.length ≤ maxLen) (hz : RowAt .u32 w a zs) :
    Calls Tryd.prog 36 #[.agg #[.bool g, .slice a zs.length c]] w fun e w' => e = .returned (.bool (validB g zs)) ∧ Below w.heap.size w w' := by
  unfold maxLen at hn
  by_cases h0 : zs.length = 0
  · have hv : validB g zs = !g := by unfold validB; rw [if_pos h0]
    rw [hv]
    have e0 : ((zs.length : Int) == 0) = true := by simp [h0]
    go_enter Tryd.func36, Tryd.ntmps36
    go_wp2
    go_ret
    exact ⟨rfl, bel0 _ _⟩
  · have hv : validB g zs = (decide (zs.length ≤ 512) && (zs.getD (zs.length - 1) 0 != 0)) := by unfold validB; rw [if_neg h0]
    have e0 : ((zs.length : Int) == 0) = false := len_ne h0
    obtain ⟨b, off, rfl, hb, hc⟩ := hz.resolve_left (by intro h; subst h; simp at h0)
    have hlast := hc (zs.length - 1) (by omega)
    by_cases h5 : zs.length ≤ 512
    · go_enter Tryd.func36, Tryd.ntmps36
      go_wp2
      go_ret
      exact ⟨ret_bool (by rw [hv]; simp [h5]), bel0 _ _⟩
    · go_enter Tryd.func36, Tryd.ntmps36
      go_wp2
      go_ret
      exact ⟨ret_bool rfl, bel0 _ _⟩

set_option maxHeartbeats 400000 in
theorem validS_any (g : Bool) (a : Option Addr) (c : Nat) (zs : List Int) (w : World) (hn : zs.length ≤ maxLen) (hz : RowAt .u32 w a zs) :
    Calls Tryd.prog 29 #[.agg #[.bool g, .slice a zs.length c]] w fun e w' => e = .returned (.bool (validB g zs)) ∧ Below w.heap.size w w' := by
  unfold maxLen at hn
  by_cases h0 : zs.length = 0
  · have hv : validB g zs = !g := by unfold validB; rw [if_pos h0]
    rw [hv]
    have e0 : ((zs.length : Int) == 0) = true := by simp [h0]
    go_enter Tryd.func29, Tryd.ntmps29
    go_wp2
    go_ret
    exact ⟨rfl, bel0 _ _⟩
  · have hv : validB g zs = (decide (zs.length ≤ 512) && (zs.getD (zs.length - 1) 0 != 0)) := by unfold validB; rw [if_neg h0]
    have e0 : ((zs.length : Int) == 0) = false := len_ne h0
    obtain ⟨b, off, rfl, hb, hc⟩ := hz.resolve_left (by intro h; subst h; simp at h0)
    have hlast := hc (zs.length - 1) (by omega)
    by_cases h5 : zs.length ≤ 512
    · go_enter Tryd.func29, Tryd.ntmps29
      go_wp2
      go_ret
      exact ⟨ret_bool (by rw [hv]; simp [h5]), bel0 _ _⟩
    · go_enter Tryd.func29, Tryd.ntmps29
      go_wp2
      go_ret
      exact ⟨ret_bool rfl, bel0 _ _⟩

end Go.Proofs.YtfgpknglgbpebaeDoor
