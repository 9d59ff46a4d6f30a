/-
  The laws' own helpers over Bigs, and both BigValid.
-/
import Derived.Test.YtmacbfiolkpofabDoorUtil
namespace Go.Proofs.YtmacbfiolkpofabDoor
open Go.RowKit

set_option maxHeartbeats 400000 in
theorem eqB_any (g g' : Bool) (a a' : Option Addr) (c c' : Nat) (zs ys : List Int) (w : World) (hn : zs.length ≤ maxLen) (hn' : ys.length ≤ maxLen) (hz : RowAt .u32 w a zs) (hy : RowAt .u32 w a' ys) :
    Calls Tryd.prog 22 #[.agg #[.bool g, .slice a zs.length c], .agg #[.bool g', .slice a' ys.length c']] w fun e w' => e = .returned (.bool (decide (g = g' ∧ zs = ys))) ∧ Below w.heap.size w w' := by
  by_cases hg : g = g'
  · subst hg
    by_cases he : zs = ys
    · subst he
      go_enter Tryd.func22, Tryd.ntmps22
      go_wp2_with fail
      refine (eqU_any _ _ _ _ zs zs _ hn hn' (hz.later (bel2 _ _ _)) (hy.later (bel2 _ _ _))).mono ?_
      rintro e w1 ⟨rfl, hb⟩
      rw [show decide (zs = zs) = true from by simp]
      have HB : Hid (Below w.heap.size w w1) := (bel2 _ _ _).trans (hb.mono (by simp; omega))
      clear hb
      go_wp2
      go_ret
      exact ⟨ret_bool (by simp), HB.out⟩
    · have hd : decide (zs = ys) = false := by simpa using he
      go_enter Tryd.func22, Tryd.ntmps22
      go_wp2_with fail
      refine (eqU_any _ _ _ _ zs ys _ hn hn' (hz.later (bel2 _ _ _)) (hy.later (bel2 _ _ _))).mono ?_
      rintro e w1 ⟨rfl, hb⟩
      rw [hd]
      have HB : Hid (Below w.heap.size w w1) := (bel2 _ _ _).trans (hb.mono (by simp; omega))
      clear hb
      go_wp2
      go_ret
      exact ⟨ret_bool (by simp [he]), HB.out⟩
  · have hg' : g' = !g := by cases g <;> cases g' <;> simp_all
    subst hg'
    clear hg
    cases g
    all_goals
      go_enter Tryd.func22, Tryd.ntmps22
      go_wp2
      go_ret
      exact ⟨ret_bool (by simp), bel2 _ _ _⟩

theorem len_ne {zs : List Int} (h : ¬ zs.length = 0) : ((zs.length : Int) == 0) = false := by
  rw [beq_eq_false_iff_ne]; omega

/-- A Big is valid. -/
def validB (g : Bool) (zs : List Int) : Bool := if zs.length = 0 then !g else (decide (zs.length ≤ 512) && (zs.getD (zs.length - 1) 0 != 0))

end Go.Proofs.YtmacbfiolkpofabDoor
