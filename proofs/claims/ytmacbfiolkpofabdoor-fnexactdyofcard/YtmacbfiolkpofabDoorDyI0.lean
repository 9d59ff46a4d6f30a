/-
  The laws' helpers for Dyadics: sizes, copies, whether two are the same.
-/
import Derived.Test.YtmacbfiolkpofabDoorDy6
import Derived.Test.YtmacbfiolkpofabDoorBigs
import Derived.Test.YtmacbfiolkpofabDoorUtil
import Derived.Deep.RegionHeld3
namespace Go.Proofs.YtmacbfiolkpofabDoor
open Go.RowKit

set_option maxHeartbeats 2000000 in
theorem eq2_any (g : Bool) (a a' : Option Addr) (c c' : Nat) (zs : List Int) (E : Int) (w : World) (hn : zs.length ≤ maxLen) (hz : RowAt .u32 w a zs) (hy : RowAt .u32 w a' zs) :
    Calls Tryd.prog 6 #[.agg #[.bool g, .slice a zs.length c, .int .i64 E], .agg #[.bool g, .slice a' zs.length c', .int .i64 E]] w fun e w' => e = .returned (.bool true) ∧ Below w.heap.size w w' := by
  have B0 : Hid (∀ t t', Bx6 w (.bool g) (.slice a zs.length c) (.int .i64 E) (.bool g) (.slice a' zs.length c') (.int .i64 E) ((w.alloc (.cells #[.bool g, .slice a zs.length c, .int .i64 E] t)).alloc (.cells #[.bool g, .slice a' zs.length c', .int .i64 E] t'))) := fun t t' => Bx6.start w _ _ _ _ _ _ _ _
  have hEE : (E != E) = false := by simp
  go_enter Tryd.func6, Tryd.ntmps6
  go_wp2_with fail
  refine (eqB_any _ _ _ _ _ _ zs zs _ hn hn (hz.later (B0.out _ _).bel) (hy.later (B0.out _ _).bel)).mono ?_
  rintro e w1 ⟨rfl, hb1⟩
  rw [show decide (g = g ∧ zs = zs) = true from by simp]
  have F1 := (B0.out _ _).later hb1
  have q2 := F1.q2
  have p2 := F1.p2
  have HB : Hid (Below w.heap.size w w1) := F1.bel
  clear hb1 F1 B0
  go_wp2
  go_ret
  exact ⟨rfl, HB.out⟩

end Go.Proofs.YtmacbfiolkpofabDoor
