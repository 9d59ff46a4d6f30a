/-
  The law of the order of floats, walked.
-/
import Derived.Test.YtladfpljnaippaaSpecFo
import Derived.Test.YtladfpljnaippaaFoI
namespace Go.Proofs.Ytladfpljnaippaa
open Go.RowKit

set_option maxHeartbeats 1000000 in
theorem lawFo_same (a b r k : Int) (w : World)
    (HS : ∀ w, Calls Try.prog 6 #[.int .u32 a, .int .u32 b] w fun e w' => e = .returned (.tuple #[.int .i64 r, .int .i64 k]) ∧ Below w.heap.size w w')
    (HI : ∀ w, Calls Try.prog 7 #[.int .u32 a, .int .u32 b] w fun e w' => e = .returned (.tuple #[.int .i64 r, .int .i64 k]) ∧ Below w.heap.size w w') :
    Calls Try.prog 3 #[.int .u32 a, .int .u32 b] w fun e w' => e = .returned (.bool true) ∧ Below w.heap.size w w' := by
  go_enter Try.func3, Try.ntmps3
  go_wp2_with fail
  refine (HS _).mono ?_
  rintro e w1 ⟨rfl, hb1⟩
  go_wp2_with fail
  refine (HI _).mono ?_
  rintro e w2 ⟨rfl, hb2⟩
  have HB : Hid (Below w.heap.size w w2) := hb1.trans (hb2.mono hb1.size)
  clear hb1 hb2 HS HI
  go_wp2
  go_ret
  exact ⟨rfl, HB.out⟩

theorem lawFo_any (a b : Int) (w : World) (a0 : 0 ≤ a) (a1 : a < 4294967296) (b0 : 0 ≤ b) (b1 : b < 4294967296) :
    Calls Try.prog 3 #[.int .u32 a, .int .u32 b] w fun e w' => e = .returned (.bool true) ∧ Below w.heap.size w w' := by
  cases h : fFin a && fFin b
  · exact lawFo_same a b 0 1 w (fun w => orderS_bad a b w a0 a1 b0 b1 h) (fun w => orderI_bad a b w a0 a1 b0 b1 h)
  · obtain ⟨fa, fb⟩ := Bool.and_eq_true_iff.1 h
    exact lawFo_same a b _ 0 w (fun w => orderS_ok a b w a0 a1 b0 b1 fa fb) (fun w => orderI_ok a b w a0 a1 b0 b1 fa fb)

end Go.Proofs.Ytladfpljnaippaa
