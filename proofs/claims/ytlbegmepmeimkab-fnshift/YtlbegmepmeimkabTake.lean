/-
  The laws' own helper: a byte of a code.
-/
import Derived.Test.YtlbegmepmeimkabCopy
namespace Go.Proofs.Ytlbegmepmeimkab
open Go.RowKit

set_option maxHeartbeats 400000 in
theorem take_any (a : Option Addr) (c : Nat) (bs : List Int) (w : World) (hn : bs.length ≤ 1048576) (hr : RowAt .u8 w a bs) (hb : Dig 256 bs) :
    Calls Try.prog 27 #[.slice a bs.length c, .int .i64 0] w fun e w' => ∃ v : Int, e = .returned (.int .i64 v) ∧ 0 ≤ v ∧ v ≤ 255 ∧ Below w.heap.size w w' := by
  by_cases h0 : bs.length = 0
  · go_enter Try.func27, Try.ntmps27
    go_wp2
    go_ret
    exact ⟨0, rfl, by decide, by decide, Below.refl _ _⟩
  · obtain ⟨b, off, rfl, g1⟩ := row_cell hr (Below.refl _ _) (show 0 < bs.length by omega)
    have hb0 := hb.at (by decide) 0
    obtain ⟨y, hy⟩ : ∃ y, y = bs.getD 0 0 := ⟨_, rfl⟩
    rw [← hy] at g1 hb0
    rw [Nat.add_zero] at g1
    obtain ⟨h1, h2⟩ := hb0
    have hl : ((bs.length : Int) == 0) = false := by rw [beq_eq_false_iff_ne]; omega
    have hlp : (0 : Int) < bs.length := by omega
    have hlq : ¬ (bs.length : Int) = 0 := by omega
    clear hy hr hb
    go_enter Try.func27, Try.ntmps27
    go_wp2
    go_ret
    exact ⟨y, rfl, h1, by omega, Below.refl _ _⟩

end Go.Proofs.Ytlbegmepmeimkab
