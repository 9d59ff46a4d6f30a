/-
  The program's negated Bigs, and its one.
-/
import Derived.Test.YtlbegmepmeimkabImplB
import Derived.Test.YtlbegmepmeimkabBox1
import Derived.Test.YtlbegmepmeimkabRes
namespace Go.Proofs.Ytlbegmepmeimkab
open Go.RowKit

set_option maxRecDepth 100000 in
set_option maxHeartbeats 4000000 in
theorem negB_any (g : Bool) (a : Option Addr) (n c : Nat) (w : World) :
    Calls Try.prog 68 #[.agg #[.bool g, .slice a n c]] w fun e w' => e = .returned (.agg #[.bool (!g && decide (0 < n)), .slice a n c]) ∧ Below w.heap.size w w' := by
  have B0 : Hid (∀ t t', Bx1 w (.bool g) (.slice a n c) ((w.alloc (.cells #[.bool g, .slice a n c] t)).alloc (.cells #[.bool false, .slice none 0 0] t'))) := fun t t' => Bx1.start w _ _ _ _
  go_enter Try.func68, Try.ntmps68
  go_wp2_with fail
  refine (signed_any (!g) a n c _).mono ?_
  rintro e w2 ⟨rfl, hb2⟩
  have F2 : Hid (Bx1 w (.bool g) (.slice a n c) w2) := (B0.out _ _).later hb2
  have r1 := F2.out.r1
  have r2 := F2.out.r2
  have r3 := F2.out.r3
  have zz : w.heap.size + 1 < w2.heap.size := F2.out.le
  clear hb2 B0
  obtain ⟨G, hG⟩ : ∃ G, G = (!g && decide (0 < n)) := ⟨_, rfl⟩
  rw [← hG]
  have HG : Hid (G = (!g && decide (0 < n))) := hG
  clear hG
  go_wp2
  refine bodyPost_ret (v := .agg #[.bool G, .slice a n c]) (by simp [results, Try.results68, go_sem, r1, r2]) rfl ?_
  exact ⟨by rw [HG.out], (F2.out.bel.setCell (by simp) _).setCell (by simp) _⟩

end Go.Proofs.Ytlbegmepmeimkab
