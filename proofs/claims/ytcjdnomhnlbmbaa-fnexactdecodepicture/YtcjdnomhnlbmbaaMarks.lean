/-
  Memory that the law itself marks: a frame for writes within known blocks; the laws' markers.
-/
import Derived.Test.YtcjdnomhnlbmbaaBigs
import Derived.Test.YtcjdnomhnlbmbaaWithin
namespace Go.Proofs.Ytcjdnomhnlbmbaa
open Go.RowKit

theorem ret_intM {k : IntKind} {a b : Int} (h : a = b) : Ending.returned (.int k a) = .returned (.int k b) := by rw [h]

/-- k, k + 1, .. : n numbers. -/
def marksL (k : Int) : Nat → List Int
  | 0 => []
  | n + 1 => k :: marksL (k + 1) n
theorem marks_length : ∀ (n : Nat) (k : Int), (marksL k n).length = n
  | 0, _ => rfl
  | n + 1, k => by simp [marksL, marks_length n]
theorem marks_get : ∀ (n : Nat) (k : Int) (j : Nat), j < n → (marksL k n).getD j 0 = k + j
  | 0, _, _, h => absurd h (by omega)
  | n + 1, k, 0, _ => by simp [marksL]
  | n + 1, k, j + 1, h => by
    have := marks_get n (k + 1) j (by omega)
    simp only [marksL, List.getD_cons_succ, this]
    omega

end Go.Proofs.Ytcjdnomhnlbmbaa
