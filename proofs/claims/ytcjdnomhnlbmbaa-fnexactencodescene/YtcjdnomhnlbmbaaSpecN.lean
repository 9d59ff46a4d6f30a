/-
  The model's shifts up.
-/
import Derived.Test.YtcjdnomhnlbmbaaBox1
import Derived.Test.YtcjdnomhnlbmbaaNumS
namespace Go.Proofs.Ytcjdnomhnlbmbaa
open Go.RowKit

theorem pow16 (n : Int) (h : 0 ≤ n) : (65536 : Int) ^ (n / 16).toNat * 2 ^ (n % 16).toNat = 2 ^ n.toNat := by
  rw [show (65536 : Int) = 2 ^ 16 from rfl, ← Int.pow_mul, ← Int.pow_add]
  congr 1
  omega

/-- 2 to a count below 16. -/
theorem two16 (n : Int) : 0 < (2 : Int) ^ (n % 16).toNat ∧ (2 : Int) ^ (n % 16).toNat ≤ 32768 := by
  refine ⟨Int.pow_pos (by decide), ?_⟩
  have h : ∀ k, k < 16 → (2 : Int) ^ k ≤ 32768 := by decide
  exact h _ (by omega)

/-- What l1up hands back. -/
def UpOut (w : World) (n : Nat) (x : Int) (e : Ending) (w' : World) : Prop :=
  ∃ (g : Bool) (a : Option Addr) (c : Nat) (fs : List Int), e = .returned (.agg #[.bool g, .slice a fs.length c]) ∧ fs.length ≤ n ∧ L1 w' g a c fs x ∧ Far w.heap.size a fs ∧ Below w.heap.size w w'

end Go.Proofs.Ytcjdnomhnlbmbaa
