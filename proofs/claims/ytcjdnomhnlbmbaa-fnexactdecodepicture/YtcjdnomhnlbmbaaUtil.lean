/-
  The laws' own helpers over lists of 32-bit numbers: size, copy, equality.
-/
import Derived.Test.YtcjdnomhnlbmbaaBase
namespace Go.Proofs.Ytcjdnomhnlbmbaa
open Go.RowKit

theorem ret_bool {a b : Bool} (h : a = b) : Ending.returned (.bool a) = .returned (.bool b) := by rw [h]

theorem neq_of {zs ys : List Int} {k : Nat} (h : k < zs.length) (h' : k < ys.length) (hne : (zs[k] != ys[k]) = true) : decide (zs = ys) = false := by
  simp only [decide_eq_false_iff_not]
  intro e
  subst e
  simp at hne

theorem same_succ {zs ys : List Int} {k : Nat} (hs : ∀ j, j < k → zs.getD j 0 = ys.getD j 0) (h : k < zs.length) (h' : k < ys.length) (he : (zs[k] != ys[k]) = false) : Hid (∀ j, j < k + 1 → zs.getD j 0 = ys.getD j 0) := by
  intro j hj
  by_cases hk : j < k
  · exact hs j hk
  · have : j = k := by omega
    subst this
    simpa [List.getD_eq_getElem?_getD, h, h'] using he

theorem same_all {zs ys : List Int} (hl : zs.length = ys.length) (hs : ∀ j, j < zs.length → zs.getD j 0 = ys.getD j 0) : decide (zs = ys) = true := by
  simp only [decide_eq_true_eq]
  apply List.ext_getElem hl
  intro i h1 h2
  have := hs i h1
  simpa [List.getD_eq_getElem?_getD, h1, h2] using this

theorem fill_step (zs : List Int) (k : Nat) (h : k < zs.length) : (zs.take k ++ List.replicate (zs.length - k) 0).set k (zs.getD k 0) = zs.take (k + 1) ++ List.replicate (zs.length - (k + 1)) 0 := by
  apply List.ext_getElem?
  intro j
  simp only [List.getElem?_set, List.getElem?_append, List.getElem?_take, List.getElem?_replicate, List.length_append, List.length_take, List.length_replicate, List.getD_eq_getElem?_getD]
  by_cases e : k = j
  · subst e
    simp [Nat.min_eq_left (Nat.le_of_lt h), Nat.min_eq_left (show k + 1 ≤ zs.length from h), show k < k + (zs.length - k) from by omega, h]
  · by_cases h1 : j < k
    · simp [e, Nat.min_eq_left (Nat.le_of_lt h), Nat.min_eq_left (show k + 1 ≤ zs.length from h), h1, show j < k + 1 from by omega]
    · simp [e, Nat.min_eq_left (Nat.le_of_lt h), Nat.min_eq_left (show k + 1 ≤ zs.length from h), h1, show ¬ j < k + 1 from by omega, show (j - k < zs.length - k) = (j - (k + 1) < zs.length - (k + 1)) from propext (by omega)]

end Go.Proofs.Ytcjdnomhnlbmbaa
