/-
  The program's shifts up.
-/
import Derived.Test.YtmacbfiolkpofabDoorImplC0
import Derived.Test.YtmacbfiolkpofabDoorNumX
import Derived.Test.YtmacbfiolkpofabDoorRes
namespace Go.Proofs.YtmacbfiolkpofabDoor
open Go.RowKit

/-- The row of a shift up that has come to limb k: zeros below, k limbs done, the carry, zeros above. -/
def upRow (s : Nat) (D : List Int) (c : Int) (m : Nat) : List Int := List.replicate s 0 ++ (D ++ c :: List.replicate m 0)

theorem upRow_length (s : Nat) (D : List Int) (c : Int) (m : Nat) : (upRow s D c m).length = s + (D.length + (m + 1)) := by simp [upRow]

theorem upRow_get (s : Nat) (D : List Int) (c : Int) (m : Nat) : (upRow s D c m).getD (s + D.length) 0 = c := by
  unfold upRow
  rw [List.getD_eq_getElem?_getD, List.getElem?_append_right (by simp), List.length_replicate, show s + D.length - s = D.length by omega, List.getElem?_append_right (Nat.le_refl _)]
  simp

theorem upRow_set (s : Nat) (D : List Int) (c d e : Int) (m : Nat) : ((upRow s D c (m + 1)).set (s + D.length) d).set (s + D.length + 1) e = upRow s (D ++ [d]) e m := by
  unfold upRow
  rw [List.replicate_succ]
  have h1 : (List.replicate s (0 : Int) ++ (D ++ c :: 0 :: List.replicate m 0)).set (s + D.length) d = List.replicate s 0 ++ (D ++ d :: 0 :: List.replicate m 0) := by
    rw [List.set_append_right _ _ (by simp), List.length_replicate, show s + D.length - s = D.length by omega, List.set_append_right _ _ (Nat.le_refl _)]
    simp
  rw [h1, List.set_append_right _ _ (by simp; omega), List.length_replicate, show s + D.length + 1 - s = D.length + 1 by omega, List.set_append_right _ _ (by omega)]
  simp

end Go.Proofs.YtmacbfiolkpofabDoor
