/-
  Magnitudes that the program hands back.
-/
import Derived.Test.YtladfpljnaippabDoorImplB
import Derived.Test.YtladfpljnaippabDoorSpecD
namespace Go.Proofs.YtladfpljnaippabDoor
open Go.RowKit

/-- A magnitude in new memory: no zero at its upper end, of the value v, of at most n limbs. -/
def MagOut (w : World) (v : Int) (n : Nat) (e : Ending) (w' : World) : Prop :=
  ∃ (a : Option Addr) (c : Nat) (fs : List Int), e = .returned (.slice a fs.length c) ∧ fs.length ≤ c ∧ c ≤ maxLen ∧ Canon 4294967296 fs ∧ val 4294967296 fs = v ∧ fs.length ≤ n ∧ RowNew .u32 w' w.heap.size a fs ∧ Below w.heap.size w w'

theorem set_mid {l1 l2 : List Int} {z d : Int} {k : Nat} (h : l1.length = k) : (l1 ++ z :: l2).set k d = l1 ++ d :: l2 := by
  subst h
  simp

theorem own_step {out : List Int} {n k : Nat} {d : Int} (h : out.length = k) (hk : k < n) : (out ++ List.replicate (n + 1 - k) 0).set k d = (out ++ [d]) ++ List.replicate (n + 1 - (k + 1)) 0 := by
  rw [show n + 1 - k = (n + 1 - (k + 1)) + 1 by omega, List.replicate_succ, set_mid h]
  simp

theorem own_last {out : List Int} {n : Nat} {d : Int} (h : out.length = n) : (out ++ List.replicate (n + 1 - n) 0).set n d = out ++ [d] := by
  rw [show n + 1 - n = 0 + 1 by omega, List.replicate_succ, set_mid h]
  simp

end Go.Proofs.YtladfpljnaippabDoor
