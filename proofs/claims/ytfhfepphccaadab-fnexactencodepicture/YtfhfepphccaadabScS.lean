/-
  Scenes as the laws measure, copy and compare them.
-/
import Derived.Test.YtfhfepphccaadabSdT
import Derived.Test.YtfhfepphccaadabSdR
import Derived.Test.YtfhfepphccaadabSdP
namespace Go.Proofs.Ytfhfepphccaadab
open Go.RowKit

/-- The three lists of a scene read as these numbers: 9 for each triangle, 6 for each ray, 3 for each light. -/
structure ScAt (w : World) (a1 a2 a3 : Option Addr) (n1 n2 n3 : Nat) (z1 z2 z3 : List Int) : Prop where
  l1 : z1.length = n1 * 9
  l2 : z2.length = n2 * 6
  l3 : z3.length = n3 * 3
  r1 : RowAt .u32 w a1 z1
  r2 : RowAt .u32 w a2 z2
  r3 : RowAt .u32 w a3 z3

theorem ScAt.later {w w' : World} {a1 a2 a3 : Option Addr} {n1 n2 n3 : Nat} {z1 z2 z3 : List Int} (h : ScAt w a1 a2 a3 n1 n2 n3 z1 z2 z3) (hb : Below w.heap.size w w') : ScAt w' a1 a2 a3 n1 n2 n3 z1 z2 z3 :=
  ⟨h.l1, h.l2, h.l3, h.r1.later hb, h.r2.later hb, h.r3.later hb⟩

/-- .. and lie, one behind the other, in memory from block lo to below hi, which may be written. -/
structure ScIn (w : World) (lo hi : Nat) (a1 a2 a3 : Option Addr) (n1 n2 n3 : Nat) (z1 z2 z3 : List Int) (m1 m2 : Nat) : Prop where
  l1 : z1.length = n1 * 9
  l2 : z2.length = n2 * 6
  l3 : z3.length = n3 * 3
  lo1 : lo ≤ m1
  m12 : m1 ≤ m2
  hi2 : m2 ≤ hi
  top : hi ≤ w.heap.size
  r1 : RowIn .u32 w lo m1 a1 z1
  r2 : RowIn .u32 w m1 m2 a2 z2
  r3 : RowIn .u32 w m2 hi a3 z3

theorem ScIn.at {w : World} {lo hi : Nat} {a1 a2 a3 : Option Addr} {n1 n2 n3 : Nat} {z1 z2 z3 : List Int} {m1 m2 : Nat} (h : ScIn w lo hi a1 a2 a3 n1 n2 n3 z1 z2 z3 m1 m2) : ScAt w a1 a2 a3 n1 n2 n3 z1 z2 z3 :=
  ⟨h.l1, h.l2, h.l3, h.r1.row, h.r2.row, h.r3.row⟩

theorem ScIn.later {w w' : World} {lo hi : Nat} {a1 a2 a3 : Option Addr} {n1 n2 n3 : Nat} {z1 z2 z3 : List Int} {m1 m2 : Nat} (h : ScIn w lo hi a1 a2 a3 n1 n2 n3 z1 z2 z3 m1 m2) (hb : Below w.heap.size w w') : ScIn w' lo hi a1 a2 a3 n1 n2 n3 z1 z2 z3 m1 m2 :=
  ⟨h.l1, h.l2, h.l3, h.lo1, h.m12, h.hi2, Nat.le_trans h.top hb.size, h.r1.later hb, h.r2.later hb, h.r3.later hb⟩

theorem ScIn.apart {w w' : World} {lo hi lo' hi' : Nat} {a1 a2 a3 : Option Addr} {n1 n2 n3 : Nat} {z1 z2 z3 : List Int} {m1 m2 : Nat} (h : ScIn w lo hi a1 a2 a3 n1 n2 n3 z1 z2 z3 m1 m2) (hw : Within lo' hi' w w') (hd : hi ≤ lo' ∨ hi' ≤ lo) : ScIn w' lo hi a1 a2 a3 n1 n2 n3 z1 z2 z3 m1 m2 :=
  have h1 := h.lo1
  have h2 := h.m12
  have h3 := h.hi2
  ⟨h.l1, h.l2, h.l3, h1, h2, h3, by rw [hw.size]; exact h.top, h.r1.apart hw (by omega), h.r2.apart hw (by omega), h.r3.apart hw (by omega)⟩

theorem within_set (w : World) (p : Addr) (v : Value) : Within p.block (p.block + 1) w (w.setCell p v) := (Within.refl _ _ _).setCell (Nat.le_refl _) (Nat.lt_succ_self _) _

/-- What szScene answers: below 0, or the lists are small. -/
def SzSc (w : World) (n1 n2 n3 : Nat) (e : Ending) (w' : World) : Prop := ∃ r : Int, e = .returned (.int .i64 r) ∧ (r < 0 ∨ (0 ≤ r ∧ n1 + n2 + n3 ≤ 1048576)) ∧ Below w.heap.size w w'

/-- What toScene answers: the same scene in new memory. -/
def ToSc (w : World) (n1 n2 n3 : Nat) (z1 z2 z3 : List Int) (e : Ending) (w' : World) : Prop :=
  ∃ b1 b2 b3 m1 m2, e = .returned (.agg #[.slice b1 n1 n1, .slice b2 n2 n2, .slice b3 n3 n3]) ∧ ScIn w' w.heap.size w'.heap.size b1 b2 b3 n1 n2 n3 z1 z2 z3 m1 m2 ∧ Below w.heap.size w w'

end Go.Proofs.Ytfhfepphccaadab
