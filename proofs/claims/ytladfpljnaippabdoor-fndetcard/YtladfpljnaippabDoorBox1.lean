/-
  The box of one argument and the answer's box, in whatever later world; rows that are made and then grow.
-/
import Derived.Test.YtladfpljnaippabDoorSpecD
namespace Go.Proofs.YtladfpljnaippabDoor
open Go.RowKit

/-- A struct of two cells lies behind w, and the answer's, still zero, behind that; nothing of w has turned. -/
structure Bx1 (w : World) (u v : Value) (W : World) : Prop where
  q0 : W.cell? ⟨w.heap.size, 0, none⟩ = some u
  q1 : W.cell? ⟨w.heap.size, 1, none⟩ = some v
  r1 : W.cell? ⟨w.heap.size + 1, 0, none⟩ = some (.bool false)
  r2 : W.cell? ⟨w.heap.size + 1, 1, none⟩ = some (.slice none 0 0)
  r3 : ∀ j, W.frozen? ⟨w.heap.size + 1, j, none⟩ = false
  le : w.heap.size + 1 + 1 ≤ W.heap.size
  bel : Below w.heap.size w W

theorem Bx1.start (w : World) (u v : Value) (t t' : TypeId) : Bx1 w u v ((w.alloc (.cells #[u, v] t)).alloc (.cells #[.bool false, .slice none 0 0] t')) := by
  refine ⟨?_, ?_, ?_, ?_, ?_, ?_, bel2 _ _ _⟩
  all_goals simp [go_sem]

theorem Bx1.on {w : World} {u v : Value} {W W' : World} (h : Bx1 w u v W) (hb : Below (w.heap.size + 1 + 1) W W') : Bx1 w u v W' :=
  ⟨(hb.cell (by simp; omega)).trans h.q0, (hb.cell (by simp; omega)).trans h.q1, (hb.cell (by simp)).trans h.r1, (hb.cell (by simp)).trans h.r2, fun j => (hb.frozen (by simp)).trans (h.r3 j), Nat.le_trans h.le hb.size, h.bel.trans (hb.mono (by omega))⟩

theorem Bx1.later {w : World} {u v : Value} {W W' : World} (h : Bx1 w u v W) (hb : Below W.heap.size W W') : Bx1 w u v W' := h.on (hb.mono h.le)

theorem Bx1.held {w : World} {u v : Value} {W W' : World} (h : Bx1 w u v W) (hb : Below (w.heap.size + 1) W W') : W'.cell? ⟨w.heap.size, 0, none⟩ = some u ∧ W'.cell? ⟨w.heap.size, 1, none⟩ = some v ∧ Below (w.heap.size + 1) W W' :=
  ⟨(hb.cell (by simp)).trans h.q0, (hb.cell (by simp)).trans h.q1, hb⟩

/-- A made row is the call's own. -/
theorem own_made (w : World) (n : Nat) (e : TypeId) (k : IntKind) (base : Nat) (hb : base ≤ w.heap.size) (hn : n ≤ maxLen) : (w.alloc (.cells (madeCells #[.int k 0] n) e)).ownsRow base e 1 (.slice (some ⟨w.heap.size, 0, none⟩) n n) (List.replicate n (0 : Int)).length (vals k (List.replicate n 0)) := by
  refine ⟨by simp [vals], .inr ⟨w.heap.size, n, madeCells #[.int k 0] n, by simp, hb, by (first | exact heap_alloc_new _ _ | exact Go.RowKit.heap_alloc_new _ _ | exact Go.heap_alloc_new _ _), by simp, hn, by simp [size_madeCells], ?_⟩⟩
  apply List.ext_getElem?
  intro j
  rw [List.getElem?_take]
  by_cases hj : j < n
  · simp [hj, vals, madeCells, Nat.mod_one]
  · simp [hj, vals]

end Go.Proofs.YtladfpljnaippabDoor
