/-
  The boxes of two Dyadics; an l2dy in a box.
-/
import Derived.Test.YtladfpljnaippaaDoorNumD
namespace Go.Proofs.YtladfpljnaippaaDoor
open Go.RowKit

/-- The boxes of two Dyadics behind w. -/
structure Bx6 (w : World) (u v e u' v' e' : Value) (W : World) : Prop where
  q0 : W.cell? ⟨w.heap.size, 0, none⟩ = some u
  q1 : W.cell? ⟨w.heap.size, 1, none⟩ = some v
  q2 : W.cell? ⟨w.heap.size, 2, none⟩ = some e
  p0 : W.cell? ⟨w.heap.size + 1, 0, none⟩ = some u'
  p1 : W.cell? ⟨w.heap.size + 1, 1, none⟩ = some v'
  p2 : W.cell? ⟨w.heap.size + 1, 2, none⟩ = some e'
  le : w.heap.size + 1 + 1 ≤ W.heap.size
  bel : Below w.heap.size w W

theorem Bx6.start (w : World) (u v e u' v' e' : Value) (t t' : TypeId) : Bx6 w u v e u' v' e' ((w.alloc (.cells #[u, v, e] t)).alloc (.cells #[u', v', e'] t')) := by
  refine ⟨?_, ?_, ?_, ?_, ?_, ?_, ?_, bel2 _ _ _⟩
  all_goals simp [go_sem]

theorem Bx6.later {w : World} {u v e u' v' e' : Value} {W W' : World} (h : Bx6 w u v e u' v' e' W) (hb : Below W.heap.size W W') : Bx6 w u v e u' v' e' W' := by
  have hl := h.le
  exact ⟨(hb.cell (by simp; omega)).trans h.q0, (hb.cell (by simp; omega)).trans h.q1, (hb.cell (by simp; omega)).trans h.q2, (hb.cell (by simp; omega)).trans h.p0, (hb.cell (by simp; omega)).trans h.p1, (hb.cell (by simp; omega)).trans h.p2, Nat.le_trans h.le hb.size, h.bel.trans (hb.mono (by omega))⟩

theorem Bx6.held {w : World} {u v e u' v' e' : Value} {W W' : World} (h : Bx6 w u v e u' v' e' W) (hb : Below W.heap.size W W') : W'.cell? ⟨w.heap.size, 0, none⟩ = some u ∧ W'.cell? ⟨w.heap.size, 1, none⟩ = some v ∧ W'.cell? ⟨w.heap.size, 2, none⟩ = some e ∧ W'.cell? ⟨w.heap.size + 1, 0, none⟩ = some u' ∧ W'.cell? ⟨w.heap.size + 1, 1, none⟩ = some v' ∧ W'.cell? ⟨w.heap.size + 1, 2, none⟩ = some e' ∧ Below W.heap.size W W' :=
  ⟨(h.later hb).q0, (h.later hb).q1, (h.later hb).q2, (h.later hb).p0, (h.later hb).p1, (h.later hb).p2, hb⟩

theorem held7 {p q r s t u v : Prop} (h : p ∧ q ∧ r ∧ s ∧ t ∧ u ∧ v) : v := h.2.2.2.2.2.2

/-- An l2dy in a box. -/
structure L2In (T : Nat) (g : Bool) (a : Option Addr) (c : Nat) (ds : List Int) (m e : Int) (W : World) : Prop where
  q0 : W.cell? ⟨T, 0, none⟩ = some (.bool g)
  q1 : W.cell? ⟨T, 1, none⟩ = some (.slice a ds.length c)
  l1 : L1 W g a c ds m

/-- A box of a struct of three that is still zero. -/
structure Has3 (b : Nat) (W : World) : Prop where
  r1 : W.cell? ⟨b, 0, none⟩ = some (.bool false)
  r2 : W.cell? ⟨b, 1, none⟩ = some (.slice none 0 0)
  r3 : W.cell? ⟨b, 2, none⟩ = some (.int .i64 0)
  r4 : ∀ j, W.frozen? ⟨b, j, none⟩ = false
  lt : b < W.heap.size

theorem Has3.new (W : World) (t : TypeId) : Has3 W.heap.size (W.alloc (.cells #[.bool false, .slice none 0 0, .int .i64 0] t)) := ⟨by simp [go_sem], by simp [go_sem], by simp [go_sem], by intro j; simp [go_sem], by simp⟩

theorem Has3.later {b : Nat} {W W' : World} (h : Has3 b W) (hb : Below W.heap.size W W') : Has3 b W' :=
  ⟨(hb.cell (p := ⟨b, 0, none⟩) h.lt).trans h.r1, (hb.cell (p := ⟨b, 1, none⟩) h.lt).trans h.r2, (hb.cell (p := ⟨b, 2, none⟩) h.lt).trans h.r3, fun j => (hb.frozen (p := ⟨b, j, none⟩) h.lt).trans (h.r4 j), Nat.lt_of_lt_of_le h.lt hb.size⟩

theorem L2In.start {g : Bool} {a : Option Addr} {c : Nat} {ds : List Int} {m e : Int} {W : World} (t : TypeId) (h : L1 W g a c ds m) : L2In W.heap.size g a c ds m e (W.alloc (.cells #[.bool g, .slice a ds.length c, .int .i64 e] t)) :=
  ⟨by simp [go_sem], by simp [go_sem], h.later (bel0 _ _)⟩

theorem L2In.set {b B : Nat} {g : Bool} {a : Option Addr} {c : Nat} {ds : List Int} {m e : Int} {W : World} (h : L1 W g a c ds m) (hf : Far B a ds) (hb : b < B) (hh : Has3 b W) : L2In b g a c ds m e (((W.setCell ⟨b, 0, none⟩ (.bool g)).setCell ⟨b, 1, none⟩ (.slice a ds.length c)).setCell ⟨b, 2, none⟩ (.int .i64 e)) := by
  refine ⟨?_, ?_, ((h.setFar hf (by simpa using hb) _).setFar hf (by simpa using hb) _).setFar hf (by simpa using hb) _⟩
  · rw [World.cell?_setCell_other _ _ _ _ (by simp), World.cell?_setCell_other _ _ _ _ (by simp)]
    exact World.cell?_setCell_same _ _ _ hh.r1
  · rw [World.cell?_setCell_other _ _ _ _ (by simp)]
    refine World.cell?_setCell_same _ _ _ (u := .slice none 0 0) ?_
    rw [World.cell?_setCell_other _ _ _ _ (by simp)]
    exact hh.r2

end Go.Proofs.YtladfpljnaippaaDoor
