/-
  The boxes of two arguments, in whatever later world.
-/
import Derived.Test.YtladfpljnaippabDoorBigs
import Derived.Test.YtladfpljnaippabDoorNum
namespace Go.Proofs.YtladfpljnaippabDoor
open Go.RowKit

/-- Two structs of two cells each lie in the two blocks behind w; nothing of w has turned. -/
structure Bx2 (w : World) (u v u' v' : Value) (W : World) : Prop where
  q0 : W.cell? ⟨w.heap.size, 0, none⟩ = some u
  q1 : W.cell? ⟨w.heap.size, 1, none⟩ = some v
  q2 : W.cell? ⟨w.heap.size + 1, 0, none⟩ = some u'
  q3 : W.cell? ⟨w.heap.size + 1, 1, none⟩ = some v'
  le : w.heap.size + 1 + 1 ≤ W.heap.size
  bel : Below w.heap.size w W

theorem Bx2.start (w : World) (u v u' v' : Value) (t t' : TypeId) : Bx2 w u v u' v' ((w.alloc (.cells #[u, v] t)).alloc (.cells #[u', v'] t')) := by
  refine ⟨?_, ?_, ?_, ?_, ?_, bel2 _ _ _⟩
  all_goals simp [go_sem]

theorem Bx2.later {w : World} {u v u' v' : Value} {W W' : World} (h : Bx2 w u v u' v' W) (hb : Below W.heap.size W W') : Bx2 w u v u' v' W' := by
  have hle := h.le
  exact ⟨(hb.cell (by simp; omega)).trans h.q0, (hb.cell (by simp; omega)).trans h.q1, (hb.cell (by simp; omega)).trans h.q2, (hb.cell (by simp; omega)).trans h.q3, Nat.le_trans h.le hb.size, h.bel.trans (hb.mono (by omega))⟩

/-- What a region needs of it. -/
theorem Bx2.held {w : World} {u v u' v' : Value} {W W' : World} (h : Bx2 w u v u' v' W) (hb : Below W.heap.size W W') : W'.cell? ⟨w.heap.size, 0, none⟩ = some u ∧ W'.cell? ⟨w.heap.size, 1, none⟩ = some v ∧ W'.cell? ⟨w.heap.size + 1, 0, none⟩ = some u' ∧ W'.cell? ⟨w.heap.size + 1, 1, none⟩ = some v' ∧ Below W.heap.size W W' :=
  ⟨(h.later hb).q0, (h.later hb).q1, (h.later hb).q2, (h.later hb).q3, hb⟩

theorem valid_canon {g : Bool} {zs : List Int} (hu : U32 zs) (h : validB g zs = true) : Canon 4294967296 zs ∧ zs.length ≤ 512 ∧ (g = true → zs ≠ []) := by
  unfold validB at h
  by_cases h0 : zs.length = 0
  · rw [if_pos h0] at h
    have : zs = [] := List.length_eq_zero_iff.1 h0
    subst this
    exact ⟨⟨Dig.nil _, rfl⟩, by simp, fun hg => by subst hg; simp at h⟩
  · rw [if_neg h0] at h
    simp only [Bool.and_eq_true, decide_eq_true_eq, bne_iff_ne, ne_eq] at h
    exact ⟨canon_last hu h0 h.2, h.1, fun _ e => h0 (by simp [e])⟩

end Go.Proofs.YtladfpljnaippabDoor
