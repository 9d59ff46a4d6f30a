/-
  The reader while an answer is drawn (for seats that have no DrawBigShift: else Draw5 has it).
-/
import Derived.Test.YtlbegmepmeimkabDraw4
namespace Go.Proofs.Ytlbegmepmeimkab
open Go.RowKit

/-- A Big in memory of its own. -/
def NewBig (w : World) (n : Nat) (G : Bool) (a : Option Addr) (c : Nat) (zs : List Int) (w' : World) : Prop :=
  zs.length ≤ n ∧ U32 zs ∧ w'.ownsRow w.heap.size 46 1 (.slice a zs.length c) zs.length (vals .u32 zs) ∧ Below w.heap.size w w' ∧ (G = true ∨ G = false)

/-- The reader (behind the answer's box R), and what it has left alone. -/
structure Ry (w : World) (R P : Nat) (W : World) : Prop where
  r1 : W.cell? ⟨R, 0, none⟩ = some (.bool false)
  r2 : W.cell? ⟨R, 1, none⟩ = some (.slice none 0 0)
  r3 : ∀ j, W.frozen? ⟨R, j, none⟩ = false
  bel : Below w.heap.size w W
  rd : Rd P W
  ord : w.heap.size ≤ R ∧ R < P ∧ P < W.heap.size

theorem Ry.start {w W : World} {t : TypeId} {e : Ending} (h : OpenOut (w.alloc (.cells #[.bool false, .slice none 0 0] t)) e W) : Ry w w.heap.size (w.heap.size + 1) W := by
  obtain ⟨_, h2, h3, h4⟩ := h
  simp at h2 h4
  refine ⟨?_, ?_, ?_, (bel0 _ _).trans (h3.mono (by simp)), h2, Nat.le_refl _, by omega, h2.lt⟩
  · rw [h3.cell (by simp)]; simp [go_sem]
  · rw [h3.cell (by simp)]; simp [go_sem]
  · intro j; rw [h3.frozen (by simp)]; simp [go_sem]

theorem Ry.aside {w : World} {R P : Nat} {W W' : World} (h : Ry w R P W) (ha : Aside P W W') (hr : Rd P W') : Ry w R P W' := by
  obtain ⟨o1, o2, o3⟩ := h.ord
  have hs := ha.size
  exact ⟨(ha.cell (by simp; omega) (by simp; omega)).trans h.r1, (ha.cell (by simp; omega) (by simp; omega)).trans h.r2, fun j => (ha.frozen (by simp; omega) (by simp; omega)).trans (h.r3 j), h.bel.trans (ha.below (by omega) (by omega)), hr, o1, o2, by omega⟩

/-- The Big is laid into the answer's box. -/
theorem Ry.out {w W0 W : World} {R P n : Nat} {G : Bool} {a : Option Addr} {c : Nat} {zs : List Int} (h : Ry w R P W0) (ha : Aside P W0 W) (hown : W.ownsRow W0.heap.size 46 1 (.slice a zs.length c) zs.length (vals .u32 zs)) (hu : U32 zs) (hn : zs.length ≤ n) :
    NewBig w n G a c zs ((W.setCell ⟨R, 0, none⟩ (.bool G)).setCell ⟨R, 1, none⟩ (.slice a zs.length c)) := by
  obtain ⟨o1, o2, o3⟩ := h.ord
  refine ⟨hn, hu, own_mono (own_set (own_set hown (by simp; omega) _) (by simp; omega) _) (by omega), ?_, by cases G <;> simp⟩
  exact ((h.bel.trans (ha.below (by omega) (by omega))).setCell (by simp; omega) _).setCell (by simp; omega) _

end Go.Proofs.Ytlbegmepmeimkab
