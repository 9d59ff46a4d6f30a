/-
  Bigs in boxes while a broad law runs.
-/
import Derived.Test.YtlbegmepmeimkabNumY
import Derived.Test.YtlbegmepmeimkabHas
import Derived.Test.YtlbegmepmeimkabCopy
namespace Go.Proofs.Ytlbegmepmeimkab
open Go.RowKit

/-- A Big in a box of the law's: sign, limbs, where they lie. -/
structure BigIn (T : Nat) (G : Bool) (a : Option Addr) (c : Nat) (Z : List Int) (W : World) : Prop where
  q0 : W.cell? ⟨T, 0, none⟩ = some (.bool G)
  q1 : W.cell? ⟨T, 1, none⟩ = some (.slice a Z.length c)
  lt : T < W.heap.size
  row : RowAt .u32 W a Z

theorem BigIn.later {T : Nat} {G : Bool} {a : Option Addr} {c : Nat} {Z : List Int} {W W' : World} (h : BigIn T G a c Z W) (hb : Below W.heap.size W W') : BigIn T G a c Z W' :=
  ⟨(hb.cell (p := ⟨T, 0, none⟩) h.lt).trans h.q0, (hb.cell (p := ⟨T, 1, none⟩) h.lt).trans h.q1, Nat.lt_of_lt_of_le h.lt hb.size, h.row.later hb⟩

theorem BigIn.start {G : Bool} {a : Option Addr} {c : Nat} {Z : List Int} {W : World} (t : TypeId) (h : RowAt .u32 W a Z) : BigIn W.heap.size G a c Z (W.alloc (.cells #[.bool G, .slice a Z.length c] t)) :=
  ⟨by simp [go_sem], by simp [go_sem], by simp, h.later (bel0 _ _)⟩

/-- The box was laid ahead of the call. -/
theorem BigIn.set {b B : Nat} {G : Bool} {a : Option Addr} {c : Nat} {Z : List Int} {W : World} (hr : RowNew .u32 W B a Z) (hb : b < B) (hh : Has b W) : BigIn b G a c Z ((W.setCell ⟨b, 0, none⟩ (.bool G)).setCell ⟨b, 1, none⟩ (.slice a Z.length c)) := by
  refine ⟨?_, ?_, by simpa using hh.lt, ((hr.setLow (by simpa using hb) _).setLow (by simpa using hb) _).row⟩
  · rw [World.cell?_setCell_other _ _ _ _ (by simp)]
    exact World.cell?_setCell_same _ _ _ hh.r1
  · refine World.cell?_setCell_same _ _ _ (u := .slice none 0 0) ?_
    rw [World.cell?_setCell_other _ _ _ _ (by simp)]
    exact hh.r2

end Go.Proofs.Ytlbegmepmeimkab
