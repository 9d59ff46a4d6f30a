/-
  The model's sums of numbers of two signs; differences, signs, order.
-/
import Derived.Test.YtcjdnomhnlbmbaaSpecESpecFSpecG
namespace Go.Proofs.Ytcjdnomhnlbmbaa
open Go.RowKit

/-- The boxes of two arguments and of the answer, in whatever later world. -/
structure AddF (w : World) (g g' : Bool) (v v' z : Value) (W : World) : Prop where
  s : AddS w g g' v v' W W
  r1 : W.cell? ⟨w.heap.size + 1 + 1, 0, none⟩ = some (.bool false)
  r2 : W.cell? ⟨w.heap.size + 1 + 1, 1, none⟩ = some z
  r3 : ∀ j, W.frozen? ⟨w.heap.size + 1 + 1, j, none⟩ = false
  le : w.heap.size + 1 + 1 + 1 ≤ W.heap.size
  bel : Below w.heap.size w W

theorem AddF.start (w : World) (g g' : Bool) (v v' z : Value) (t t' t2 : TypeId) : AddF w g g' v v' z (((w.alloc (.cells #[.bool g, v] t)).alloc (.cells #[.bool g', v'] t')).alloc (.cells #[.bool false, z] t2)) := by
  obtain ⟨h1, h2, h3, h4, h5, h6⟩ := addF w g g' v v' z t t' t2 _ rfl
  exact ⟨h1, h2, h3, h4, by omega, h6⟩

theorem AddF.later {w : World} {g g' : Bool} {v v' z : Value} {W W' : World} (h : AddF w g g' v v' z W) (hb : Below W.heap.size W W') : AddF w g g' v v' z W' := by
  have hle := h.le
  obtain ⟨a1, a2, a3, a4, _⟩ := addS_of h.s (hb.mono (by omega))
  exact ⟨⟨a1, a2, a3, a4, Below.refl _ _⟩, (hb.cell (by simp; omega)).trans h.r1, (hb.cell (by simp; omega)).trans h.r2, fun j => (hb.frozen (by simp; omega)).trans (h.r3 j), Nat.le_trans h.le hb.size, h.bel.trans (hb.mono (by omega))⟩

theorem cmpL_ge {B : Int} (hB : 0 < B) {xs ys : List Int} (hx : Canon B xs) (hy : Canon B ys) (h : 0 ≤ cmpL xs ys) : ys.length ≤ xs.length ∧ val B ys ≤ val B xs := by
  have hc := cmpL_val hB hx hy
  constructor
  · by_cases hl : xs.length < ys.length
    · unfold cmpL at h
      rw [if_neg (by omega), if_pos hl] at h
      omega
    · omega
  · rcases sgn_cases (val B xs - val B ys) with ⟨h1, h2⟩ | ⟨h1, h2⟩ | ⟨h1, h2⟩
    · omega
    · omega
    · omega

theorem cmpL_lt {B : Int} (hB : 0 < B) {xs ys : List Int} (hx : Canon B xs) (hy : Canon B ys) (h : cmpL xs ys < 0) : xs.length ≤ ys.length ∧ val B xs ≤ val B ys := by
  have hc := cmpL_val hB hx hy
  constructor
  · by_cases hl : ys.length < xs.length
    · unfold cmpL at h
      rw [if_neg (by omega), if_neg (by omega)] at h
      omega
    · omega
  · rcases sgn_cases (val B xs - val B ys) with ⟨h1, h2⟩ | ⟨h1, h2⟩ | ⟨h1, h2⟩
    · omega
    · omega
    · omega

end Go.Proofs.Ytcjdnomhnlbmbaa
