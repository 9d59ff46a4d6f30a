/-
  Lists of dyadic numbers and of factors, written out.
-/
import Derived.Test.YtfgpknglgbpebadDyI5
namespace Go.Proofs.Ytfgpknglgbpebad
open Go.RowKit

/-- One Dyadic written out as a list. -/
theorem one_rowD {W : World} {b : Nat} {d : DV} (hb : b < W.heap.size) (h0 : W.cell? ⟨b, 0, none⟩ = some (.bool d.g)) (h1 : W.cell? ⟨b, 1, none⟩ = some (.slice d.a d.zs.length d.c)) (h2 : W.cell? ⟨b, 2, none⟩ = some (.int .i64 d.E)) (hr : RowAt .u32 W d.a d.zs) : RowD W b 0 [d] := by
  refine ⟨hb, ?_, ?_, ?_, ?_⟩
  all_goals
    intro i hi
    have : i = 0 := by simp at hi; omega
    subst this
    simpa

theorem two_rowD {W : World} {b : Nat} {d d' : DV} (hb : b < W.heap.size) (h0 : W.cell? ⟨b, 0, none⟩ = some (.bool d.g)) (h1 : W.cell? ⟨b, 1, none⟩ = some (.slice d.a d.zs.length d.c)) (h2 : W.cell? ⟨b, 2, none⟩ = some (.int .i64 d.E)) (h3 : W.cell? ⟨b, 3, none⟩ = some (.bool d'.g)) (h4 : W.cell? ⟨b, 4, none⟩ = some (.slice d'.a d'.zs.length d'.c)) (h5 : W.cell? ⟨b, 5, none⟩ = some (.int .i64 d'.E))
    (hr : RowAt .u32 W d.a d.zs) (hr' : RowAt .u32 W d'.a d'.zs) : RowD W b 0 [d, d'] := by
  refine ⟨hb, ?_, ?_, ?_, ?_⟩
  all_goals
    intro i hi
    have : i = 0 ∨ i = 1 := by simp at hi; omega
    rcases this with rfl | rfl
    · simpa
    · simpa

theorem two_rowT {W : World} {b b1 b2 c1 c2 : Nat} {d d' : DV} (hb : b < W.heap.size) (h0 : W.cell? ⟨b, 0, none⟩ = some (.slice (some ⟨b1, 0, none⟩) 1 c1)) (h1 : W.cell? ⟨b, 1, none⟩ = some (.slice (some ⟨b2, 0, none⟩) 1 c2)) (hr : RowD W b1 0 [d]) (hr' : RowD W b2 0 [d']) : RowT W b 0 [⟨b1, 0, c1, [d]⟩, ⟨b2, 0, c2, [d']⟩] := by
  refine ⟨hb, ?_, ?_⟩
  all_goals
    intro i hi
    have : i = 0 ∨ i = 1 := by simp at hi; omega
    rcases this with rfl | rfl
    · simpa
    · simpa

theorem one_rowT {W : World} {b b1 c1 : Nat} {ds : List DV} (hb : b < W.heap.size) (h0 : W.cell? ⟨b, 0, none⟩ = some (.slice (some ⟨b1, 0, none⟩) ds.length c1)) (hr : RowD W b1 0 ds) : RowT W b 0 [⟨b1, 0, c1, ds⟩] := by
  refine ⟨hb, ?_, ?_⟩
  all_goals
    intro i hi
    have : i = 0 := by simp at hi; omega
    subst this
    simpa

end Go.Proofs.Ytfgpknglgbpebad
