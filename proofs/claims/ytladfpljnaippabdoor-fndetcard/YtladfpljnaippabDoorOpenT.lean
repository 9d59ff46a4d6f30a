/-
  The table of math/bits, as the rows lay it.
-/
import Derived.Test.YtladfpljnaippabDoorOpen
import Derived.Test.YtladfpljnaippabDoorTz
import Derived.LaidMore
import Derived.Stop.Joined
namespace Go.Proofs.YtladfpljnaippabDoor
open Go.ChangeShapes Go.WideShapes Go.ChangeAt Go.RowKit

def laidT : List (String × DataW Unit) := [("math/bits.deBruijn32tab", Rows.laid_math_bits_deBruijn32tab)]

theorem gTab : Tryd.prog.globalNamed "math/bits.deBruijn32tab" = some 1 := by kernel_rfl
theorem tTab : (Tryd.prog.globals[1]?).map (·.type) = some 142 := by kernel_rfl

/-- The door's own heap meets the condition. -/
theorem door_met (os : Os) (args : Array Value) : laidMetH Tryd.prog laidT ((World.doorLaid Tryd.prog 400 os).forCall (fun _ _ => 0) ⟨#[], args, []⟩).memory :=
  laidMetH_of_parts3 (fuel := 8) (laidMet_of_run' 8 (by kernel_rfl) (by kernel_rfl)) (by kernel_rfl) (by kernel_rfl)

set_option maxRecDepth 100000 in
theorem tab_of_laid {W : World} (h : laidMetH Tryd.prog laidT W) : Tab W := by
  rw [MakeChecks.laidMetH_plain _ _ _ (by kernel_rfl)] at h
  obtain ⟨ps, ⟨g0, t0, cs0, f0, p0, q0, hg0, ht0, hv0, hd0, _, _⟩, _, _⟩ := h
  obtain rfl := Option.some.inj (gTab.symm.trans hg0)
  obtain rfl := Option.some.inj (tTab.symm.trans ht0)
  obtain ⟨xs, m1, rfl, hx1, hlen, hn3, hel⟩ := DataW.trod_array Tryd.underlying142 hd0
  have c5 : Tryd.prog.cellsOf 5 = 1 := by kernel_rfl
  have hag : (Rows.laid_math_bits_deBruijn32tab : DataW Unit) = .agg (tzTab.map fun k => .lit (.int .u8 k)) := rfl
  have hmap : tzTab.map (fun k => (DataW.lit (.int .u8 k) : DataW Unit)) = xs.map (fun x => x.1) := by
    have h1 := (Prod.mk.inj hx1).1
    rw [hag] at h1
    exact DataW.agg.inj h1
  have hall : ∀ i, i < 32 → W.cell? ⟨1, i, none⟩ = some (.int .u8 (tzTab.getD i 0)) := by
    intro i hi
    have hxi : xs[i]? = some (xs[i]'(by omega)) := List.getElem?_eq_getElem (by omega)
    have h1 := hel i hi
    rw [c5, Nat.mul_one, hxi] at h1
    obtain ⟨k, e1, e2, _⟩ := DataW.trod_int Tryd.underlying5 h1
    have h2 : (xs.map (fun x => x.1))[i]? = some (DataW.lit (.int .u8 k)) := by rw [List.getElem?_map, hxi, e2]; rfl
    rw [← hmap, List.getElem?_map] at h2
    have hti : i < tzTab.length := hi
    rw [List.getElem?_eq_getElem hti] at h2
    have hk : tzTab[i] = k := by
      have h3 := Option.some.inj h2
      injection h3 with h4
      injection h4
    rw [World.var?_cell hg0 hv0 i]
    have h5 : (List.take 1 (List.drop i cs0.toList))[0]? = cs0[i]? := by
      rw [List.getElem?_take_of_lt (by decide), List.getElem?_drop]
      simp
    rw [← h5, e1, List.getD_eq_getElem?_getD, List.getElem?_eq_getElem hti, ← hk]
    rfl
  exact ⟨cell_lt (hall 0 (by decide)), hall⟩

end Go.Proofs.YtladfpljnaippabDoor
