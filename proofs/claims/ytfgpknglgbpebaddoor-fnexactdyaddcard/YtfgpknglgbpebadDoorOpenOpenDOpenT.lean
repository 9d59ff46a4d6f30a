/-
  An argument of the type laws.Big, opened.
-/
import Derived.Test.YtfgpknglgbpebadDoorBase
import Derived.ProofKit
import Derived.Lib.SmallJoins
import Derived.OpenShut
import Derived.Test.YtfgpknglgbpebadDoorTz
import Derived.LaidMore
import Derived.Stop.Joined
namespace Go.Proofs.YtfgpknglgbpebadDoor
open Go.ChangeShapes Go.WideShapes Go.ChangeAt Go.RowKit Go.Joins

theorem own : ownKnob Tryd.prog.godebug = none := by kernel_rfl
theorem laidOut : laidOutB Tryd.prog = true := by kernel_rfl
theorem cellsBig : Tryd.prog.cellsOf 24 = 2 := by kernel_rfl
theorem cellsU : Tryd.prog.cellsOf 74 = 1 := by kernel_rfl

theorem cell_lt {w : World} {p : Addr} {v : Value} (h : w.cell? p = some v) : p.block < w.heap.size := by
  unfold World.cell? at h
  by_cases hp : p.block < w.heap.size
  · exact hp
  · rw [Array.getElem?_eq_none (by omega)] at h
    simp at h

theorem row_of {w : World} {x : Addr} {k : IntKind} {zs : List Int} (hc : ∀ i, i < zs.length → w.cell? (x.add i) = some (.int k (zs.getD i 0))) : RowAt k w (some x) zs := by
  by_cases h0 : zs.length = 0
  · exact .inl (List.length_eq_zero_iff.1 h0)
  · obtain ⟨b, off, spot⟩ := x
    have h := hc 0 (by omega)
    have hspot : spot = none := by simpa [Addr.add] using World.cell?_spot h
    subst hspot
    refine .inr ⟨b, off, rfl, cell_lt h, fun j hj => ?_⟩
    have := hc j hj
    by_cases e : j = 0
    · subst e; simpa [Addr.add] using this
    · simpa [Addr.add, e] using this

theorem u32_of {zs : List Int} (h : ∀ n ∈ zs, (Lit.int .u32 n).wf = true) : U32 zs := by
  intro z hz
  have := bounds_u32 (h z hz)
  omega

set_option maxRecDepth 100000 in
theorem open_big {H : Type} {enc : TypeId × Value → H} {W : World} {b0 : Nat} {v : Value} {d : DataW H} {p : List MemPlace} (hv : Value.okWide Tryd.prog W .any b0 24 v) (h : DataW.Trod enc Tryd.prog W 0 (fun _ => true) true 24 v d p) :
    ∃ (g : Bool) (a : Option Addr) (c : Nat) (zs : List Int), v = .agg #[.bool g, .slice a zs.length c] ∧ zs.length ≤ maxLen ∧ U32 zs ∧ RowAt .u32 W a zs := by
  obtain ⟨v0, v1, y0, y1, m, rfl, _, _, hy0, hy1⟩ := open_agg2 Tryd.underlying24 (by kernel_rfl) cellsBig hv h
  obtain ⟨g, e0, _⟩ := DataW.trod_bool Tryd.underlying4 hy0
  simp at e0
  subst e0
  rcases open_ints Tryd.underlying22 Tryd.underlying74 cellsU hy1 with ⟨hcs, _⟩ | ⟨x, l, c, zs, hcs, _, hl, hm, hz, _, hcell, hwz⟩
  · simp at hcs
    subst hcs
    exact ⟨g, none, 0, [], rfl, by simp, (fun z hz => by cases hz), .inl rfl⟩
  · simp at hcs
    subst hcs
    have hzl : zs.length = c := by simpa using hz
    have ht : (zs.take l).length = l := by rw [List.length_take]; omega
    refine ⟨g, some x, c, zs.take l, by rw [ht], by rw [ht]; omega, u32_of (fun n hn => hwz n (List.mem_of_mem_take hn)), row_of ?_⟩
    intro i hi
    rw [ht] at hi
    rw [hcell i (by omega)]
    simp [List.getD_eq_getElem?_getD, hi]

end Go.Proofs.YtfgpknglgbpebadDoor

/-
  An argument of the type laws.Dyadic, opened.
-/
namespace Go.Proofs.YtfgpknglgbpebadDoor
open Go.ChangeShapes Go.WideShapes Go.ChangeAt Go.RowKit Go.Joins

theorem cellsDy : Tryd.prog.cellsOf 26 = 3 := by kernel_rfl
theorem cellsInt : Tryd.prog.cellsOf 3 = 1 := by kernel_rfl

set_option maxRecDepth 100000 in
theorem open_dy {H : Type} {enc : TypeId × Value → H} {W : World} {b0 : Nat} {v : Value} {d : DataW H} {p : List MemPlace} (hv : Value.okWide Tryd.prog W .any b0 26 v) (h : DataW.Trod enc Tryd.prog W 0 (fun _ => true) true 26 v d p) :
    ∃ (g : Bool) (a : Option Addr) (c : Nat) (zs : List Int) (E : Int), v = .agg #[.bool g, .slice a zs.length c, .int .i64 E] ∧ zs.length ≤ maxLen ∧ U32 zs ∧ RowAt .u32 W a zs := by
  obtain ⟨cs, rfl, hsz⟩ := okWide_struct Tryd.underlying26 hv
  obtain ⟨c0, c1, c2, rfl⟩ := array3 (hsz.trans cellsDy)
  obtain ⟨fuel, hf⟩ := h
  obtain ⟨y0, y1, n, _, _, h0, h1⟩ := trod_struct2 Tryd.underlying26 hf
  have h0' : DataW.trod enc Tryd.prog W 0 (fun _ => true) true n 24 [c0, c1] = some y0 := by simpa [Value.cells, cellsBig] using h0
  have h1' : DataW.trod enc Tryd.prog W 0 (fun _ => true) true n 3 [c2] = some y1 := by simpa [Value.cells, cellsInt] using h1
  obtain ⟨E, e2, _⟩ := DataW.trod_int Tryd.underlying3 h1'
  simp at e2
  subst e2
  obtain ⟨z0, z1, m, _, _, k0, k1⟩ := trod_struct2 Tryd.underlying24 h0'
  have k0' : DataW.trod enc Tryd.prog W 0 (fun _ => true) true m 4 [c0] = some z0 := by
    have : Tryd.prog.cellsOf 4 = 1 := by kernel_rfl
    simpa [this] using k0
  have k1' : DataW.trod enc Tryd.prog W 0 (fun _ => true) true m 22 [c1] = some z1 := by
    have : Tryd.prog.cellsOf 22 = 1 := by kernel_rfl
    simpa [this] using k1
  obtain ⟨g, e0, _⟩ := DataW.trod_bool Tryd.underlying4 k0'
  simp at e0
  subst e0
  rcases open_ints Tryd.underlying22 Tryd.underlying74 cellsU k1' with ⟨hcs, _⟩ | ⟨x, l, c, zs, hcs, _, hl, hm, hz, _, hcell, hwz⟩
  · simp at hcs
    subst hcs
    exact ⟨g, none, 0, [], E, rfl, by simp, (fun z hz => by cases hz), .inl rfl⟩
  · simp at hcs
    subst hcs
    have hzl : zs.length = c := by simpa using hz
    have ht : (zs.take l).length = l := by rw [List.length_take]; omega
    refine ⟨g, some x, c, zs.take l, E, by rw [ht], by rw [ht]; omega, u32_of (fun n hn => hwz n (List.mem_of_mem_take hn)), row_of ?_⟩
    intro i hi
    rw [ht] at hi
    rw [hcell i (by omega)]
    simp [List.getD_eq_getElem?_getD, hi]

end Go.Proofs.YtfgpknglgbpebadDoor

/-
  The table of math/bits, as the rows lay it.
-/
namespace Go.Proofs.YtfgpknglgbpebadDoor
open Go.ChangeShapes Go.WideShapes Go.ChangeAt Go.RowKit

def laidT : List (String × DataW Unit) := [("math/bits.deBruijn32tab", Rows.laid_math_bits_deBruijn32tab)]

theorem gTab : Tryd.prog.globalNamed "math/bits.deBruijn32tab" = some 0 := by kernel_rfl
theorem tTab : (Tryd.prog.globals[0]?).map (·.type) = some 89 := by kernel_rfl

/-- The door's own heap meets the condition. -/
theorem door_met (os : Os) (args : Array Value) : laidMetH Tryd.prog laidT ((World.doorLaid Tryd.prog 400 os).forCall (fun _ _ => 0) ⟨#[], args, []⟩).memory :=
  laidMetH_of_parts3 (fuel := 8) (laidMet_of_run' 8 (by kernel_rfl) (by kernel_rfl)) (by kernel_rfl) (by kernel_rfl)

theorem tab_of_laid {W : World} (h : laidMetH Tryd.prog laidT W) : Tab W := by
  rw [MakeChecks.laidMetH_plain _ _ _ (by kernel_rfl)] at h
  obtain ⟨ps, ⟨g0, t0, cs0, f0, p0, q0, hg0, ht0, hv0, hd0, _, _⟩, _, _⟩ := h
  obtain rfl := Option.some.inj (gTab.symm.trans hg0)
  obtain rfl := Option.some.inj (tTab.symm.trans ht0)
  obtain ⟨xs, m1, rfl, hx1, hlen, hn3, hel⟩ := DataW.trod_array Tryd.underlying89 hd0
  have c5 : Tryd.prog.cellsOf 5 = 1 := by kernel_rfl
  have hag : (Rows.laid_math_bits_deBruijn32tab : DataW Unit) = .agg (tzTab.map fun k => .lit (.int .u8 k)) := rfl
  have hmap : tzTab.map (fun k => (DataW.lit (.int .u8 k) : DataW Unit)) = xs.map (fun x => x.1) := by
    have h1 := (Prod.mk.inj hx1).1
    rw [hag] at h1
    exact DataW.agg.inj h1
  have hall : ∀ i, i < 32 → W.cell? ⟨0, i, none⟩ = some (.int .u8 (tzTab.getD i 0)) := by
    intro i hi
    have hxi : xs[i]? = some (xs[i]'(by omega)) := List.getElem?_eq_getElem (by omega)
    have h1 := hel i hi
    rw [c5, Nat.mul_one, hxi] at h1
    obtain ⟨k, e1, e2, _⟩ := DataW.trod_int Tryd.underlying5 h1
    have h2 : (xs.map (fun x => x.1))[i]? = some (DataW.lit (.int .u8 k)) := by rw [List.getElem?_map, hxi, e2]; rfl
    rw [← hmap, List.getElem?_map] at h2
    have hti : i < tzTab.length := hi
    rw [List.getElem?_eq_getElem hti] at h2
    have hk : tzTab[i] = k := by
      have h3 := Option.some.inj h2
      injection h3 with h4
      injection h4
    rw [World.var?_cell hg0 hv0 i]
    have h5 : (List.take 1 (List.drop i cs0.toList))[0]? = cs0[i]? := by
      rw [List.getElem?_take_of_lt (by decide), List.getElem?_drop]
      simp
    rw [← h5, e1, List.getD_eq_getElem?_getD, List.getElem?_eq_getElem hti, ← hk]
    rfl
  exact ⟨cell_lt (hall 0 (by decide)), hall⟩

end Go.Proofs.YtfgpknglgbpebadDoor
