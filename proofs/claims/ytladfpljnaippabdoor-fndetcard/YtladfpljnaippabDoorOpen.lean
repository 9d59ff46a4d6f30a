/-
  An argument of the type laws.Big, opened.
-/
import Derived.Test.YtladfpljnaippabDoorBase
import Derived.ProofKit
import Derived.Lib.SmallJoins
import Derived.OpenShut
namespace Go.Proofs.YtladfpljnaippabDoor
open Go.ChangeShapes Go.WideShapes Go.ChangeAt Go.RowKit Go.Joins

theorem own : ownKnob Tryd.prog.godebug = none := by kernel_rfl
theorem laidOut : laidOutB Tryd.prog = true := by kernel_rfl
theorem cellsBig : Tryd.prog.cellsOf 103 = 2 := by kernel_rfl
theorem cellsU : Tryd.prog.cellsOf 33 = 1 := by kernel_rfl

theorem cell_lt {w : World} {p : Addr} {v : Value} (h : w.cell? p = some v) : p.block < w.heap.size := by
  unfold World.cell? at h
  by_cases hp : p.block < w.heap.size
  · exact hp
  · rw [Array.getElem?_eq_none (by omega)] at h
    simp at h

theorem row_of {w : World} {x : Addr} {k : IntKind} {zs : List Int} (hc : ∀ i, i < zs.length → w.cell? (x.add i) = some (.int k (zs.getD i 0))) : RowAt k w (some x) zs := by
  by_cases h0 : zs.length = 0
  · exact .inl (List.length_eq_zero_iff.1 h0)
  · obtain ⟨b, off, spot⟩ := x
    have h := hc 0 (by omega)
    have hspot : spot = none := by simpa [Addr.add] using World.cell?_spot h
    subst hspot
    refine .inr ⟨b, off, rfl, cell_lt h, fun j hj => ?_⟩
    have := hc j hj
    by_cases e : j = 0
    · subst e; simpa [Addr.add] using this
    · simpa [Addr.add, e] using this

theorem u32_of {zs : List Int} (h : ∀ n ∈ zs, (Lit.int .u32 n).wf = true) : U32 zs := by
  intro z hz
  have := bounds_u32 (h z hz)
  omega

set_option maxRecDepth 100000 in
theorem open_big {H : Type} {enc : TypeId × Value → H} {W : World} {b0 : Nat} {v : Value} {d : DataW H} {p : List MemPlace} (hv : Value.okWide Tryd.prog W .any b0 103 v) (h : DataW.Trod enc Tryd.prog W 0 (fun _ => true) true 103 v d p) :
    ∃ (g : Bool) (a : Option Addr) (c : Nat) (zs : List Int), v = .agg #[.bool g, .slice a zs.length c] ∧ zs.length ≤ maxLen ∧ U32 zs ∧ RowAt .u32 W a zs := by
  obtain ⟨v0, v1, y0, y1, m, rfl, _, _, hy0, hy1⟩ := open_agg2 Tryd.underlying103 (by kernel_rfl) cellsBig hv h
  obtain ⟨g, e0, _⟩ := DataW.trod_bool Tryd.underlying4 hy0
  simp at e0
  subst e0
  rcases open_ints Tryd.underlying25 Tryd.underlying33 cellsU hy1 with ⟨hcs, _⟩ | ⟨x, l, c, zs, hcs, _, hl, hm, hz, _, hcell, hwz⟩
  · simp at hcs
    subst hcs
    exact ⟨g, none, 0, [], rfl, by simp, (fun z hz => by cases hz), .inl rfl⟩
  · simp at hcs
    subst hcs
    have hzl : zs.length = c := by simpa using hz
    have ht : (zs.take l).length = l := by rw [List.length_take]; omega
    refine ⟨g, some x, c, zs.take l, by rw [ht], by rw [ht]; omega, u32_of (fun n hn => hwz n (List.mem_of_mem_take hn)), row_of ?_⟩
    intro i hi
    rw [ht] at hi
    rw [hcell i (by omega)]
    simp [List.getD_eq_getElem?_getD, hi]

end Go.Proofs.YtladfpljnaippabDoor
