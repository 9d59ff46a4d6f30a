/-
  An argument of the type laws.Dyadic, opened.
-/
import Derived.Test.YtladfpljnaippaaDoorOpen
namespace Go.Proofs.YtladfpljnaippaaDoor
open Go.ChangeShapes Go.WideShapes Go.ChangeAt Go.RowKit Go.Joins

theorem cellsDy : Tryd.prog.cellsOf 35 = 3 := by kernel_rfl
theorem cellsInt : Tryd.prog.cellsOf 3 = 1 := by kernel_rfl

set_option maxRecDepth 100000 in
theorem open_dy {H : Type} {enc : TypeId × Value → H} {W : World} {b0 : Nat} {v : Value} {d : DataW H} {p : List MemPlace} (hv : Value.okWide Tryd.prog W .any b0 35 v) (h : DataW.Trod enc Tryd.prog W 0 (fun _ => true) true 35 v d p) :
    ∃ (g : Bool) (a : Option Addr) (c : Nat) (zs : List Int) (E : Int), v = .agg #[.bool g, .slice a zs.length c, .int .i64 E] ∧ zs.length ≤ maxLen ∧ U32 zs ∧ RowAt .u32 W a zs := by
  obtain ⟨cs, rfl, hsz⟩ := okWide_struct Tryd.underlying35 hv
  obtain ⟨c0, c1, c2, rfl⟩ := array3 (hsz.trans cellsDy)
  obtain ⟨fuel, hf⟩ := h
  obtain ⟨y0, y1, n, _, _, h0, h1⟩ := trod_struct2 Tryd.underlying35 hf
  have h0' : DataW.trod enc Tryd.prog W 0 (fun _ => true) true n 33 [c0, c1] = some y0 := by simpa [Value.cells, cellsBig] using h0
  have h1' : DataW.trod enc Tryd.prog W 0 (fun _ => true) true n 3 [c2] = some y1 := by simpa [Value.cells, cellsInt] using h1
  obtain ⟨E, e2, _⟩ := DataW.trod_int Tryd.underlying3 h1'
  simp at e2
  subst e2
  obtain ⟨z0, z1, m, _, _, k0, k1⟩ := trod_struct2 Tryd.underlying33 h0'
  have k0' : DataW.trod enc Tryd.prog W 0 (fun _ => true) true m 4 [c0] = some z0 := by
    have : Tryd.prog.cellsOf 4 = 1 := by kernel_rfl
    simpa [this] using k0
  have k1' : DataW.trod enc Tryd.prog W 0 (fun _ => true) true m 23 [c1] = some z1 := by
    have : Tryd.prog.cellsOf 23 = 1 := by kernel_rfl
    simpa [this] using k1
  obtain ⟨g, e0, _⟩ := DataW.trod_bool Tryd.underlying4 k0'
  simp at e0
  subst e0
  rcases open_ints Tryd.underlying23 Tryd.underlying22 cellsU k1' with ⟨hcs, _⟩ | ⟨x, l, c, zs, hcs, _, hl, hm, hz, _, hcell, hwz⟩
  · simp at hcs
    subst hcs
    exact ⟨g, none, 0, [], E, rfl, by simp, (fun z hz => by cases hz), .inl rfl⟩
  · simp at hcs
    subst hcs
    have hzl : zs.length = c := by simpa using hz
    have ht : (zs.take l).length = l := by rw [List.length_take]; omega
    refine ⟨g, some x, c, zs.take l, E, by rw [ht], by rw [ht]; omega, u32_of (fun n hn => hwz n (List.mem_of_mem_take hn)), row_of ?_⟩
    intro i hi
    rw [ht] at hi
    rw [hcell i (by omega)]
    simp [List.getD_eq_getElem?_getD, hi]

end Go.Proofs.YtladfpljnaippaaDoor
