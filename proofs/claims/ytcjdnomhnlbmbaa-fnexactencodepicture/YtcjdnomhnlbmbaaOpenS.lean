/-
  An argument of the type laws.Scene, opened.
-/
import Derived.Test.YtcjdnomhnlbmbaaOpen
import Derived.Test.YtcjdnomhnlbmbaaScS
import Derived.Deep.Strs
namespace Go.Proofs.Ytcjdnomhnlbmbaa
open Go.ChangeShapes Go.WideShapes Go.ChangeAt Go.RowKit Go.Joins

/-- The cells are numbers of 32 bits. -/
def FlatC (cs : List Value) : Prop := ∀ v, v ∈ cs → ∃ z : Int, v = .int .u32 z ∧ 0 ≤ z ∧ z < 4294967296

theorem cellsPt : Try.prog.cellsOf 119 = 3 := by kernel_rfl
theorem cellsTri : Try.prog.cellsOf 121 = 9 := by kernel_rfl
theorem cellsRay : Try.prog.cellsOf 124 = 6 := by kernel_rfl
theorem cellsSc : Try.prog.cellsOf 44 = 3 := by kernel_rfl
theorem cellsLT : Try.prog.cellsOf 40 = 1 := by kernel_rfl
theorem cellsLR : Try.prog.cellsOf 41 = 1 := by kernel_rfl
theorem cellsLP : Try.prog.cellsOf 42 = 1 := by kernel_rfl

theorem open_u {H : Type} {enc : TypeId × Value → H} {W : World} {fuel : Nat} {cs : List Value} {y : DataW H × List MemPlace} (h : DataW.trod enc Try.prog W 0 (fun _ => true) true fuel 76 cs = some y) : FlatC cs := by
  obtain ⟨n, rfl, _, hw⟩ := DataW.trod_int Try.underlying76 h
  intro v hv
  simp at hv
  have := bounds_u32 hw
  exact ⟨n, hv, by omega, by omega⟩

theorem split3 {cs : List Value} {a b c : Nat} (hl : cs.length = a + b + c) (h1 : FlatC ((cs.drop 0).take a)) (h2 : FlatC ((cs.drop a).take b)) (h3 : FlatC ((cs.drop (a + b)).take c)) : FlatC cs := by
  intro v hv
  obtain ⟨m, hm, rfl⟩ := List.mem_iff_getElem.1 hv
  by_cases q1 : m < a
  · exact h1 _ (List.mem_iff_getElem.2 ⟨m, by simp; omega, by simp⟩)
  · by_cases q2 : m < a + b
    · exact h2 _ (List.mem_iff_getElem.2 ⟨m - a, by simp; omega, by simp [show a + (m - a) = m by omega]⟩)
    · exact h3 _ (List.mem_iff_getElem.2 ⟨m - (a + b), by simp; omega, by simp [show a + b + (m - (a + b)) = m by omega]⟩)

theorem open_ptc {H : Type} {enc : TypeId × Value → H} {W : World} {fuel : Nat} {cs : List Value} {y : DataW H × List MemPlace} (h : DataW.trod enc Try.prog W 0 (fun _ => true) true fuel 119 cs = some y) : FlatC cs := by
  obtain ⟨y0, y1, y2, n, _, hl, h0, h1, h2⟩ := Go.Deep.trod_struct3 Try.underlying119 h
  have e0 := open_u h0
  have e1 := open_u h1
  have e2 := open_u h2
  simp only [cellsU] at e0 e1 e2
  exact split3 (a := 1) (b := 1) (c := 1) (by rw [hl, cellsPt]) e0 e1 e2

theorem open_tric {H : Type} {enc : TypeId × Value → H} {W : World} {fuel : Nat} {cs : List Value} {y : DataW H × List MemPlace} (h : DataW.trod enc Try.prog W 0 (fun _ => true) true fuel 121 cs = some y) : FlatC cs := by
  obtain ⟨y0, y1, y2, n, _, hl, h0, h1, h2⟩ := Go.Deep.trod_struct3 Try.underlying121 h
  have e0 := open_ptc h0
  have e1 := open_ptc h1
  have e2 := open_ptc h2
  simp only [cellsPt] at e0 e1 e2
  exact split3 (a := 3) (b := 3) (c := 3) (by rw [hl, cellsTri]) e0 e1 e2

theorem open_rayc {H : Type} {enc : TypeId × Value → H} {W : World} {fuel : Nat} {cs : List Value} {y : DataW H × List MemPlace} (h : DataW.trod enc Try.prog W 0 (fun _ => true) true fuel 124 cs = some y) : FlatC cs := by
  obtain ⟨y0, y1, n, _, hl, h0, h1⟩ := trod_struct2 Try.underlying124 h
  have e0 := open_ptc h0
  have e1 := open_ptc h1
  simp only [cellsPt] at e0 e1
  exact split3 (a := 3) (b := 3) (c := 0) (by rw [hl, cellsRay]) e0 e1 (fun v hv => by simp at hv)

theorem each_int {P : Nat → Int → Prop} : ∀ n : Nat, (∀ i, i < n → ∃ z, P i z) → ∃ zs : List Int, zs.length = n ∧ ∀ i, i < n → P i (zs.getD i 0)
  | 0, _ => ⟨[], rfl, fun i hi => absurd hi (by omega)⟩
  | n + 1, h => by
    obtain ⟨zs, h1, h2⟩ := each_int n (fun i hi => h i (by omega))
    obtain ⟨z, hz⟩ := h n (by omega)
    refine ⟨zs ++ [z], by simp [h1], fun i hi => ?_⟩
    by_cases e : i < n
    · rw [List.getD_eq_getElem?_getD, List.getElem?_append_left (by omega), ← List.getD_eq_getElem?_getD]
      exact h2 i e
    · have e1 : i = n := by omega
      subst e1
      rw [List.getD_eq_getElem?_getD, List.getElem?_append_right (by omega), h1]
      simpa using hz

theorem open_flat {W : World} {k n : Nat} {x : Addr} (hk : 0 < k) (h : ∀ i, i < n → ∀ j, j < k → ∃ z : Int, W.cell? ((x.add (i * k)).add j) = some (.int .u32 z) ∧ 0 ≤ z ∧ z < 4294967296) :
    ∃ zs : List Int, zs.length = n * k ∧ U32 zs ∧ RowAt .u32 W (some x) zs := by
  have h1 : ∀ m, m < n * k → ∃ z : Int, W.cell? (x.add m) = some (.int .u32 z) ∧ 0 ≤ z ∧ z < 4294967296 := by
    intro m hm
    have := h (m / k) (Nat.div_lt_of_lt_mul (by rw [Nat.mul_comm]; exact hm)) (m % k) (Nat.mod_lt _ hk)
    rw [Addr.add_add, show m / k * k + m % k = m from Nat.div_add_mod' m k] at this
    exact this
  obtain ⟨zs, hl, hz⟩ := each_int (n * k) h1
  refine ⟨zs, hl, fun z hm => ?_, row_of fun i hi => (hz i (by omega)).1⟩
  obtain ⟨i, hi, rfl⟩ := List.mem_iff_getElem.1 hm
  have := (hz i (by omega)).2
  rwa [List.getD_eq_getElem?_getD, List.getElem?_eq_getElem hi] at this

theorem open_list {H : Type} {enc : TypeId × Value → H} {W : World} {fuel : Nat} {ts te : TypeId} {k : Nat} (hk : 0 < k) (hts : Try.prog.underlying ts = some (.slice te)) (hte : Try.prog.cellsOf te = k)
    (hel : ∀ {fuel : Nat} {cs : List Value} {y : DataW H × List MemPlace}, DataW.trod enc Try.prog W 0 (fun _ => true) true fuel te cs = some y → FlatC cs)
    {c0 : Value} {y : DataW H × List MemPlace} (h : DataW.trod enc Try.prog W 0 (fun _ => true) true fuel ts [c0] = some y) :
    ∃ (a : Option Addr) (n c : Nat) (zs : List Int), c0 = .slice a n c ∧ n ≤ maxLen ∧ zs.length = n * k ∧ U32 zs ∧ RowAt .u32 W a zs := by
  rcases DataW.trod_slice hts h with ⟨hcs, _⟩ | ⟨x, len, cap, elems, rest, n, _, hcs, _, hb, hl, hm, hlen, hels, _, _⟩
  · simp at hcs
    exact ⟨none, 0, 0, [], hcs, by simp, by simp, (fun z hz => by cases hz), .inl rfl⟩
  · simp at hcs
    have each : ∀ i, i < len → ∀ j, j < k → ∃ z : Int, W.cell? ((x.add (i * k)).add j) = some (.int .u32 z) ∧ 0 ≤ z ∧ z < 4294967296 := by
      intro i hi j hj
      have h1 := hels i hi
      rw [List.getElem?_eq_getElem (by omega), hte, Option.bind_eq_some_iff] at h1
      obtain ⟨cs, h2, h3⟩ := h1
      obtain ⟨_, h4, h5⟩ := World.cells?_some h2
      have h6 := hel h3
      have hj' : j < cs.length := by omega
      obtain ⟨z, hz, hz0, hz1⟩ := h6 cs[j] (List.getElem_mem hj')
      refine ⟨z, ?_, hz0, hz1⟩
      rw [h5 j (by omega), List.getElem?_eq_getElem hj', hz]
    obtain ⟨zs, q1, q2, q3⟩ := open_flat hk each
    exact ⟨some x, len, cap, zs, hcs, by omega, q1, q2, q3⟩

set_option maxRecDepth 100000 in
theorem open_scene {H : Type} {enc : TypeId × Value → H} {W : World} {b0 : Nat} {v : Value} {d : DataW H} {p : List MemPlace} (hv : Value.okWide Try.prog W .any b0 44 v) (h : DataW.Trod enc Try.prog W 0 (fun _ => true) true 44 v d p) :
    ∃ (a1 a2 a3 : Option Addr) (n1 n2 n3 c1 c2 c3 : Nat) (z1 z2 z3 : List Int), v = .agg #[.slice a1 n1 c1, .slice a2 n2 c2, .slice a3 n3 c3] ∧ n1 ≤ maxLen ∧ n2 ≤ maxLen ∧ n3 ≤ maxLen ∧ U32 z1 ∧ U32 z2 ∧ U32 z3 ∧ ScAt W a1 a2 a3 n1 n2 n3 z1 z2 z3 := by
  obtain ⟨cs, rfl, hsz⟩ := okWide_struct Try.underlying44 hv
  obtain ⟨v0, v1, v2, rfl⟩ := array3 (hsz.trans cellsSc)
  obtain ⟨fuel, hf⟩ := h
  obtain ⟨y0, y1, y2, n, _, _, h0, h1, h2⟩ := Go.Deep.trod_struct3 Try.underlying44 hf
  have h0' : DataW.trod enc Try.prog W 0 (fun _ => true) true n 40 [v0] = some y0 := by simpa [Value.cells, cellsLT] using h0
  have h1' : DataW.trod enc Try.prog W 0 (fun _ => true) true n 41 [v1] = some y1 := by simpa [Value.cells, cellsLR] using h1
  have h2' : DataW.trod enc Try.prog W 0 (fun _ => true) true n 42 [v2] = some y2 := by simpa [Value.cells, cellsLP] using h2
  obtain ⟨a1, n1, c1, z1, rfl, m1, l1, u1, r1⟩ := open_list (k := 9) (by decide) Try.underlying40 cellsTri (fun h => open_tric h) h0'
  obtain ⟨a2, n2, c2, z2, rfl, m2, l2, u2, r2⟩ := open_list (k := 6) (by decide) Try.underlying41 cellsRay (fun h => open_rayc h) h1'
  obtain ⟨a3, n3, c3, z3, rfl, m3, l3, u3, r3⟩ := open_list (k := 3) (by decide) Try.underlying42 cellsPt (fun h => open_ptc h) h2'
  exact ⟨a1, a2, a3, n1, n2, n3, c1, c2, c3, z1, z2, z3, rfl, m1, m2, m3, u1, u2, u3, l1, l2, l3, r1, r2, r3⟩

end Go.Proofs.Ytcjdnomhnlbmbaa
