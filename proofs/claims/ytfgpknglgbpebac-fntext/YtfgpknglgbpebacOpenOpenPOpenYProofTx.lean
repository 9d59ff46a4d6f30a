/-
  An argument of the type laws.Big, opened.
-/
import Derived.Test.YtfgpknglgbpebacBase
import Derived.ProofKit
import Derived.Lib.SmallJoins
import Derived.OpenShut
import Derived.Test.YtfgpknglgbpebacCopy
import Derived.Test.YtfgpknglgbpebacLawTx
namespace Go.Proofs.Ytfgpknglgbpebac
open Go.ChangeShapes Go.WideShapes Go.ChangeAt Go.RowKit Go.Joins

theorem own : ownKnob Try.prog.godebug = none := by kernel_rfl
theorem laidOut : laidOutB Try.prog = true := by kernel_rfl
theorem cellsBig : Try.prog.cellsOf 37 = 2 := by kernel_rfl
theorem cellsU : Try.prog.cellsOf 43 = 1 := by kernel_rfl

theorem cell_lt {w : World} {p : Addr} {v : Value} (h : w.cell? p = some v) : p.block < w.heap.size := by
  unfold World.cell? at h
  by_cases hp : p.block < w.heap.size
  · exact hp
  · rw [Array.getElem?_eq_none (by omega)] at h
    simp at h

theorem row_of {w : World} {x : Addr} {k : IntKind} {zs : List Int} (hc : ∀ i, i < zs.length → w.cell? (x.add i) = some (.int k (zs.getD i 0))) : RowAt k w (some x) zs := by
  by_cases h0 : zs.length = 0
  · exact .inl (List.length_eq_zero_iff.1 h0)
  · obtain ⟨b, off, spot⟩ := x
    have h := hc 0 (by omega)
    have hspot : spot = none := by simpa [Addr.add] using World.cell?_spot h
    subst hspot
    refine .inr ⟨b, off, rfl, cell_lt h, fun j hj => ?_⟩
    have := hc j hj
    by_cases e : j = 0
    · subst e; simpa [Addr.add] using this
    · simpa [Addr.add, e] using this

theorem u32_of {zs : List Int} (h : ∀ n ∈ zs, (Lit.int .u32 n).wf = true) : U32 zs := by
  intro z hz
  have := bounds_u32 (h z hz)
  omega

set_option maxRecDepth 100000 in
theorem open_big {H : Type} {enc : TypeId × Value → H} {W : World} {b0 : Nat} {v : Value} {d : DataW H} {p : List MemPlace} (hv : Value.okWide Try.prog W .any b0 37 v) (h : DataW.Trod enc Try.prog W 0 (fun _ => true) true 37 v d p) :
    ∃ (g : Bool) (a : Option Addr) (c : Nat) (zs : List Int), v = .agg #[.bool g, .slice a zs.length c] ∧ zs.length ≤ maxLen ∧ U32 zs ∧ RowAt .u32 W a zs := by
  obtain ⟨v0, v1, y0, y1, m, rfl, _, _, hy0, hy1⟩ := open_agg2 Try.underlying37 (by kernel_rfl) cellsBig hv h
  obtain ⟨g, e0, _⟩ := DataW.trod_bool Try.underlying4 hy0
  simp at e0
  subst e0
  rcases open_ints Try.underlying23 Try.underlying43 cellsU hy1 with ⟨hcs, _⟩ | ⟨x, l, c, zs, hcs, _, hl, hm, hz, _, hcell, hwz⟩
  · simp at hcs
    subst hcs
    exact ⟨g, none, 0, [], rfl, by simp, (fun z hz => by cases hz), .inl rfl⟩
  · simp at hcs
    subst hcs
    have hzl : zs.length = c := by simpa using hz
    have ht : (zs.take l).length = l := by rw [List.length_take]; omega
    refine ⟨g, some x, c, zs.take l, by rw [ht], by rw [ht]; omega, u32_of (fun n hn => hwz n (List.mem_of_mem_take hn)), row_of ?_⟩
    intro i hi
    rw [ht] at hi
    rw [hcell i (by omega)]
    simp [List.getD_eq_getElem?_getD, hi]

end Go.Proofs.Ytfgpknglgbpebac

/-
  An argument of the type []byte, opened.
-/
namespace Go.Proofs.Ytfgpknglgbpebac
open Go.ChangeShapes Go.WideShapes Go.ChangeAt Go.RowKit Go.Joins

set_option maxRecDepth 100000 in
theorem cellsY : Try.prog.cellsOf 5 = 1 := by kernel_rfl

set_option maxRecDepth 100000 in
theorem open_bytes {H : Type} {enc : TypeId × Value → H} {W : World} {b0 : Nat} {v : Value} {d : DataW H} {p : List MemPlace} (hv : Value.okWide Try.prog W .any b0 22 v) (h : DataW.Trod enc Try.prog W 0 (fun _ => true) true 22 v d p) :
    ∃ (a : Option Addr) (c : Nat) (zs : List Int), v = .slice a zs.length c ∧ zs.length ≤ maxLen ∧ RowAt .u8 W a zs := by
  obtain ⟨a0, len0, cap0, rfl⟩ := okWide_slice Try.underlying22 hv
  obtain ⟨fuel, hf⟩ := h
  rcases open_ints Try.underlying22 Try.underlying5 cellsY hf with ⟨hcs, _⟩ | ⟨x, l, c, zs, hcs, _, hl, hm, hz, _, hcell, _⟩
  · simp [Value.cells] at hcs
    obtain ⟨rfl, rfl, rfl⟩ := hcs
    exact ⟨none, 0, [], rfl, by simp, .inl rfl⟩
  · simp [Value.cells] at hcs
    obtain ⟨rfl, rfl, rfl⟩ := hcs
    have hzl : zs.length = cap0 := by simpa using hz
    have ht : (zs.take len0).length = len0 := by rw [List.length_take]; omega
    refine ⟨some x, cap0, zs.take len0, by rw [ht], by rw [ht]; omega, row_of ?_⟩
    intro i hi
    rw [ht] at hi
    rw [hcell i (by omega)]
    simp [List.getD_eq_getElem?_getD, hi]

end Go.Proofs.Ytfgpknglgbpebac

/-
  An argument of bytes, opened with its bounds.
-/
namespace Go.Proofs.Ytfgpknglgbpebac
open Go.ChangeShapes Go.WideShapes Go.ChangeAt Go.RowKit Go.Joins

theorem dig_of {zs : List Int} (h : ∀ n ∈ zs, (Lit.int .u8 n).wf = true) : Dig 256 zs := by
  intro z hz
  have := bounds_u8 (h z hz)
  omega

set_option maxRecDepth 100000 in
theorem open_bytesY {H : Type} {enc : TypeId × Value → H} {W : World} {b0 : Nat} {v : Value} {d : DataW H} {p : List MemPlace} (hv : Value.okWide Try.prog W .any b0 22 v) (h : DataW.Trod enc Try.prog W 0 (fun _ => true) true 22 v d p) :
    ∃ (a : Option Addr) (c : Nat) (zs : List Int), v = .slice a zs.length c ∧ zs.length ≤ c ∧ c ≤ maxLen ∧ Nil0 a c ∧ Dig 256 zs ∧ RowAt .u8 W a zs := by
  obtain ⟨a0, len0, cap0, rfl⟩ := okWide_slice Try.underlying22 hv
  obtain ⟨fuel, hf⟩ := h
  rcases open_ints Try.underlying22 Try.underlying5 cellsY hf with ⟨hcs, _⟩ | ⟨x, l, c, zs, hcs, _, hl, hm, hz, _, hcell, hwz⟩
  · simp [Value.cells] at hcs
    obtain ⟨rfl, rfl, rfl⟩ := hcs
    exact ⟨none, 0, [], rfl, by simp, by unfold maxLen; omega, fun _ => rfl, Dig.nil _, .inl rfl⟩
  · simp [Value.cells] at hcs
    obtain ⟨rfl, rfl, rfl⟩ := hcs
    have hzl : zs.length = cap0 := by simpa using hz
    have ht : (zs.take len0).length = len0 := by rw [List.length_take]; omega
    refine ⟨some x, cap0, zs.take len0, by rw [ht], by rw [ht]; omega, by omega, (fun h => by cases h), dig_of (fun n hn => hwz n (List.mem_of_mem_take hn)), row_of ?_⟩
    intro i hi
    rw [ht] at hi
    rw [hcell i (by omega)]
    simp [List.getD_eq_getElem?_getD, hi]

end Go.Proofs.Ytfgpknglgbpebac

/-
  FnText: the given statement.
-/
namespace Go.Proofs.Ytfgpknglgbpebac
open Go.ChangeShapes Go.WideShapes Go.ChangeAt Go.RowKit

set_option maxRecDepth 100000 in
theorem fnText_lifted (os : Os) (started : os.Started) (H : Type) (enc : TypeId × Value → H) :
    ReturnsInHanded {} Try.checked os 3 .any (Rows.fnTextSpec.pre6 enc Try.prog Try.f3 Rows.fnTextRow.domain false) (Rows.fnTextSpec.post enc Try.prog Try.f3 false true false false) := by
  refine returnsInHanded_of_change (C := Try.checked) own started (by kernel_rfl) Try.func3
    (ChangeSpec.witness6 (enc := enc) (C := Try.checked) false ⟨#[], #[.slice none 0 0], []⟩ 8 (by kernel_rfl) (by kernel_rfl) (by kernel_rfl) (by kernel_rfl)) ?_
  intro W base args ds gs before hval0 hW _ _
  have hval : ∀ (j : Nat) t v, Try.f3.params[j]? = some t → args[j]? = some v → Value.okWide Try.prog W .any base t v := hval0
  have hW' := hW
  obtain ⟨p, q, hA0, hV, rfl, hfz, hnd⟩ := hW
  have hA : DataW.TrodAll enc Try.prog W 0 (fun _ => true) true Try.f3.params.toList args.toList ds p := hA0
  rw [Try.params3] at hA hval
  obtain ⟨v0, vs0, d0, ds0, p0, q0, hargs, rfl, rfl, h0, r0⟩ := trodAll_cons hA
  obtain ⟨rfl, rfl, rfl⟩ := trodAll_nil r0
  obtain rfl : args = #[v0] := by cases args; simp_all
  obtain ⟨rfl, rfl⟩ := trodVars_none hV
  have lt0 : ∀ x ∈ p0, x.block < W.heap.size := by obtain ⟨m, hm⟩ := h0; exact DataW.trod_lt m _ _ _ hm
  obtain ⟨a, c, bs, hv, hc, hm, hnil, hd, hr⟩ := open_bytesY (hval 0 22 v0 rfl rfl) h0
  clear hA0 hval0
  subst hv
  refine (lawTx_any a c bs W hc hm hnil hr hd).mono fun e W' ⟨he, bel⟩ => ?_
  subst he
  exact ⟨_, rfl, _, _, _, [], _, [], hW', trodAll_mk1 (shut_bool Try.underlying4 _), (trodAll_cons_mk (Below.trod laidOut (by kernel_rfl) (of_decide_eq_true (by kernel_rfl)) h0 bel lt0) trodAll_mk0), rfl, bel.frame _, fun h => by cases h⟩

theorem fnText_holds : Rows.FnTextSaid :=
  OpenClaim.holds_of_wide 3 Try.f3 rfl rfl rfl rfl rfl rfl rfl ⟨rfl, rfl, rfl, rfl, rfl⟩ rfl rfl rfl rfl rfl (by kernel_rfl) Try.func3 (by kernel_rfl)
    (of_decide_eq_true (by kernel_rfl)) (by unfold Func.isWrapper; first | (rw [if_pos (by decide +kernel)]; kernel_rfl) | (rw [if_neg (by decide +kernel)]; exact ⟨rfl, rfl⟩))
    (fun os started H enc _ => fnText_lifted os started H enc)

#print axioms fnText_holds
end Go.Proofs.Ytfgpknglgbpebac
