/-
  'append([]T{}, s...)' as a step of a region that draws.
-/
import Derived.Test.YtfgpknglgbpebadDraw2
import Derived.Test.YtfgpknglgbpebadCopy
namespace Go.Proofs.Ytfgpknglgbpebad
open Go.RowKit

theorem own_empty {W : World} {bl base : Nat} {e : TypeId} {k : IntKind} (hbl : W.heap[bl]? = some (.cells #[] e (0, 0))) (hb : base ≤ bl) : W.ownsRow base e 1 (.slice (some ⟨bl, 0, none⟩) 0 0) 0 (vals k []) := by
  refine ⟨by simp [vals], .inr ⟨bl, 0, #[], rfl, hb, hbl, Nat.le_refl _, by unfold maxLen; omega, by simp, by simp [vals]⟩⟩

theorem appEs {k : IntKind} {bytes : Nat} {w0 : World} {ops : Array Oper} {o : Oper} {ac : Act} {K : Act → World → Prop} {Q : Exit → Act → World → Prop} {E : Prop} (hgd : o.guard = none) (s x : Operand) (t : TypeId)
    (ho : o.op = .call { callee := .builtin .append, args := #[s, x], argTypes := #[t, t] })
    (e : TypeId) (ht : Try.prog.underlying t = some (.slice e)) (hinfo : (Try.prog.info? e).map (fun i => (i.zero, i.size, i.bytes)) = some (some (.int k 0), 1, bytes)) (hby : bytes ≤ 8)
    (a : Option Addr) (c : Nat) (zs : List Int) (bl : Nat) (hbl : w0.heap[bl]? = some (.cells #[] e (0, 0))) (hs : ac.eval s = .slice (some ⟨bl, 0, none⟩) 0 0) (hx : ac.eval x = .slice a zs.length c) (hn : zs.length ≤ 8388608) (hnil : a = none → c = 0) (hc : zs.length ≤ c) (hr : RowAt k w0 a zs)
    (h : ∀ a' c' w', w'.ownsRow bl e 1 (.slice a' zs.length c') zs.length (vals k zs) → Aside bl w0 w' → K (ac.put o.dst (.slice a' zs.length c')) w') :
    if Region.wanted o (yielded ops ac.tmps) = true then Oper.wp Try.prog o ac w0 K Q else E := by
  have hw : Region.wanted o (yielded ops ac.tmps) = true := by simp [Region.wanted, hgd]
  rw [if_pos hw]
  obtain ⟨i0, hi, hz0, hz1, hz2⟩ := info_parts hinfo
  have hlt : bl < w0.heap.size := by
    by_cases hp : bl < w0.heap.size
    · exact hp
    · rw [Array.getElem?_eq_none (by omega)] at hbl; cases hbl
  cases a with
  | none =>
    have h0 := hnil rfl
    subst h0
    have hz : zs = [] := List.length_eq_zero_iff.1 (by omega)
    subst hz
    have hrun := run_append_owned_none (P := Try.prog) (w := w0) bl t o.type e i0 1 ht hi (.slice (some ⟨bl, 0, none⟩) 0 0) 0 (vals k []) (own_empty hbl (Nat.le_refl _))
    unfold Oper.wp execOp
    simp only [ho, resolve, invoke, builtin, Sem.run_bind, Sem.run_pure, Result.andThen_ok, List.map_toArray, List.map_cons, List.map_nil, hs, hx, List.length_nil, hrun]
    exact h _ _ w0 (own_empty hbl (Nat.le_refl _)) (Aside.refl _ _)
  | some ad =>
    have hb1 : zs.length * bytes ≤ zs.length * 8 := Nat.mul_le_mul_left _ hby
    refine wp_append_own _ s x t ho bl e i0 (.int k 0) 1 bytes ht hi hz0 hz1 hz2 rfl (by decide) (.slice (some ⟨bl, 0, none⟩) 0 0) 0 (vals k []) hs (own_empty hbl (Nat.le_refl _)) ad zs.length c (vals k zs) hx (by simp [vals]) ?_ ?_ ?_ ?_ (by omega) ?_
    · intro j u hj
      have hjl : j < zs.length := by
        by_cases hp : j < zs.length
        · exact hp
        · rw [List.getElem?_eq_none (by rw [vals_length]; omega)] at hj; cases hj
      rcases hr with hr | ⟨b, off, h1, h2, h3⟩
      · rw [hr] at hjl; simp at hjl
      · have e1 := Option.some.inj h1
        subst e1
        have hu : u = .int k (zs.getD j 0) := by
          simp [vals, hjl] at hj
          rw [← hj, List.getD_eq_getElem?_getD, List.getElem?_eq_getElem hjl]
          rfl
        rw [hu]
        have h4 := h3 j hjl
        by_cases e : j = 0
        · subst e; simpa [Addr.add] using h4
        · simpa [Addr.add, e] using h4
    · intro u hu
      simp [vals] at hu
      obtain ⟨z, _, rfl⟩ := hu
      rfl
    · unfold maxLen; omega
    · rw [Nat.zero_add]; omega
    · intro v' w' hown hgrow _
      rw [Nat.zero_add, show vals k [] = [] from rfl, List.nil_append] at hown
      obtain ⟨a', c', rfl⟩ : ∃ a' c', v' = .slice a' zs.length c' := by
        rcases hown.2 with ⟨h1, h2⟩ | ⟨g, cap, cur, h1, _⟩
        · rw [h2]; exact ⟨_, _, h1⟩
        · exact ⟨_, _, h1⟩
      refine h a' c' w' hown ?_
      exact ⟨hgrow.os, hgrow.tape, hgrow.output, hgrow.size, fun kk hk hne => hgrow.block kk hk (by simp [Value.ownBlock]; exact fun hh => hne hh)⟩

end Go.Proofs.Ytfgpknglgbpebad
