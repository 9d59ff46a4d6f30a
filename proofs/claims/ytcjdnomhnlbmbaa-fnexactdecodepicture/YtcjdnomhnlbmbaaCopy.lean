/-
  The laws' own helpers: a copy of a Big, whether two are the same, a byte of a code.
-/
import Derived.Test.YtcjdnomhnlbmbaaBigs
import Derived.Test.YtcjdnomhnlbmbaaBox
import Derived.Test.YtcjdnomhnlbmbaaBox1
import Derived.Laws.AppendOwnNone
namespace Go.Proofs.Ytcjdnomhnlbmbaa
open Go.RowKit

/-- A slice that is nil, or not. -/
def Nil0 (a : Option Addr) (c : Nat) : Prop := a = none → c = 0

theorem own_nil0 {X : World} {base : Nat} {e : TypeId} {a : Option Addr} {n c : Nat} {xs : List Value} (h : X.ownsRow base e 1 (.slice a n c) n xs) : Nil0 a c := by
  intro ha
  rcases h.2 with ⟨h1, _⟩ | ⟨g, cap, cur, h1, _⟩
  · injection h1
  · injection h1 with e1
    rw [ha] at e1
    cases e1

/-- 'append(nil, s...)' of a slice of numbers. -/
theorem appNil {k : IntKind} {bytes : Nat} {w0 : World} {ops : Array Oper} {rest : List Oper} {o : Oper} {ac : Act} {Q : Exit → Act → World → Prop} (hgd : o.guard = none) (s x : Operand) (t : TypeId)
    (ho : o.op = .call { callee := .builtin .append, args := #[s, x], argTypes := #[t, t] })
    (e : TypeId) (ht : Try.prog.underlying t = some (.slice e)) (hinfo : (Try.prog.info? e).map (fun i => (i.zero, i.size, i.bytes)) = some (some (.int k 0), 1, bytes)) (hby : bytes ≤ 8)
    (a : Option Addr) (c : Nat) (zs : List Int) (hs : ac.eval s = .slice none 0 0) (hx : ac.eval x = .slice a zs.length c) (hn : zs.length ≤ 8388608) (hnil : Nil0 a c) (hc : zs.length ≤ c) (hr : RowAt k w0 a zs)
    (h : ∀ a' c' w', w'.ownsRow w0.heap.size e 1 (.slice a' zs.length c') zs.length (vals k zs) → Below w0.heap.size w0 w' → wpList Try.prog ops Q rest (ac.put o.dst (.slice a' zs.length c')) w') :
    wpList Try.prog ops Q (o :: rest) ac w0 := by
  obtain ⟨i0, hi, hz0, hz1, hz2⟩ := info_parts hinfo
  cases a with
  | none =>
    have h0 := hnil rfl
    subst h0
    have hz : zs = [] := List.length_eq_zero_iff.1 (by omega)
    subst hz
    exact wpList_append_own_none (w := w0) hgd s x t ho w0.heap.size e i0 1 ht hi (.slice none 0 0) 0 [] hs (own_nil w0 w0.heap.size e k) hx (h none 0 w0 (own_nil _ _ _ _) (Below.refl _ _))
  | some ad =>
    have hb1 : zs.length * bytes ≤ zs.length * 8 := Nat.mul_le_mul_left _ hby
    refine wpList_append_own w0 hgd s x t ho w0.heap.size e i0 (.int k 0) 1 bytes ht hi hz0 hz1 hz2 rfl (by decide) (.slice none 0 0) 0 [] hs (own_nil w0 w0.heap.size e k) ad zs.length c (vals k zs) hx (by simp [vals]) ?_ ?_ ?_ ?_ (Nat.le_refl _) ?_
    · intro j u hj
      have hjl : j < zs.length := by
        by_cases hp : j < zs.length
        · exact hp
        · rw [List.getElem?_eq_none (by rw [vals_length]; omega)] at hj; cases hj
      rcases hr with hr | ⟨b, off, h1, h2, h3⟩
      · rw [hr] at hjl; simp at hjl
      · have e1 := Option.some.inj h1
        subst e1
        have hu : u = .int k (zs.getD j 0) := by
          simp [vals, hjl] at hj
          rw [← hj, List.getD_eq_getElem?_getD, List.getElem?_eq_getElem hjl]
          rfl
        rw [hu]
        have h4 := h3 j hjl
        by_cases e : j = 0
        · subst e; simpa [Addr.add] using h4
        · simpa [Addr.add, e] using h4
    · intro u hu
      simp [vals] at hu
      obtain ⟨z, _, rfl⟩ := hu
      rfl
    · unfold maxLen; omega
    · rw [Nat.zero_add]; omega
    · intro v' w' hown hgrow _
      rw [Nat.zero_add, List.nil_append] at hown
      obtain ⟨a', c', rfl⟩ : ∃ a' c', v' = .slice a' zs.length c' := by
        rcases hown.2 with ⟨h1, h2⟩ | ⟨g, cap, cur, h1, _⟩
        · rw [h2]; exact ⟨_, _, h1⟩
        · exact ⟨_, _, h1⟩
      refine h a' c' w' hown ?_
      exact ⟨hgrow.os, hgrow.tape, hgrow.output, hgrow.size, fun k hk => hgrow.block k hk (by simp [Value.ownBlock])⟩

/-- What copyBig hands back. -/
def CopyOut (w : World) (g : Bool) (zs : List Int) (e : Ending) (w' : World) : Prop :=
  ∃ (a : Option Addr) (c : Nat), e = .returned (.agg #[.bool g, .slice a zs.length c]) ∧ zs.length ≤ c ∧ c ≤ maxLen ∧ Nil0 a c ∧ RowNew .u32 w' w.heap.size a zs ∧ Below w.heap.size w w'

end Go.Proofs.Ytcjdnomhnlbmbaa
