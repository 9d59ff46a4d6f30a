/-
  Bytes behind bytes: appending, numbers with their lowest byte first; the model's l6little and l6point.
-/
import Derived.Test.YtfhfepphccaadacBytes
import Derived.Test.YtfhfepphccaadacGrow
import Derived.Test.YtfhfepphccaadacOff
namespace Go.Proofs.Ytfhfepphccaadac
open Go.RowKit

/-- v without its lowest i bytes. -/
def divB (v : Int) : Nat → Int
  | 0 => v
  | i + 1 => divB v i / 256
/-- The lowest i bytes of v, the lowest first. -/
def leB (v : Int) : Nat → List Int
  | 0 => []
  | i + 1 => leB v i ++ [divB v i % 256]
def ptB (x y z : Int) : List Int := leB x 4 ++ leB y 4 ++ leB z 4

theorem leB_length (v : Int) : ∀ n, (leB v n).length = n
  | 0 => rfl
  | n + 1 => by simp [leB, leB_length v n]
theorem divB_nonneg {v : Int} (h : 0 ≤ v) : ∀ n, 0 ≤ divB v n
  | 0 => h
  | n + 1 => Int.ediv_nonneg (divB_nonneg h n) (by decide)
theorem divB_le {v : Int} (h : 0 ≤ v) : ∀ n, divB v n ≤ v
  | 0 => Int.le_refl _
  | n + 1 => Int.le_trans (Int.ediv_le_self _ (divB_nonneg h n)) (divB_le h n)
theorem ptB_length (x y z : Int) : (ptB x y z).length = 12 := by simp [ptB, leB_length]

/-- A slice of bytes of the call's own. -/
def OwnY (w : World) (base : Nat) (v : Value) (ys : List Int) : Prop := w.ownsRow base 5 1 v ys.length (vals .u8 ys)

theorem OwnY.later {w w' : World} {base : Nat} {v : Value} {ys : List Int} (h : OwnY w base v ys) (hb : Below w.heap.size w w') : OwnY w' base v ys := own_later h hb

theorem OwnY.nil (w : World) (base : Nat) : OwnY w base (.slice none 0 0) [] := own_nil _ _ _ _

theorem OwnY.row {w : World} {base : Nat} {v : Value} {ys : List Int} (h : OwnY w base v ys) : ∃ a c, v = .slice a ys.length c ∧ RowNew .u8 w base a ys := by
  obtain ⟨a, c, h1, _, _, h2⟩ := own_row h
  exact ⟨a, c, h1, h2⟩

theorem OwnY.spot {w : World} {base : Nat} {v : Value} {ys : List Int} (h : OwnY w base v ys) (hne : ys ≠ []) : ∃ b off c, v = .slice (some ⟨b, off, none⟩) ys.length c ∧ RowNew .u8 w base (some ⟨b, off, none⟩) ys := by
  obtain ⟨a, c, h1, h2⟩ := h.row
  rcases h2 with h2 | ⟨b, off, rfl, h3⟩
  · exact absurd h2 hne
  · exact ⟨b, off, c, h1, .inr ⟨b, off, rfl, h3⟩⟩

theorem infoB : (Try.prog.info? 5).map (fun i => (i.zero, i.size, i.bytes)) = some (some (.int .u8 0), 1, 1) := by kernel_rfl

/-- 'append(s, x...)' of bytes behind a row of the call's own. -/
theorem appB {w0 : World} {ops : Array Oper} {rest : List Oper} {o : Oper} {ac : Act} {Q : Exit → Act → World → Prop} (hgd : o.guard = none) (s x : Operand)
    (ho : o.op = .call { callee := .builtin .append, args := #[s, x], argTypes := #[22, 22] })
    (base : Nat) (sv : Value) (ys : List Int) (ad : Addr) (n c : Nat) (zs : List Int) (hs : ac.eval s = sv) (hown : OwnY w0 base sv ys) (hx : ac.eval x = .slice (some ad) n c) (hnz : n = zs.length) (hn : zs.length ≤ 2000000) (hny : ys.length ≤ 2000000) (hne : zs ≠ []) (hr : RowAt .u8 w0 (some ad) zs) (hb : base ≤ w0.heap.size)
    (h : ∀ a' n' c' w', OwnY w' base (.slice a' n' c') (ys ++ zs) → Below base w0 w' → wpList Try.prog ops Q rest (ac.put o.dst (.slice a' n' c')) w') :
    wpList Try.prog ops Q (o :: rest) ac w0 := by
  subst hnz
  obtain ⟨i0, hi, hz0, hz1, hz2⟩ := info_parts infoB
  refine wpList_append_own w0 hgd s x 22 ho base 5 i0 (.int .u8 0) 1 1 Try.underlying22 hi hz0 hz1 hz2 rfl (by decide) sv ys.length (vals .u8 ys) hs hown ad zs.length c (vals .u8 zs) hx (by simp [vals]) ?_ ?_ ?_ ?_ hb ?_
  · intro j u hj
    have hjl : j < zs.length := by
      by_cases hp : j < zs.length
      · exact hp
      · rw [List.getElem?_eq_none (by rw [vals_length]; omega)] at hj; cases hj
    obtain ⟨b, off, h1, h2, h3⟩ := hr.resolve_left hne
    have e1 := Option.some.inj h1
    subst e1
    have hu : u = .int .u8 (zs.getD j 0) := by
      simp [vals, hjl] at hj
      rw [← hj, List.getD_eq_getElem?_getD, List.getElem?_eq_getElem hjl]
      rfl
    rw [hu, Addr.add_lit]
    exact h3 j hjl
  · intro u hu
    simp [vals] at hu
    obtain ⟨z, _, rfl⟩ := hu
    rfl
  · unfold maxLen; omega
  · omega
  · intro v' w' hown' hgrow _
    have hown2 : w'.ownsRow base 5 1 v' (ys ++ zs).length (vals .u8 (ys ++ zs)) := by
      rw [List.length_append]
      simpa [vals] using hown'
    obtain ⟨a', c', rfl, -, -, -⟩ := own_row hown2
    refine h a' _ c' w' hown2 ?_
    refine (Below.refl _ _).grown hgrow hb (fun k hk => ?_)
    rcases hown.2 with ⟨h1, _⟩ | ⟨g, cap, cur, h1, h2, _⟩
    · rw [h1] at hk; simp [Value.ownBlock] at hk
    · rw [h1] at hk; simp [Value.ownBlock] at hk; omega

/-- What a function answers that makes a list of bytes. -/
def NewY (w : World) (ys : List Int) (e : Ending) (w' : World) : Prop := ∃ v, e = .returned v ∧ OwnY w' w.heap.size v ys ∧ Below w.heap.size w w'

end Go.Proofs.Ytfhfepphccaadac
