/-
  Appending one number to a slice of the call's own.
-/
import Derived.Test.YtladfpljnaippabDoorSpecA
namespace Go.Proofs.YtladfpljnaippabDoor
open Go.RowKit

theorem Tryd.info3 : (Tryd.prog.info? 3).map (fun i => (i.zero, i.size, i.bytes)) = some (some (.int .i64 0), 1, 8) := by kernel_rfl

/-- Numbers as values. -/
def vals (k : IntKind) (ys : List Int) : List Value := ys.map (Value.int k)

theorem vals_snoc (k : IntKind) (ys : List Int) (y : Int) : vals k ys ++ [.int k y] = vals k (ys ++ [y]) := by simp [vals]
theorem vals_length (k : IntKind) (ys : List Int) : (vals k ys).length = ys.length := by simp [vals]

/-- 'append(s, x)' of one number to a slice of the call's own. -/
theorem app1 {k : IntKind} {X : Int} {bytes : Nat} {w0 : World} {ops : Array Oper} {rest : List Oper} {o : Oper} {a : Act} {Q : Exit → Act → World → Prop} (hgd : o.guard = none) (s x : Operand) (t : TypeId)
    (ho : o.op = .call { callee := .builtin .append, args := #[s, x], argTypes := #[t, t] })
    (base : Nat) (e : TypeId) (ht : Tryd.prog.underlying t = some (.slice e)) (hinfo : (Tryd.prog.info? e).map (fun i => (i.zero, i.size, i.bytes)) = some (some (.int k 0), 1, bytes)) (hby : bytes ≤ 8)
    (sv : Value) (ys : List Int) (hs : a.eval s = sv) (hx : a.eval x = .slice (some ⟨w0.heap.size, 0, none⟩) 1 1) (hown : w0.ownsRow base e 1 sv ys.length (vals k ys)) (hn : ys.length ≤ 8388608) (hbase : base ≤ w0.heap.size)
    (h : ∀ a' n' c' w', w'.ownsRow base e 1 (.slice a' n' c') (ys ++ [X]).length (vals k (ys ++ [X])) → Below base w0 w' → w0.heap.size < w'.heap.size → wpList Tryd.prog ops Q rest (a.put o.dst (.slice a' n' c')) w') :
    wpList Tryd.prog ops Q (o :: rest) a (w0.alloc (.cells #[.int k X] e)) := by
  obtain ⟨i0, hi, hz0, hz1, hz2⟩ := info_parts hinfo
  have hb1 : (ys.length + 1) * bytes ≤ (ys.length + 1) * 8 := Nat.mul_le_mul_left _ hby
  refine wpList_append_own _ hgd s x t ho base e i0 (.int k 0) 1 bytes ht hi hz0 hz1 hz2 rfl (by decide) sv ys.length (vals k ys) hs (hown.alloc _) ⟨w0.heap.size, 0, none⟩ 1 1 [.int k X] hx rfl ?_ ?_ ?_ ?_ ?_ ?_
  · intro j u hj
    match j, hj with
    | 0, hj => simp at hj; subst hj; simp [Addr.add]
  · intro u hu; simp at hu; subst hu; rfl
  · unfold maxLen; omega
  · omega
  · simp; omega
  · intro v' w' hown' hgrow _
    obtain ⟨a', n', c', rfl⟩ : ∃ a' n' c', v' = .slice a' n' c' := by
      rcases hown'.2 with ⟨h1, _⟩ | ⟨g, cap, cur, h1, _⟩
      · exact ⟨_, _, _, h1⟩
      · exact ⟨_, _, _, h1⟩
    refine h a' n' c' w' ?_ ?_ ?_
    · rw [vals_snoc] at hown'
      simpa using hown'
    · have hb0 : Below base w0 (w0.alloc (.cells #[.int k X] e)) := (Below.refl _ _).alloc hbase _
      refine hb0.grown hgrow (by simp; omega) ?_
      intro kk hk
      rcases hown.2 with ⟨h1, _⟩ | ⟨g, cap, cur, h1, h2, _⟩
      · rw [h1] at hk; simp [Value.ownBlock] at hk
      · rw [h1] at hk; simp [Value.ownBlock] at hk; omega
    · have := hgrow.size
      simp at this
      omega

/-- What the call owns, as a row. -/
theorem own_row {k : IntKind} {w : World} {base : Nat} {e : TypeId} {v : Value} {ys : List Int} (h : w.ownsRow base e 1 v ys.length (vals k ys)) :
    ∃ a c, v = .slice a ys.length c ∧ c ≤ maxLen ∧ Sl k w a c ys ∧ RowNew k w base a ys := by
  rcases h.2 with ⟨h1, h2⟩ | ⟨g, cap, cur, h1, h2, h3, h4, h5, h6, h7⟩
  · have : ys = [] := List.length_eq_zero_iff.1 h2
    subst this
    exact ⟨none, 0, h1, Nat.zero_le _, ⟨by simp, fun _ => rfl, .inl rfl⟩, .inl rfl⟩
  · have hg : g < w.heap.size := by
      by_cases hp : g < w.heap.size
      · exact hp
      · rw [Array.getElem?_eq_none (by omega)] at h3; cases h3
    have hc : ∀ j, j < ys.length → w.cell? ⟨g, 0 + j, none⟩ = some (.int k (ys.getD j 0)) := by
      intro j hj
      have : (cur.toList.take (ys.length * 1))[j]? = (vals k ys)[j]? := by rw [h7]
      rw [List.getElem?_take, if_pos (by omega)] at this
      simp only [World.cell?, h3]
      simp [vals, hj] at this
      simp [this, List.getD_eq_getElem?_getD, hj]
    have hfz : ∀ j, j < ys.length → w.frozen? ⟨g, 0 + j, none⟩ = false := by
      intro j _
      simp [World.frozen?, h3]
    exact ⟨some ⟨g, 0, none⟩, cap, h1, h5, ⟨h4, (fun h => by cases h), .inr ⟨g, 0, rfl, hg, hc⟩⟩, .inr ⟨g, 0, rfl, h2, hg, hc, hfz⟩⟩

theorem own_nil (w : World) (base : Nat) (e : TypeId) (k : IntKind) : w.ownsRow base e 1 (.slice none 0 0) ([] : List Int).length (vals k []) := World.ownsRow_nil _ _ _ _

end Go.Proofs.YtladfpljnaippabDoor
