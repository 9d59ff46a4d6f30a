/-
  Plain mathematics: decimal texts.
-/
import Derived.Test.YtlbegmepmeimkaaNumM
namespace Go.Proofs.Ytlbegmepmeimkaa

/-- The number that decimal digits (as bytes) write, the highest first. -/
def dval (ts : List Int) : Int := ts.foldl (fun v t => v * 10 + (t - 48)) 0

theorem dval_snoc (ts : List Int) (t : Int) : dval (ts ++ [t]) = dval ts * 10 + (t - 48) := by simp [dval]

theorem foldl_dec : ∀ (us : List Int) (v : Int), us.foldl (fun v t => v * 10 + (t - 48)) v = v * 10 ^ us.length + us.foldl (fun v t => v * 10 + (t - 48)) 0
  | [], v => by simp
  | u :: us, v => by
    simp only [List.foldl_cons, List.length_cons]
    rw [foldl_dec us (v * 10 + (u - 48)), foldl_dec us (0 * 10 + (u - 48)), Int.pow_succ, Int.add_mul, Int.mul_assoc v 10, Int.mul_comm 10 (10 ^ us.length)]
    simp only [Int.zero_mul, Int.zero_add]
    omega

theorem dval_append (ts us : List Int) : dval (ts ++ us) = dval ts * 10 ^ us.length + dval us := by
  unfold dval
  rw [List.foldl_append, foldl_dec us]

/-- Bytes that are decimal digits. -/
def Dec (ts : List Int) : Prop := ∀ t, t ∈ ts → 48 ≤ t ∧ t ≤ 57

theorem Dec.at {ts : List Int} (h : Dec ts) {j : Nat} (hj : j < ts.length) : 48 ≤ ts.getD j 0 ∧ ts.getD j 0 ≤ 57 := by
  rw [List.getD_eq_getElem?_getD, List.getElem?_eq_getElem hj]
  exact h _ (List.getElem_mem hj)

theorem Dec.take {ts : List Int} (h : Dec ts) (n : Nat) : Dec (ts.take n) := fun t ht => h t (List.mem_of_mem_take ht)
theorem Dec.drop {ts : List Int} (h : Dec ts) (n : Nat) : Dec (ts.drop n) := fun t ht => h t (List.mem_of_mem_drop ht)

theorem dval_take_succ {ts : List Int} {j : Nat} (h : j < ts.length) : dval (ts.take (j + 1)) = dval (ts.take j) * 10 + (ts.getD j 0 - 48) := by
  rw [List.take_succ_eq_append_getElem h, dval_snoc]
  simp [List.getD_eq_getElem?_getD, h]

theorem dval_bound {ts : List Int} (h : Dec ts) : ∀ j : Nat, j ≤ ts.length → 0 ≤ dval (ts.take j) ∧ dval (ts.take j) < ((10 ^ j : Nat) : Int)
  | 0, _ => by simp [dval]
  | j + 1, hj => by
    have h1 := dval_bound h j (by omega)
    have h2 := h.at (show j < ts.length by omega)
    rw [dval_take_succ (by omega), Nat.pow_succ]
    omega

theorem dval_small {ts : List Int} (h : Dec ts) (hl : ts.length ≤ 9) {j : Nat} (hj : j ≤ ts.length) : 0 ≤ dval (ts.take j) ∧ dval (ts.take j) ≤ 999999999 := by
  have hb := dval_bound h j hj
  have h1 : 10 ^ j ≤ 10 ^ 9 := Nat.pow_le_pow_right (by decide) (by omega)
  have e : 10 ^ 9 = 1000000000 := by decide
  omega

theorem dval_small8 {ts : List Int} (h : Dec ts) {j : Nat} (hj : j ≤ ts.length) (hj8 : j ≤ 8) : 0 ≤ dval (ts.take j) ∧ dval (ts.take j) ≤ 99999999 := by
  have hb := dval_bound h j hj
  have h1 : 10 ^ j ≤ 10 ^ 8 := Nat.pow_le_pow_right (by decide) (by omega)
  have e : 10 ^ 8 = 100000000 := by decide
  omega

theorem dval_next {ts : List Int} {p n : Nat} (hn : n = (ts.length - p - 1) % 9 + 1) (hp : p < ts.length) (h : p = 0 ∨ (ts.length - p) % 9 = 0) : 1000000000 * dval (ts.take p) + dval ((ts.drop p).take n) = dval (ts.take (p + n)) := by
  have hl : ((ts.drop p).take n).length = n := by rw [List.length_take, List.length_drop]; omega
  rw [List.take_add, dval_append, hl]
  rcases h with h | h
  · subst h
    simp [dval]
  · have h9 : n = 9 := by omega
    rw [h9, Int.mul_comm 1000000000]
    have e : (10 : Int) ^ 9 = 1000000000 := by decide
    rw [e]

/-- Decimal digits alone, no zero first but in 0 itself. -/
def plainB (ts : List Int) : Bool := ts.all (fun t => decide (48 ≤ t) && decide (t ≤ 57)) && (decide (ts.length = 1) || (decide (1 < ts.length) && (ts.getD 0 0 != 48)))

theorem all_dec {ts : List Int} (h : Dec ts) : ts.all (fun t => decide (48 ≤ t) && decide (t ≤ 57)) = true := by
  rw [List.all_eq_true]
  intro t ht
  have := h t ht
  simp [this.1, this.2]

theorem dec_of_plain {ts : List Int} (h : plainB ts = true) : Dec ts := by
  unfold plainB at h
  rw [Bool.and_eq_true, List.all_eq_true] at h
  intro t ht
  have := h.1 t ht
  simpa using this

theorem plain_bad {ts : List Int} {k : Nat} (hk : k < ts.length) (h : ts.getD k 0 < 48 ∨ 57 < ts.getD k 0) : plainB ts = false := by
  unfold plainB
  have : ts.all (fun t => decide (48 ≤ t) && decide (t ≤ 57)) = false := by
    rw [List.all_eq_false]
    refine ⟨ts[k], List.getElem_mem hk, ?_⟩
    have e : ts.getD k 0 = ts[k] := by simp [List.getD_eq_getElem?_getD, hk]
    rw [e] at h
    simp
    omega
  rw [this, Bool.false_and]

theorem dec_succ {ts : List Int} {k : Nat} (hk : k < ts.length) (h : Dec (ts.take k)) (h0 : 48 ≤ ts.getD k 0) (h1 : ts.getD k 0 ≤ 57) : Dec (ts.take (k + 1)) := by
  rw [List.take_succ_eq_append_getElem hk]
  intro t ht
  rcases List.mem_append.1 ht with ht | ht
  · exact h t ht
  · have e : ts.getD k 0 = ts[k] := by simp [List.getD_eq_getElem?_getD, hk]
    rw [List.mem_singleton] at ht
    rw [ht, ← e]
    exact ⟨h0, h1⟩

end Go.Proofs.Ytlbegmepmeimkaa
