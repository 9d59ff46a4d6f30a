/-
  Plain mathematics: digits divided by a small number; the decimal digits of a number.
-/
import Derived.Test.YtlbegmepmeimkabNum
namespace Go.Proofs.Ytlbegmepmeimkab

/-- Digits to the base B divided by q: the quotient's digits, and what is left. -/
def divL (B q : Int) : List Int → List Int × Int
  | [] => ([], 0)
  | d :: ds => (((divL B q ds).2 * B + d) / q :: (divL B q ds).1, ((divL B q ds).2 * B + d) % q)

theorem divL_length (B q : Int) : ∀ ds : List Int, (divL B q ds).1.length = ds.length
  | [] => rfl
  | d :: ds => by simp [divL, divL_length B q ds]

theorem divL_rest {B q : Int} (hq : 0 < q) : ∀ ds : List Int, 0 ≤ (divL B q ds).2 ∧ (divL B q ds).2 < q
  | [] => ⟨Int.le_refl 0, hq⟩
  | _ :: _ => ⟨Int.emod_nonneg _ (by omega), Int.emod_lt_of_pos _ hq⟩

theorem divL_val {B q : Int} : ∀ ds : List Int, val B (divL B q ds).1 * q + (divL B q ds).2 = val B ds
  | [] => by simp [divL, val]
  | d :: ds => by
    have h := divL_val (B := B) (q := q) ds
    have e := Int.emod_add_mul_ediv ((divL B q ds).2 * B + d) q
    simp only [divL, val]
    rw [← h, Int.add_mul, Int.mul_add, Int.mul_comm (_ / q) q, Int.mul_assoc, Int.mul_comm B (divL B q ds).2]
    omega

theorem divL_dig {B q : Int} (hB : 0 < B) (hq : 0 < q) : ∀ {ds : List Int}, Dig B ds → Dig B (divL B q ds).1
  | [], _ => Dig.nil B
  | d :: ds, h => by
    have hd := h.head
    have hr := divL_rest (B := B) hq ds
    have h0 : 0 ≤ (divL B q ds).2 * B := Int.mul_nonneg hr.1 (Int.le_of_lt hB)
    have h1 : (divL B q ds).2 * B ≤ (q - 1) * B := Int.mul_le_mul_of_nonneg_right (by omega) (Int.le_of_lt hB)
    rw [Int.sub_mul, Int.one_mul] at h1
    refine Dig.cons (Int.ediv_nonneg (by omega) (Int.le_of_lt hq)) ?_ (divL_dig hB hq h.tail)
    refine Int.ediv_lt_of_lt_mul hq ?_
    rw [Int.mul_comm B q]
    omega

theorem divL_ediv {B q : Int} (hq : 0 < q) (ds : List Int) : val B (divL B q ds).1 = val B ds / q ∧ (divL B q ds).2 = val B ds % q := by
  have h := divL_val (B := B) (q := q) ds
  have hr := divL_rest (B := B) hq ds
  rw [← h]
  constructor
  · rw [Int.add_comm, Int.add_mul_ediv_right _ _ (by omega), Int.ediv_eq_zero_of_lt hr.1 hr.2]; omega
  · rw [Int.add_comm, Int.add_mul_emod_self_right, Int.emod_eq_of_lt hr.1 hr.2]

theorem drop_pred {ds : List Int} {k : Nat} (h : k < ds.length) : ds.drop k = ds.getD k 0 :: ds.drop (k + 1) := by
  rw [List.drop_eq_getElem_cons h, List.getD_eq_getElem?_getD, List.getElem?_eq_getElem h]; rfl

theorem divL_step {B q : Int} {ds : List Int} {k : Nat} (h : k < ds.length) : divL B q (ds.drop k) = (((divL B q (ds.drop (k + 1))).2 * B + ds.getD k 0) / q :: (divL B q (ds.drop (k + 1))).1, ((divL B q (ds.drop (k + 1))).2 * B + ds.getD k 0) % q) := by
  rw [drop_pred h]; rfl

/-- One digit more of a row that is filled from its upper end. -/
theorem set_down {xs qs : List Int} {k : Nat} (h : xs.length = k + 1) (x : Int) : (xs ++ qs).set k x = xs.take k ++ x :: qs := by
  rw [List.set_append_left _ _ (by omega), List.set_eq_take_append_cons_drop, if_pos (by omega), List.drop_eq_nil_of_le (by omega)]
  simp

/-- The decimal digits of n as bytes, the lowest first, f of them at most. -/
def decF : Nat → Int → List Int
  | 0, _ => []
  | f + 1, n => if n ≤ 0 then [] else (48 + n % 10) :: decF f (n / 10)

/-- Enough is enough. -/
theorem decF_more : ∀ (f f' : Nat) (n : Int), n < (10 ^ f : Nat) → n < (10 ^ f' : Nat) → decF f n = decF f' n
  | 0, 0, _, _, _ => rfl
  | 0, f' + 1, n, h, _ => by
    have : n ≤ 0 := by simp at h; omega
    simp [decF, this]
  | f + 1, 0, n, _, h => by
    have : n ≤ 0 := by simp at h; omega
    simp [decF, this]
  | f + 1, f' + 1, n, h, h' => by
    by_cases h0 : n ≤ 0
    · simp [decF, h0]
    · simp only [decF, h0, if_false]
      rw [decF_more f f' (n / 10) (by rw [Nat.pow_succ] at h; push_cast at h ⊢; omega) (by rw [Nat.pow_succ] at h'; push_cast at h' ⊢; omega)]

end Go.Proofs.Ytlbegmepmeimkab
