/-
  Plain mathematics and bits: a limb shifted up within the next one.
-/
import Derived.Test.YtladfpljnaippabDoorNumS
import Derived.Laws.Bits64b
namespace Go.Proofs.YtladfpljnaippabDoor

theorem pow32 (n : Int) (h : 0 ≤ n) : (4294967296 : Int) ^ (n / 32).toNat * 2 ^ (n % 32).toNat = 2 ^ n.toNat := by
  rw [show (4294967296 : Int) = 2 ^ 32 from rfl, ← Int.pow_mul, ← Int.pow_add]
  congr 1
  omega

/-- 2 to a count below 32. -/
theorem two32 (n : Int) : 0 < (2 : Int) ^ (n % 32).toNat ∧ (2 : Int) ^ (n % 32).toNat ≤ 2147483648 := by
  refine ⟨Int.pow_pos (by decide), ?_⟩
  have h : ∀ k, k < 32 → (2 : Int) ^ k ≤ 2147483648 := by decide
  exact h _ (by omega)

theorem two32r (n : Int) : (4294967296 : Int) = 2 ^ (n % 32).toNat * 2 ^ (32 - n % 32).toNat ∧ 0 < (2 : Int) ^ (32 - n % 32).toNat := by
  refine ⟨?_, Int.pow_pos (by decide)⟩
  rw [← Int.pow_add, show (n % 32).toNat + (32 - n % 32).toNat = 32 by omega]; rfl

/-- What is handed on from limb to limb. -/
theorem up_digit {B q r x c : Int} (hB : B = q * r) (hq : 0 < q) (hr : 0 < r) (hc0 : 0 ≤ c) (hc1 : c < q) : c + x * q % B = (x * q + c) % B ∧ x * q / B = (x * q + c) / B := by
  have hBp : 0 < B := by rw [hB]; exact Int.mul_pos hq hr
  have e1 : x * q % B = q * (x % r) := by rw [hB, Int.mul_comm x q, Int.mul_emod_mul_of_pos _ _ hq]
  have hm0 := Int.emod_nonneg x (show r ≠ 0 by omega)
  have hm1 := Int.emod_lt_of_pos x hr
  have h3 : q * (x % r) ≤ q * (r - 1) := Int.mul_le_mul_of_nonneg_left (by omega) (by omega)
  have h4 : 0 ≤ q * (x % r) := Int.mul_nonneg (by omega) hm0
  rw [Int.mul_sub, Int.mul_one, ← hB] at h3
  have h5 := Int.mul_ediv_add_emod (x * q) B
  rw [e1] at h5
  have e2 : x * q + c = (q * (x % r) + c) + B * (x * q / B) := by omega
  constructor
  · have e4 : (q * (x % r) + c) % B = q * (x % r) + c := Int.emod_eq_of_lt (by omega) (by omega)
    rw [e1, e2, Int.add_mul_emod_self_left, e4]
    omega
  · have e3 : (x * q + c) / B = (q * (x % r) + c + B * (x * q / B)) / B := by rw [← e2]
    have e4 : (q * (x % r) + c) / B = 0 := Int.ediv_eq_zero_of_lt (by omega) (by omega)
    rw [e3, Int.add_mul_ediv_left _ _ (by omega), e4]
    omega

theorem or32_nat (a b : Nat) (ha : a < 4294967296) (hb : b < 4294967296) : bits .or .u32 (a : Int) (b : Int) = ((a ||| b : Nat) : Int) := by
  have hx : a ||| b < 2 ^ 32 := Nat.or_lt_two_pow (by omega) (by omega)
  have h1 : (BitVec.ofInt 32 (a : Int)).toNat = a := by
    rw [BitVec.ofInt_natCast, BitVec.toNat_ofNat]; exact Nat.mod_eq_of_lt (by omega)
  have h2 : (BitVec.ofInt 32 (b : Int)).toNat = b := by
    rw [BitVec.ofInt_natCast, BitVec.toNat_ofNat]; exact Nat.mod_eq_of_lt (by omega)
  show IntKind.u32.wrap ((BitVec.ofInt 32 (a : Int) ||| BitVec.ofInt 32 (b : Int)).toNat : Int) = _
  rw [BitVec.toNat_or, h1, h2]
  simp only [IntKind.wrap, IntKind.bits, IntKind.signed]
  have h3 : (2 : Int) ^ 32 = 4294967296 := by decide
  have h4 : (2 : Nat) ^ 32 = 4294967296 := by decide
  simp
  omega

/-- The carry laid into the low bits of what was shifted up. -/
theorem or_up {x c : Int} (n : Int) (hc0 : 0 ≤ c) (hc1 : c < 2 ^ (n % 32).toNat) : bits .or .u32 c (x * 2 ^ (n % 32).toNat % 4294967296) = c + x * 2 ^ (n % 32).toNat % 4294967296 := by
  obtain ⟨e1, hr⟩ := two32r n
  obtain ⟨hq, hq1⟩ := two32 n
  obtain ⟨i, hi⟩ : ∃ i, i = (n % 32).toNat := ⟨_, rfl⟩
  have e2 : x * 2 ^ (n % 32).toNat % 4294967296 = 2 ^ (n % 32).toNat * (x % 2 ^ (32 - n % 32).toNat) := by
    rw [e1, Int.mul_comm x, Int.mul_emod_mul_of_pos _ _ hq]
  have hm0 := Int.emod_nonneg x (show (2 : Int) ^ (32 - n % 32).toNat ≠ 0 by omega)
  have hlt := Int.emod_lt_of_pos (x * 2 ^ (n % 32).toNat) (show (0 : Int) < 4294967296 by decide)
  rw [e2] at hlt ⊢
  rw [← hi] at hlt hc1 ⊢
  obtain ⟨y, hy⟩ := Int.eq_ofNat_of_zero_le hm0
  obtain ⟨b, rfl⟩ := Int.eq_ofNat_of_zero_le hc0
  rw [hy] at hlt ⊢
  have e3 : (2 : Int) ^ i * (y : Int) = ((2 ^ i * y : Nat) : Int) := by simp
  rw [e3] at hlt ⊢
  have hb : b < 2 ^ i := by
    have h : (b : Int) < ((2 ^ i : Nat) : Int) := by simpa using hc1
    omega
  have hbb : b < 4294967296 := by
    have h : (2 : Nat) ^ i ≤ 2 ^ 31 := Nat.pow_le_pow_right (by decide) (by omega)
    have h2 : (2 : Nat) ^ 31 = 2147483648 := by decide
    omega
  rw [or32_nat b (2 ^ i * y) hbb (by omega), Nat.or_comm, ← Nat.two_pow_add_eq_or_of_lt hb]
  omega

end Go.Proofs.YtladfpljnaippabDoor
