/-
  math/bits.TrailingZeros32: the table as Go's text lays it.
-/
import Derived.Test.YtladfpljnaippabDoorBase
import Derived.Test.YtladfpljnaippabDoorNumZ
import Derived.Laws.Entries
namespace Go.Proofs.YtladfpljnaippabDoor
open Go.RowKit

theorem shl_odd_and (k m t : Nat) (h : k &&& m = 0) : ((2 * k + 1) <<< t) &&& ((2 * m + 1) <<< t) = 2 ^ t := by
  rw [← Nat.shiftLeft_and_distrib]
  have e : (2 * k + 1) &&& (2 * m + 1) = 1 := by
    apply Nat.eq_of_testBit_eq
    intro i
    rw [Nat.testBit_and]
    cases i with
    | zero => simp
    | succ i =>
      have h2 := congrArg (Nat.testBit · i) h
      simp only [Nat.testBit_and, Nat.zero_testBit] at h2
      rw [Nat.testBit_succ, Nat.testBit_succ, Nat.testBit_succ]
      rw [show (2 * k + 1) / 2 = k by omega, show (2 * m + 1) / 2 = m by omega, show 1 / 2 = 0 by omega, h2]
      simp
  rw [e, Nat.shiftLeft_eq, Nat.one_mul]

theorem and_comp (k n : Nat) (h : k < 2 ^ n) : k &&& (2 ^ n - (k + 1)) = 0 := by
  apply Nat.eq_of_testBit_eq
  intro i
  rw [Nat.testBit_and, Nat.testBit_two_pow_sub_succ h, Nat.zero_testBit]
  cases k.testBit i <;> simp

theorem low_nat {x k t : Nat} (hx : x = 2 ^ t * (2 * k + 1)) (h1 : x < 4294967296) : x &&& (4294967296 - x) = 2 ^ t := by
  have hp : 0 < 2 ^ t := Nat.two_pow_pos _
  have ht : t < 32 := by
    apply Nat.lt_of_not_le
    intro h
    have h2 : 2 ^ 32 ≤ 2 ^ t := Nat.pow_le_pow_right (by decide) h
    have h3 : 2 ^ t * 1 ≤ 2 ^ t * (2 * k + 1) := Nat.mul_le_mul_left _ (by omega)
    omega
  have e1 : (4294967296 : Nat) = 2 ^ t * 2 ^ (32 - t) := by rw [← Nat.pow_add, show t + (32 - t) = 32 by omega]
  have e2 : 2 ^ (32 - t) = 2 * 2 ^ (31 - t) := by rw [show 32 - t = (31 - t) + 1 by omega, Nat.pow_succ]; omega
  have hk : k < 2 ^ (31 - t) := by
    have h2 : 2 ^ t * (2 * k + 1) < 2 ^ t * (2 * 2 ^ (31 - t)) := by rw [← hx, ← e2, ← e1]; exact h1
    have := Nat.lt_of_mul_lt_mul_left h2
    omega
  have e3 : 4294967296 - x = (2 * (2 ^ (31 - t) - (k + 1)) + 1) <<< t := by
    rw [Nat.shiftLeft_eq, e1, e2, hx, ← Nat.mul_sub, Nat.mul_comm]
    congr 1
    omega
  have e4 : x = (2 * k + 1) <<< t := by rw [Nat.shiftLeft_eq, hx, Nat.mul_comm]
  rw [e3]
  conv => lhs; lhs; rw [e4]
  exact shl_odd_and _ _ _ (and_comp _ _ hk)

theorem low_bits {x q : Int} {t : Nat} (h0 : 0 < x) (h1 : x < 4294967296) (hx : x = 2 ^ t * q) (hq : q % 2 = 1) : bits .and .u32 x (-x % 4294967296) = 2 ^ t := by
  obtain ⟨n, rfl⟩ := Int.eq_ofNat_of_zero_le (Int.le_of_lt h0)
  have hq0 : 0 < q := by
    have hp : (0 : Int) < 2 ^ t := Int.pow_pos (by decide)
    apply Int.lt_of_not_ge
    intro h
    have : 2 ^ t * q ≤ 0 := Int.mul_nonpos_of_nonneg_of_nonpos (Int.le_of_lt hp) h
    omega
  obtain ⟨k, hk⟩ : ∃ k : Nat, q = 2 * (k : Int) + 1 := ⟨(q / 2).toNat, by omega⟩
  have hn : n = 2 ^ t * (2 * k + 1) := by
    rw [hk] at hx
    have : (n : Int) = ((2 ^ t * (2 * k + 1) : Nat) : Int) := by rw [hx]; push_cast; rfl
    exact Int.ofNat.inj this
  have hl := low_nat hn (by omega)
  have e2 : (BitVec.ofInt 32 (n : Int) &&& BitVec.ofInt 32 (-(n : Int) % 4294967296)).toNat = n &&& (4294967296 - n) := by
    rw [show -(n : Int) % 4294967296 = ((4294967296 - n : Nat) : Int) by omega, BitVec.toNat_and, BitVec.ofInt_natCast, BitVec.ofInt_natCast, BitVec.toNat_ofNat, BitVec.toNat_ofNat, Nat.mod_eq_of_lt (by omega), Nat.mod_eq_of_lt (by omega)]
  show IntKind.u32.wrap ((BitVec.ofInt 32 (n : Int) &&& BitVec.ofInt 32 (-(n : Int) % 4294967296)).toNat : Int) = _
  rw [e2, hl]
  have hlt : 2 ^ t < 4294967296 := by
    have h3 : 2 ^ t * 1 ≤ 2 ^ t * (2 * k + 1) := Nat.mul_le_mul_left _ (by omega)
    omega
  simp only [IntKind.wrap, IntKind.bits, IntKind.signed]
  simp
  have : ((2 ^ t : Nat) : Int) = 2 ^ t := by push_cast; rfl
  omega

theorem odd_part : ∀ (n : Nat), 0 < n → ∃ t k : Nat, n = 2 ^ t * (2 * k + 1) := by
  intro n
  induction n using Nat.strongRecOn with
  | ind n ih =>
    intro hn
    by_cases h : n % 2 = 1
    · exact ⟨0, n / 2, by omega⟩
    · obtain ⟨t, k, e⟩ := ih (n / 2) (by omega) (by omega)
      refine ⟨t + 1, k, ?_⟩
      rw [Nat.pow_succ, Nat.mul_comm (2 ^ t) 2, Nat.mul_assoc, ← e]
      omega

def tzTab : List Int := [0, 1, 28, 2, 29, 14, 24, 3, 30, 22, 20, 15, 25, 17, 4, 8, 31, 27, 13, 23, 21, 19, 16, 7, 26, 12, 18, 6, 11, 5, 10, 9]
theorem tz_tab : ∀ t : Nat, t < 32 → ((2 : Int) ^ t * 125613361 % 4294967296 / 134217728).toNat < 32 ∧ tzTab.getD ((2 : Int) ^ t * 125613361 % 4294967296 / 134217728).toNat 0 = t := by decide

/-- The package variable holds its table. -/
structure Tab (w : World) : Prop where
  lt : 1 < w.heap.size
  at_ : ∀ i, i < 32 → w.cell? ⟨1, i, none⟩ = some (.int .u8 (tzTab.getD i 0))

theorem Tab.later {w w' : World} (h : Tab w) (hb : Below w.heap.size w w') : Tab w' :=
  ⟨Nat.lt_of_lt_of_le h.lt hb.size, fun i hi => (hb.cell (p := ⟨1, i, none⟩) h.lt).trans (h.at_ i hi)⟩

set_option maxHeartbeats 1000000 in
theorem tz_any (x : Int) (w : World) (h0 : 0 < x) (h1 : x < 4294967296) (hT : Tab w) :
    Calls Tryd.prog 107 #[.int .u32 x] w fun e w' => ∃ t : Nat, e = .returned (.int .i64 t) ∧ t < 32 ∧ Twos x t ∧ Below w.heap.size w w' := by
  obtain ⟨n, hn⟩ := Int.eq_ofNat_of_zero_le (Int.le_of_lt h0)
  obtain ⟨t, k, hk⟩ := odd_part n (by omega)
  have hx : x = 2 ^ t * (2 * (k : Int) + 1) := by rw [hn, hk]; push_cast; rfl
  have ht : t < 32 := pow_lt_of (b := 32) hx (by omega) h1
  have hb := low_bits h0 h1 hx (by omega)
  have hc := hT.at_ _ (tz_tab t ht).1
  rw [(tz_tab t ht).2, ← hb] at hc
  have HW : Hid (Twos x t) := ⟨_, hx, by omega⟩
  have hz : (x == 0) = false := by rw [beq_eq_false_iff_ne]; omega
  have ht' : (t : Int) < 32 := by omega
  clear hn hk hx hb hT
  go_enter Tryd.func107, Tryd.ntmps107
  go_wp2
  refine bodyPost_ret (v := .int .i64 t) (by simp [results, Tryd.results107, go_sem]) rfl ?_
  exact ⟨t, rfl, ht, HW.out, Below.refl _ _⟩

end Go.Proofs.YtladfpljnaippabDoor
