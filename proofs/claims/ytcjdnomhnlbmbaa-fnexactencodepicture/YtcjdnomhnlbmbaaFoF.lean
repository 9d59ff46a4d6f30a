/-
  The program's test whether floats are finite.
-/
import Derived.Test.YtcjdnomhnlbmbaaUtil
import Derived.Test.YtcjdnomhnlbmbaaNum
import Derived.Test.YtcjdnomhnlbmbaaDy1hDy2NumDNumF
import Derived.Laws.Entries
namespace Go.Proofs.Ytcjdnomhnlbmbaa
open Go.RowKit

theorem mask_nat (n : Nat) : n &&& 2139095040 = n / 8388608 % 256 * 8388608 := by
  apply Nat.eq_of_testBit_eq
  intro i
  rw [show (2139095040 : Nat) = (2 ^ 8 - 1) <<< 23 by decide, show n / 8388608 % 256 * 8388608 = ((n >>> 23) % 2 ^ 8) <<< 23 by rw [Nat.shiftLeft_eq, Nat.shiftRight_eq_div_pow]]
  simp only [Nat.testBit_and, Nat.testBit_shiftLeft, Nat.testBit_mod_two_pow, Nat.testBit_two_pow_sub_one, Nat.testBit_shiftRight]
  by_cases h : 23 ≤ i
  · rw [show 23 + (i - 23) = i by omega]
    simp [h, Bool.and_comm]
  · simp [h]
theorem mask_bits {x : Int} (h0 : 0 ≤ x) (h1 : x < 4294967296) : (bits .and .u32 x 2139095040 == 2139095040) = !(fFin x) := by
  obtain ⟨n, rfl⟩ := Int.eq_ofNat_of_zero_le h0
  have e : bits .and .u32 (n : Int) 2139095040 = ((n &&& 2139095040 : Nat) : Int) := by
    have hl : n &&& 2139095040 < 4294967296 := Nat.lt_of_le_of_lt Nat.and_le_right (by decide)
    have e2 : (BitVec.ofInt 32 (n : Int) &&& BitVec.ofInt 32 2139095040).toNat = n &&& 2139095040 := by
      rw [BitVec.toNat_and, BitVec.ofInt_natCast, BitVec.toNat_ofNat, Nat.mod_eq_of_lt (by omega)]
      rfl
    show IntKind.u32.wrap ((BitVec.ofInt 32 (n : Int) &&& BitVec.ofInt 32 2139095040).toNat : Int) = _
    rw [e2]
    simp only [IntKind.wrap, IntKind.bits, IntKind.signed]
    simp
    omega
  rw [e, mask_nat]
  unfold fFin
  by_cases h : (n : Int) / 8388608 % 256 = 255
  · have h2 : n / 8388608 % 256 = 255 := by omega
    rw [h2, h]
    decide
  · have h2 : n / 8388608 % 256 ≠ 255 := by omega
    have h3 : (((n / 8388608 % 256 * 8388608 : Nat) : Int) == 2139095040) = false := by
      rw [beq_eq_false_iff_ne]
      omega
    have h4 : ((n : Int) / 8388608 % 256 != 255) = true := by rw [bne_iff_ne]; exact h
    rw [h3, h4]
    rfl

set_option maxHeartbeats 1000000 in
theorem floatsFin_any (a : Option Addr) (c : Nat) (zs : List Int) (w : World) (hn : zs.length ≤ 1000) (hz : RowAt .u32 w a zs) (hu : U32 zs) :
    Calls Try.prog 93 #[.slice a zs.length c] w fun e w' => e = .returned (.bool (zs.all fFin)) ∧ Below w.heap.size w w' := by
  go_enter Try.func93, Try.ntmps93
  go_wp2
  go_loopw [4, 7] (fun _ si wr => ∃ i : Nat, i ≤ zs.length ∧ si = .int .i64 i ∧ Hid ((zs.take i).all fFin = true) ∧ Below w.heap.size w wr) (fun _ si _ => zs.length - (intOf si).toNat)
  case atStart => exact ⟨0, Nat.zero_le _, rfl, rfl, Below.refl _ _⟩
  case round =>
    obtain ⟨i, hi, rfl, hall, hnx⟩ := hrel
    have hz2 := hz.later hnx
    by_cases hlt : i < zs.length
    · have hib : (i : Int) < zs.length := by omega
      rcases hz2 with h | ⟨b, off, h1, h2, h3⟩
      · subst h; simp at hlt
      subst h1
      have g0 := h3 i hlt
      obtain ⟨x, hx⟩ : ∃ x, x = zs.getD i 0 := ⟨_, rfl⟩
      rw [← hx] at g0
      have hmem : x ∈ zs := by rw [hx, List.getD_eq_getElem?_getD, List.getElem?_eq_getElem hlt]; exact List.getElem_mem hlt
      have hx0 := hu x hmem
      have HTK : Hid ((zs.take (i + 1)).all fFin = fFin x) := by
        unfold Hid
        rw [List.take_succ_eq_append_getElem hlt, List.all_append, hall.out, hx]
        simp [List.getD_eq_getElem?_getD, hlt]
      have HBAD : Hid (fFin x = false → zs.all fFin = false) := by
        intro hf
        cases hall2 : zs.all fFin
        · rfl
        · have := List.all_eq_true.1 hall2 x hmem
          rw [hf] at this
          cases this
      have hm := mask_bits hx0.1 hx0.2
      have HN : Hid (Below w.heap.size w wr) := hnx
      clear hx hmem h3 hall hnx
      cases hf : fFin x
      · rw [hf] at hm
        have hbad := HBAD.out hf
        have HF : Hid (zs.all fFin = false) := hbad
        clear hbad
        go_wp2
        go_ret
        exact ⟨by rw [HF.out]; rfl, HN.out⟩
      · rw [hf] at hm
        go_wp2
        go_roundw
        case rel => exact ⟨i + 1, by omega, by simp, by unfold Hid; rw [HTK.out, hf], HN.out⟩
        case measure => simp [intOf]; omega
    · have hie : i = zs.length := by omega
      subst hie
      have HF : Hid (zs.all fFin = true) := by
        have := hall.out
        rwa [List.take_length] at this
      have HN : Hid (Below w.heap.size w wr) := hnx
      clear hall hnx hz2
      go_wp2
      go_ret
      exact ⟨by rw [HF.out]; rfl, HN.out⟩

end Go.Proofs.Ytcjdnomhnlbmbaa
