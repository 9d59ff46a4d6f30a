/-
  The program's plainDigits, BigParse.
-/
import Derived.Test.YtlbegmepmeimkaaImplP
import Derived.Test.YtlbegmepmeimkaaRes
namespace Go.Proofs.Ytlbegmepmeimkaa
open Go.RowKit

/-- Bytes. -/
def Byt (ts : List Int) : Prop := ∀ t, t ∈ ts → 0 ≤ t ∧ t ≤ 255

theorem Byt.at {ts : List Int} (h : Byt ts) (j : Nat) : 0 ≤ ts.getD j 0 ∧ ts.getD j 0 ≤ 255 := by
  by_cases hj : j < ts.length
  · rw [List.getD_eq_getElem?_getD, List.getElem?_eq_getElem hj]; exact h _ (List.getElem_mem hj)
  · rw [List.getD_eq_getElem?_getD, List.getElem?_eq_none (by omega)]; decide

set_option maxHeartbeats 2000000 in
theorem plain_any (a : Option Addr) (c : Nat) (ts : List Int) (w : World) (hn : ts.length ≤ 1048576) (hz : RowAt .u8 w a ts) :
    Calls Try.prog 48 #[.slice a ts.length c] w fun e w' => e = .returned (.bool (plainB ts)) ∧ w' = w := by
  go_enter Try.func48, Try.ntmps48
  go_wp2
  go_loop [7] (fun i => ∃ k : Nat, k ≤ ts.length ∧ i = .int .i64 k ∧ Hid (Dec (ts.take k))) (fun i => ts.length - (intOf i).toNat)
  case atStart => exact ⟨0, Nat.zero_le _, rfl, fun t ht => by simp at ht⟩
  case round =>
    obtain ⟨k, hk, rfl, hd⟩ := hrel
    by_cases hlt : k < ts.length
    · obtain ⟨b, off, rfl, g1⟩ := row_cell hz (Below.refl _ w) hlt
      obtain ⟨t, ht⟩ : ∃ t, t = ts.getD k 0 := ⟨_, rfl⟩
      rw [← ht] at g1
      have HT : Hid (t = ts.getD k 0) := ht
      clear ht
      by_cases h0 : t < 48
      · have HP : Hid (plainB ts = false) := plain_bad hlt (by rw [← HT.out]; omega)
        go_wp2
        go_ret
        exact ⟨ret_bool HP.out.symm, rfl⟩
      · by_cases h1 : 57 < t
        · have HP : Hid (plainB ts = false) := plain_bad hlt (by rw [← HT.out]; omega)
          go_wp2
          go_ret
          exact ⟨ret_bool HP.out.symm, rfl⟩
        · have HD : Hid (Dec (ts.take (k + 1))) := dec_succ hlt hd.out (by rw [← HT.out]; omega) (by rw [← HT.out]; omega)
          go_wp2
          go_round
          case rel => exact ⟨k + 1, by omega, by go_num, HD⟩
          case measure => simp [intOf]; omega
    · have hkn : k = ts.length := by omega
      subst hkn
      rw [List.take_length] at hd
      have HA : Hid (ts.all (fun t => decide (48 ≤ t) && decide (t ≤ 57)) = true) := all_dec hd.out
      clear hd
      by_cases hl1 : ts.length = 1
      · have HP : Hid (plainB ts = true) := by unfold Hid plainB; rw [HA.out]; simp [hl1]
        have e1 : ((ts.length : Int) == 1) = true := by rw [beq_iff_eq]; omega
        clear hl1
        go_wp2
        go_ret
        exact ⟨ret_bool HP.out.symm, rfl⟩
      · have e1 : ((ts.length : Int) == 1) = false := by rw [beq_eq_false_iff_ne]; omega
        by_cases hl2 : 1 < ts.length
        · obtain ⟨b, off, rfl, g1⟩ := row_cell hz (Below.refl _ w) (show 0 < ts.length by omega)
          obtain ⟨t, ht⟩ : ∃ t, t = ts.getD 0 0 := ⟨_, rfl⟩
          rw [← ht, Nat.add_zero] at g1
          have HP : Hid (plainB ts = (t != 48)) := by unfold Hid plainB; rw [HA.out, ht]; simp [hl1, hl2]
          clear ht hl1
          go_wp2
          go_ret
          exact ⟨ret_bool HP.out.symm, rfl⟩
        · have HP : Hid (plainB ts = false) := by unfold Hid plainB; simp [hl1, hl2]
          clear hl1
          go_wp2
          go_ret
          exact ⟨ret_bool HP.out.symm, rfl⟩

end Go.Proofs.Ytlbegmepmeimkaa
