/-
  The program's shifts up.
-/
import Derived.Test.YtladfpljnaippabDoorImplC0
import Derived.Test.YtladfpljnaippabDoorNumX
import Derived.Test.YtladfpljnaippabDoorRes
namespace Go.Proofs.YtladfpljnaippabDoor
open Go.RowKit

/-- The row of a shift up that has come to limb k: zeros below, k limbs done, the carry, zeros above. -/
def upRow (s : Nat) (D : List Int) (c : Int) (m : Nat) : List Int := List.replicate s 0 ++ (D ++ c :: List.replicate m 0)

theorem upRow_length (s : Nat) (D : List Int) (c : Int) (m : Nat) : (upRow s D c m).length = s + (D.length + (m + 1)) := by simp [upRow]

theorem upRow_get (s : Nat) (D : List Int) (c : Int) (m : Nat) : (upRow s D c m).getD (s + D.length) 0 = c := by
  unfold upRow
  rw [List.getD_eq_getElem?_getD, List.getElem?_append_right (by simp), List.length_replicate, show s + D.length - s = D.length by omega, List.getElem?_append_right (Nat.le_refl _)]
  simp

theorem upRow_set (s : Nat) (D : List Int) (c d e : Int) (m : Nat) : ((upRow s D c (m + 1)).set (s + D.length) d).set (s + D.length + 1) e = upRow s (D ++ [d]) e m := by
  unfold upRow
  rw [List.replicate_succ]
  have h1 : (List.replicate s (0 : Int) ++ (D ++ c :: 0 :: List.replicate m 0)).set (s + D.length) d = List.replicate s 0 ++ (D ++ d :: 0 :: List.replicate m 0) := by
    rw [List.set_append_right _ _ (by simp), List.length_replicate, show s + D.length - s = D.length by omega, List.set_append_right _ _ (Nat.le_refl _)]
    simp
  rw [h1, List.set_append_right _ _ (by simp; omega), List.length_replicate, show s + D.length + 1 - s = D.length + 1 by omega, List.set_append_right _ _ (by omega)]
  simp

set_option maxHeartbeats 4000000 in
theorem upI_any (a : Option Addr) (p : Nat) (zs : List Int) (n : Int) (w : World) (hn : zs.length ≤ 100000) (n0 : 0 ≤ n) (n1 : n ≤ 1000000) (hz : RowAt .u32 w a zs) (hdz : Dig 4294967296 zs) :
    Calls Tryd.prog 93 #[.slice a zs.length p, .int .i64 n] w fun e w' => MagOut w (val 4294967296 zs * 2 ^ n.toNat) (zs.length + (n / 32).toNat + 1) e w' := by
  obtain ⟨q0, q1⟩ := two32 n
  obtain ⟨e1, r0⟩ := two32r n
  obtain ⟨s, hs⟩ : ∃ s : Nat, n / 32 = (s : Int) := ⟨(n / 32).toNat, by omega⟩
  have hsb : s ≤ 31250 := by omega
  have HV : Hid (4294967296 ^ s * (val 4294967296 zs * 2 ^ (n % 32).toNat) = val 4294967296 zs * 2 ^ n.toNat) := by
    unfold Hid
    rw [Int.mul_comm (val 4294967296 zs), ← Int.mul_assoc, show s = (n / 32).toNat by omega, pow32 n n0, Int.mul_comm]
  have HE1 : Hid ((4294967296 : Int) = 2 ^ (n % 32).toNat * 2 ^ (32 - n % 32).toNat) := e1
  have hmk := run_make_row' (P := Tryd.prog) 86 33 (.int .u32 0) 4 Tryd.underlying86 Tryd.info33 rfl .i64 .i64 (s + zs.length + 1) (by omega) (by omega)
  rw [show ((s + zs.length + 1 : Nat) : Int) = (s : Int) + (zs.length : Int) + 1 by omega] at hmk
  have HSN : Hid ((n / 32).toNat = s) := by unfold Hid; omega
  clear e1
  go_enter Tryd.func93, Tryd.ntmps93
  go_wp2
  go_loopw [23] (fun t wr => ∃ (k : Nat) (c : Int) (D : List Int), k ≤ zs.length ∧ D.length = k ∧ t = .int .i64 k ∧ 0 ≤ c ∧ c < 2 ^ (n % 32).toNat ∧ Hid (carryD 4294967296 (timesL (2 ^ (n % 32).toNat) zs) 0 = D ++ carryD 4294967296 (timesL (2 ^ (n % 32).toNat) (zs.drop k)) c) ∧ Hid (carryO 4294967296 (timesL (2 ^ (n % 32).toNat) zs) 0 = carryO 4294967296 (timesL (2 ^ (n % 32).toNat) (zs.drop k)) c) ∧
      Own .u32 wr w.heap.size 0 (upRow s D c (zs.length - k)) ∧ Below w.heap.size w wr) (fun t _ => zs.length - (intOf t).toNat)
  case atStart =>
    refine ⟨0, 0, [], Nat.zero_le _, rfl, rfl, by decide, q0, rfl, rfl, ?_, bel0 _ _⟩
    have := Own.made (k := .u32) w (s + zs.length + 1) 33
    have e : upRow s [] 0 (zs.length - 0) = List.replicate (s + zs.length + 1) 0 := by
      unfold upRow
      rw [Nat.sub_zero, List.nil_append, ← List.replicate_succ, List.replicate_append_replicate]
      congr 1
    rw [e]
    exact this
  case round =>
    obtain ⟨k, c, D, hk, hDl, rfl, hc0, hc1, hD, hO, hown, hnx⟩ := hrel
    by_cases hlt : k < zs.length
    · have hb1 := hdz.at (by decide) k
      obtain ⟨b, off, rfl, g1⟩ := row_cell hz hnx hlt
      have ht := timesL_drop (q := 2 ^ (n % 32).toNat) hlt
      obtain ⟨x, hx⟩ : ∃ x, x = zs.getD k 0 := ⟨_, rfl⟩
      rw [← hx] at hb1 g1 ht
      obtain ⟨hb10, hb11⟩ := hb1
      have hp0 := Int.mul_nonneg hb10 (Int.le_of_lt q0)
      have hp1 : x * 2 ^ (n % 32).toNat ≤ 4294967295 * 2147483648 := Int.mul_le_mul (by omega) q1 (by omega) (by decide)
      simp only [Int.reduceMul] at hp1
      have hcar := times_carry (B := 4294967296) (by decide) q0 hb10 hb11 hc0 hc1
      obtain ⟨u1, u2⟩ := up_digit (x := x) HE1.out q0 r0 hc0 hc1
      rw [← u2] at hcar
      have hor := or_up (x := x) n hc0 hc1
      rw [u1] at hor
      have HD : Hid (carryD 4294967296 (timesL (2 ^ (n % 32).toNat) zs) 0 = (D ++ [(x * 2 ^ (n % 32).toNat + c) % 4294967296]) ++ carryD 4294967296 (timesL (2 ^ (n % 32).toNat) (zs.drop (k + 1))) (x * 2 ^ (n % 32).toNat / 4294967296)) := by unfold Hid; rw [hD.out, ht, carryD, u2]; simp
      have HO : Hid (carryO 4294967296 (timesL (2 ^ (n % 32).toNat) zs) 0 = carryO 4294967296 (timesL (2 ^ (n % 32).toNat) (zs.drop (k + 1))) (x * 2 ^ (n % 32).toNat / 4294967296)) := by unfold Hid; rw [hO.out, ht, carryO, u2]
      have hlen := upRow_length s D c (zs.length - k)
      have g2 := hown.cell (s + k) (by rw [hlen]; omega)
      have g3 := hown.free (s + k) (by rw [hlen]; omega)
      have g4 := hown.cell (s + k + 1) (by rw [hlen]; omega)
      have g5 := hown.free (s + k + 1) (by rw [hlen]; omega)
      rw [Nat.zero_add] at g2 g3 g4 g5
      rw [show s + k = s + D.length by omega, upRow_get, hDl] at g2
      have h1 := hown.set (s + k) ((x * 2 ^ (n % 32).toNat + c) % 4294967296) (by rw [hlen]; omega)
      have h2 := h1.set (s + k + 1) (x * 2 ^ (n % 32).toNat / 4294967296) (by rw [List.length_set, hlen]; omega)
      rw [Nat.zero_add, Nat.zero_add, show zs.length - k = (zs.length - (k + 1)) + 1 by omega] at h2
      have h3 := upRow_set s D c ((x * 2 ^ (n % 32).toNat + c) % 4294967296) (x * 2 ^ (n % 32).toNat / 4294967296) (zs.length - (k + 1))
      rw [hDl] at h3
      rw [h3] at h2
      have HS : Hid (Own .u32 ((wr.setCell ⟨w.heap.size, s + k, none⟩ (.int .u32 ((x * 2 ^ (n % 32).toNat + c) % 4294967296))).setCell ⟨w.heap.size, s + k + 1, none⟩ (.int .u32 (x * 2 ^ (n % 32).toNat / 4294967296))) w.heap.size 0 (upRow s (D ++ [(x * 2 ^ (n % 32).toNat + c) % 4294967296]) (x * 2 ^ (n % 32).toNat / 4294967296) (zs.length - (k + 1)))) := h2
      have HB : Hid (Below w.heap.size w ((wr.setCell ⟨w.heap.size, s + k, none⟩ (.int .u32 ((x * 2 ^ (n % 32).toNat + c) % 4294967296))).setCell ⟨w.heap.size, s + k + 1, none⟩ (.int .u32 (x * 2 ^ (n % 32).toNat / 4294967296)))) := (hnx.setCell (Nat.le_refl _) _).setCell (Nat.le_refl _) _
      obtain ⟨hca, hcb⟩ := hcar
      have HCB : Hid (0 ≤ x * 2 ^ (n % 32).toNat / 4294967296 ∧ x * 2 ^ (n % 32).toNat / 4294967296 < 2 ^ (n % 32).toNat) := ⟨hca, hcb⟩
      have hcc : x * 2 ^ (n % 32).toNat / 4294967296 ≤ 4294967295 := by omega
      have HL : Hid (D.length = k) := hDl
      clear h1 h2 h3 u1 u2 hx ht hD hO hown hnx hz hdz hlen hcb
      go_wp2
      go_roundw
      case rel => exact ⟨k + 1, x * 2 ^ (n % 32).toNat / 4294967296, D ++ [(x * 2 ^ (n % 32).toNat + c) % 4294967296], by omega, by rw [List.length_append, HL.out]; rfl, by go_num, HCB.out.1, HCB.out.2, HD, HO, HS.out, HB.out⟩
      case measure => simp [intOf]; omega
    · have hkn : k = zs.length := by omega
      subst hkn
      have hlen := upRow_length s D c (zs.length - zs.length)
      have hDD : carryD 4294967296 (timesL (2 ^ (n % 32).toNat) zs) 0 = D := by
        rw [hD.out, List.drop_eq_nil_of_le (Nat.le_refl _)]; simp [timesL, carryD]
      have hOO : carryO 4294967296 (timesL (2 ^ (n % 32).toNat) zs) 0 = c := by
        rw [hO.out, List.drop_eq_nil_of_le (Nat.le_refl _)]; simp [timesL, carryO]
      have e : upRow s D c (zs.length - zs.length) = List.replicate s 0 ++ (D ++ [c]) := by simp [upRow]
      have hVV : val 4294967296 (upRow s D c (zs.length - zs.length)) = val 4294967296 zs * 2 ^ n.toNat := by
        rw [e, val_up, ← hDD, ← hOO, val_carryDO, val_timesL, Int.add_zero, HV.out]
      have hG : Dig 4294967296 (upRow s D c (zs.length - zs.length)) := by
        rw [e]
        refine Dig.append (Dig.zeros (by decide) _) (Dig.append ?_ (Dig.cons hc0 (by omega) (Dig.nil _)))
        rw [← hDD]
        exact dig_carryD (by decide) _ _
      rw [hDl] at hlen
      obtain ⟨R, hR⟩ : ∃ R, R = upRow s D c (zs.length - zs.length) := ⟨_, rfl⟩
      rw [← hR] at hVV hG hlen hown
      have HVV : Hid (val 4294967296 R = val 4294967296 zs * 2 ^ n.toNat) := hVV
      have HG : Hid (Dig 4294967296 R) := hG
      have HS : Hid (Own .u32 wr w.heap.size 0 R) := hown
      have HB : Hid (Below w.heap.size w wr) := hnx
      have hlen' : s + zs.length + 1 = R.length := by omega
      have HLR : Hid (s + zs.length + 1 = R.length) := hlen'
      clear e hR hVV hG hDD hOO hD hO hown hnx hz hdz hDl hlen hlen'
      go_wp2_with fail
      rw [HLR.out]
      have e1 := HLR.out
      refine (trimmed_any _ _ R _ w.heap.size (by rw [← e1]; omega) (by rw [← e1]; unfold maxLen; omega) (Nat.le_refl _) (fun h => by cases h) (HS.out.new (Nat.le_refl _))).mono ?_
      rintro e w1 ⟨a2, c2, rfl, hf2, hm2, hr2, hw⟩
      subst hw
      have HM : Hid (MagOut w (val 4294967296 zs * 2 ^ n.toNat) (zs.length + (n / 32).toNat + 1) (.returned (.slice a2 (trimL R).length c2)) w1) := by
        refine ⟨a2, c2, trimL R, rfl, hf2, hm2, canon_trim HG.out, by rw [val_trim, HVV.out], ?_, hr2, HB.out⟩
        have := trim_le R
        rw [HSN.out]
        omega
      clear hf2 hm2 hr2 HG HVV HB HS e1
      go_wp2
      go_ret
      exact HM.out

end Go.Proofs.YtladfpljnaippabDoor
