/-
  The program's sums of magnitudes.
-/
import Derived.Test.YtladfpljnaippabDoorImplC0
import Derived.Test.YtladfpljnaippabDoorSpecD
import Derived.Test.YtladfpljnaippabDoorRes
import Derived.Test.YtladfpljnaippabDoorNumD
import Derived.Test.YtladfpljnaippabDoorImplS
namespace Go.Proofs.YtladfpljnaippabDoor
open Go.RowKit

set_option maxHeartbeats 4000000 in
theorem plus_ge (a a' : Option Addr) (p p' : Nat) (zs ys : List Int) (w : World) (hn : zs.length ≤ 100000) (hn' : ys.length ≤ 100000) (hz : RowAt .u32 w a zs) (hy : RowAt .u32 w a' ys) (hdz : Dig 4294967296 zs) (hdy : Dig 4294967296 ys) (hle : ys.length ≤ zs.length) :
    Calls Tryd.prog 117 #[.slice a zs.length p, .slice a' ys.length p'] w fun e w' => MagOut w (val 4294967296 zs + val 4294967296 ys) (zs.length + ys.length + 1) e w' := by
  have hmk := run_make_row' (P := Tryd.prog) 86 33 (.int .u32 0) 4 Tryd.underlying86 Tryd.info33 rfl .i64 .i64 (zs.length + 1) (by omega) (by omega)
  rw [show ((zs.length + 1 : Nat) : Int) = (zs.length : Int) + 1 by omega] at hmk
  go_enter Tryd.func117, Tryd.ntmps117
  go_wp2
  go_loopw [6, 22] (fun cc i wr => ∃ (k : Nat) (c : Int) (out : List Int), k ≤ zs.length ∧ out.length = k ∧ i = .int .i64 k ∧ cc = .int .u64 c ∧ 0 ≤ c ∧ c ≤ 1 ∧ Hid (carryD 4294967296 (sumsL zs ys) 0 = out ++ carryD 4294967296 (sumsL (zs.drop k) (ys.drop k)) c) ∧ Hid (carryO 4294967296 (sumsL zs ys) 0 = carryO 4294967296 (sumsL (zs.drop k) (ys.drop k)) c) ∧
      Own .u32 wr w.heap.size 0 (out ++ List.replicate (zs.length + 1 - k) 0) ∧ Below w.heap.size w wr) (fun _ i _ => zs.length - (intOf i).toNat)
  case atStart => exact ⟨0, 0, [], Nat.zero_le _, rfl, rfl, rfl, by decide, by decide, rfl, rfl, by simpa using Own.made w (zs.length + 1) _, bel0 _ _⟩
  case round =>
    obtain ⟨k, c, out, hk, hol, rfl, rfl, hc0, hc1, hD, hO, hown, hnx⟩ := hrel
    by_cases hlt : k < zs.length
    · have hb1 := hdz.at (by decide) k
      have hb2 := hdy.at (by decide) k
      obtain ⟨b, off, rfl, g1⟩ := row_cell hz hnx hlt
      obtain ⟨x, hx⟩ : ∃ x, x = zs.getD k 0 := ⟨_, rfl⟩
      obtain ⟨y, hyy⟩ : ∃ y, y = ys.getD k 0 := ⟨_, rfl⟩
      rw [← hx] at hb1 g1
      rw [← hyy] at hb2
      obtain ⟨hb10, hb11⟩ := hb1
      obtain ⟨hb20, hb21⟩ := hb2
      have g3 := hown.cell k (by simp; omega)
      have g4 := hown.free k (by simp; omega)
      rw [Nat.zero_add] at g3 g4
      by_cases h2 : k < ys.length
      · obtain ⟨b', off', rfl, g2⟩ := row_cell hy hnx h2
        rw [← hyy] at g2
        have hst := carryDO_sums (B := 4294967296) (xs := zs) (ys := ys) (k := k) (c := c) (s := c + x + y) (.inl hlt) (by rw [← hx, ← hyy]; omega)
        have HD : Hid (carryD 4294967296 (sumsL zs ys) 0 = (out ++ [(c + x + y) % 4294967296]) ++ carryD 4294967296 (sumsL (zs.drop (k + 1)) (ys.drop (k + 1))) ((c + x + y) / 4294967296)) := by unfold Hid; rw [hD.out, hst.1]; simp
        have HO : Hid (carryO 4294967296 (sumsL zs ys) 0 = carryO 4294967296 (sumsL (zs.drop (k + 1)) (ys.drop (k + 1))) ((c + x + y) / 4294967296)) := by unfold Hid; rw [hO.out, hst.2]
        have hs := hown.set k ((c + x + y) % 4294967296) (by simp; omega)
        rw [Nat.zero_add, own_step hol hlt] at hs
        have HS : Hid (Own .u32 (wr.setCell ⟨w.heap.size, k, none⟩ (.int .u32 ((c + x + y) % 4294967296))) w.heap.size 0 ((out ++ [(c + x + y) % 4294967296]) ++ List.replicate (zs.length + 1 - (k + 1)) 0)) := hs
        have HB : Hid (Below w.heap.size w (wr.setCell ⟨w.heap.size, k, none⟩ (.int .u32 ((c + x + y) % 4294967296)))) := hnx.setCell (Nat.le_refl _) _
        clear hst hs hx hyy hD hO hown hnx hz hy hdz hdy
        go_wp2
        go_roundw
        case rel => exact ⟨k + 1, (c + x + y) / 4294967296, out ++ [(c + x + y) % 4294967296], by omega, by simp; omega, by go_num, rfl, by omega, by omega, HD, HO, HS.out, HB.out⟩
        case measure => simp [intOf]; omega
      · have hy0 : y = 0 := by rw [hyy]; exact getD_out h2
        have hst := carryDO_sums (B := 4294967296) (xs := zs) (ys := ys) (k := k) (c := c) (s := c + x) (.inl hlt) (by rw [← hx, ← hyy]; omega)
        have HD : Hid (carryD 4294967296 (sumsL zs ys) 0 = (out ++ [(c + x) % 4294967296]) ++ carryD 4294967296 (sumsL (zs.drop (k + 1)) (ys.drop (k + 1))) ((c + x) / 4294967296)) := by unfold Hid; rw [hD.out, hst.1]; simp
        have HO : Hid (carryO 4294967296 (sumsL zs ys) 0 = carryO 4294967296 (sumsL (zs.drop (k + 1)) (ys.drop (k + 1))) ((c + x) / 4294967296)) := by unfold Hid; rw [hO.out, hst.2]
        have hs := hown.set k ((c + x) % 4294967296) (by simp; omega)
        rw [Nat.zero_add, own_step hol hlt] at hs
        have HS : Hid (Own .u32 (wr.setCell ⟨w.heap.size, k, none⟩ (.int .u32 ((c + x) % 4294967296))) w.heap.size 0 ((out ++ [(c + x) % 4294967296]) ++ List.replicate (zs.length + 1 - (k + 1)) 0)) := hs
        have HB : Hid (Below w.heap.size w (wr.setCell ⟨w.heap.size, k, none⟩ (.int .u32 ((c + x) % 4294967296)))) := hnx.setCell (Nat.le_refl _) _
        clear hst hs hx hyy hD hO hown hnx hz hy hdz hdy hy0
        go_wp2
        go_roundw
        case rel => exact ⟨k + 1, (c + x) / 4294967296, out ++ [(c + x) % 4294967296], by omega, by simp; omega, by go_num, rfl, by omega, by omega, HD, HO, HS.out, HB.out⟩
        case measure => simp [intOf]; omega
    · have hkn : k = zs.length := by omega
      subst hkn
      have g3 := hown.cell zs.length (by simp; omega)
      have g4 := hown.free zs.length (by simp; omega)
      rw [Nat.zero_add] at g3 g4
      have hs := hown.set zs.length c (by simp; omega)
      rw [Nat.zero_add, own_last hol] at hs
      have hDD : carryD 4294967296 (sumsL zs ys) 0 = out := by
        rw [hD.out, List.drop_eq_nil_of_le (Nat.le_refl _), List.drop_eq_nil_of_le (show ys.length ≤ zs.length by omega)]; simp [sumsL, carryD]
      have hOO : carryO 4294967296 (sumsL zs ys) 0 = c := by
        rw [hO.out, List.drop_eq_nil_of_le (Nat.le_refl _), List.drop_eq_nil_of_le (show ys.length ≤ zs.length by omega)]; simp [sumsL, carryO]
      have hV : val 4294967296 (out ++ [c]) = val 4294967296 zs + val 4294967296 ys := by rw [← hDD, ← hOO, val_carryDO, val_sums]; omega
      have hG : Dig 4294967296 (out ++ [c]) := by
        refine Dig.append ?_ (Dig.cons hc0 (by omega) (Dig.nil _))
        rw [← hDD]
        exact dig_carryD (by decide) _ _
      have HV : Hid (val 4294967296 (out ++ [c]) = val 4294967296 zs + val 4294967296 ys) := hV
      have HG : Hid (Dig 4294967296 (out ++ [c])) := hG
      have HL : Hid (out.length = zs.length) := hol
      have HS : Hid (Own .u32 (wr.setCell ⟨w.heap.size, zs.length, none⟩ (.int .u32 c)) w.heap.size 0 (out ++ [c])) := hs
      have HB : Hid (Below w.heap.size w (wr.setCell ⟨w.heap.size, zs.length, none⟩ (.int .u32 c))) := hnx.setCell (Nat.le_refl _) _
      clear hs hV hG hDD hOO hD hO hown hnx hz hy hdz hdy hol
      go_wp2_with fail
      have e1 : zs.length + 1 = (out ++ [c]).length := by simp [HL.out]
      rw [e1]
      refine (trimmed_any _ _ (out ++ [c]) _ w.heap.size (by rw [← e1]; omega) (by rw [← e1]; unfold maxLen; omega) (Nat.le_refl _) (fun h => by cases h) (HS.out.new (Nat.le_refl _))).mono ?_
      rintro e w1 ⟨a2, c2, rfl, hf2, hm2, hr2, hw⟩
      subst hw
      have HM : Hid (MagOut w (val 4294967296 zs + val 4294967296 ys) (zs.length + ys.length + 1) (.returned (.slice a2 (trimL (out ++ [c])).length c2)) (wr.setCell ⟨w.heap.size, zs.length, none⟩ (.int .u32 c))) := by
        refine ⟨a2, c2, trimL (out ++ [c]), rfl, hf2, hm2, canon_trim HG.out, by rw [val_trim, HV.out], ?_, hr2, HB.out⟩
        have := trim_le (out ++ [c])
        rw [← e1] at this
        omega
      clear hf2 hm2 hr2 HG HV HB HS e1
      go_wp2
      go_ret
      exact HM.out

set_option maxHeartbeats 4000000 in
theorem plus_lt (a a' : Option Addr) (p p' : Nat) (zs ys : List Int) (w : World) (hn : zs.length ≤ 100000) (hn' : ys.length ≤ 100000) (hz : RowAt .u32 w a zs) (hy : RowAt .u32 w a' ys) (hdz : Dig 4294967296 zs) (hdy : Dig 4294967296 ys) (hle : ys.length < zs.length) :
    Calls Tryd.prog 117 #[.slice a' ys.length p', .slice a zs.length p] w fun e w' => MagOut w (val 4294967296 zs + val 4294967296 ys) (zs.length + ys.length + 1) e w' := by
  have hmk := run_make_row' (P := Tryd.prog) 86 33 (.int .u32 0) 4 Tryd.underlying86 Tryd.info33 rfl .i64 .i64 (zs.length + 1) (by omega) (by omega)
  rw [show ((zs.length + 1 : Nat) : Int) = (zs.length : Int) + 1 by omega] at hmk
  go_enter Tryd.func117, Tryd.ntmps117
  go_wp2
  go_loopw [6, 22] (fun cc i wr => ∃ (k : Nat) (c : Int) (out : List Int), k ≤ zs.length ∧ out.length = k ∧ i = .int .i64 k ∧ cc = .int .u64 c ∧ 0 ≤ c ∧ c ≤ 1 ∧ Hid (carryD 4294967296 (sumsL zs ys) 0 = out ++ carryD 4294967296 (sumsL (zs.drop k) (ys.drop k)) c) ∧ Hid (carryO 4294967296 (sumsL zs ys) 0 = carryO 4294967296 (sumsL (zs.drop k) (ys.drop k)) c) ∧
      Own .u32 wr w.heap.size 0 (out ++ List.replicate (zs.length + 1 - k) 0) ∧ Below w.heap.size w wr) (fun _ i _ => zs.length - (intOf i).toNat)
  case atStart => exact ⟨0, 0, [], Nat.zero_le _, rfl, rfl, rfl, by decide, by decide, rfl, rfl, by simpa using Own.made w (zs.length + 1) _, bel0 _ _⟩
  case round =>
    obtain ⟨k, c, out, hk, hol, rfl, rfl, hc0, hc1, hD, hO, hown, hnx⟩ := hrel
    by_cases hlt : k < zs.length
    · have hb1 := hdz.at (by decide) k
      have hb2 := hdy.at (by decide) k
      obtain ⟨b, off, rfl, g1⟩ := row_cell hz hnx hlt
      obtain ⟨x, hx⟩ : ∃ x, x = zs.getD k 0 := ⟨_, rfl⟩
      obtain ⟨y, hyy⟩ : ∃ y, y = ys.getD k 0 := ⟨_, rfl⟩
      rw [← hx] at hb1 g1
      rw [← hyy] at hb2
      obtain ⟨hb10, hb11⟩ := hb1
      obtain ⟨hb20, hb21⟩ := hb2
      have g3 := hown.cell k (by simp; omega)
      have g4 := hown.free k (by simp; omega)
      rw [Nat.zero_add] at g3 g4
      by_cases h2 : k < ys.length
      · obtain ⟨b', off', rfl, g2⟩ := row_cell hy hnx h2
        rw [← hyy] at g2
        have hst := carryDO_sums (B := 4294967296) (xs := zs) (ys := ys) (k := k) (c := c) (s := c + x + y) (.inl hlt) (by rw [← hx, ← hyy]; omega)
        have HD : Hid (carryD 4294967296 (sumsL zs ys) 0 = (out ++ [(c + x + y) % 4294967296]) ++ carryD 4294967296 (sumsL (zs.drop (k + 1)) (ys.drop (k + 1))) ((c + x + y) / 4294967296)) := by unfold Hid; rw [hD.out, hst.1]; simp
        have HO : Hid (carryO 4294967296 (sumsL zs ys) 0 = carryO 4294967296 (sumsL (zs.drop (k + 1)) (ys.drop (k + 1))) ((c + x + y) / 4294967296)) := by unfold Hid; rw [hO.out, hst.2]
        have hs := hown.set k ((c + x + y) % 4294967296) (by simp; omega)
        rw [Nat.zero_add, own_step hol hlt] at hs
        have HS : Hid (Own .u32 (wr.setCell ⟨w.heap.size, k, none⟩ (.int .u32 ((c + x + y) % 4294967296))) w.heap.size 0 ((out ++ [(c + x + y) % 4294967296]) ++ List.replicate (zs.length + 1 - (k + 1)) 0)) := hs
        have HB : Hid (Below w.heap.size w (wr.setCell ⟨w.heap.size, k, none⟩ (.int .u32 ((c + x + y) % 4294967296)))) := hnx.setCell (Nat.le_refl _) _
        clear hst hs hx hyy hD hO hown hnx hz hy hdz hdy
        go_wp2
        go_roundw
        case rel => exact ⟨k + 1, (c + x + y) / 4294967296, out ++ [(c + x + y) % 4294967296], by omega, by simp; omega, by go_num, rfl, by omega, by omega, HD, HO, HS.out, HB.out⟩
        case measure => simp [intOf]; omega
      · have hy0 : y = 0 := by rw [hyy]; exact getD_out h2
        have hst := carryDO_sums (B := 4294967296) (xs := zs) (ys := ys) (k := k) (c := c) (s := c + x) (.inl hlt) (by rw [← hx, ← hyy]; omega)
        have HD : Hid (carryD 4294967296 (sumsL zs ys) 0 = (out ++ [(c + x) % 4294967296]) ++ carryD 4294967296 (sumsL (zs.drop (k + 1)) (ys.drop (k + 1))) ((c + x) / 4294967296)) := by unfold Hid; rw [hD.out, hst.1]; simp
        have HO : Hid (carryO 4294967296 (sumsL zs ys) 0 = carryO 4294967296 (sumsL (zs.drop (k + 1)) (ys.drop (k + 1))) ((c + x) / 4294967296)) := by unfold Hid; rw [hO.out, hst.2]
        have hs := hown.set k ((c + x) % 4294967296) (by simp; omega)
        rw [Nat.zero_add, own_step hol hlt] at hs
        have HS : Hid (Own .u32 (wr.setCell ⟨w.heap.size, k, none⟩ (.int .u32 ((c + x) % 4294967296))) w.heap.size 0 ((out ++ [(c + x) % 4294967296]) ++ List.replicate (zs.length + 1 - (k + 1)) 0)) := hs
        have HB : Hid (Below w.heap.size w (wr.setCell ⟨w.heap.size, k, none⟩ (.int .u32 ((c + x) % 4294967296)))) := hnx.setCell (Nat.le_refl _) _
        clear hst hs hx hyy hD hO hown hnx hz hy hdz hdy hy0
        go_wp2
        go_roundw
        case rel => exact ⟨k + 1, (c + x) / 4294967296, out ++ [(c + x) % 4294967296], by omega, by simp; omega, by go_num, rfl, by omega, by omega, HD, HO, HS.out, HB.out⟩
        case measure => simp [intOf]; omega
    · have hkn : k = zs.length := by omega
      subst hkn
      have g3 := hown.cell zs.length (by simp; omega)
      have g4 := hown.free zs.length (by simp; omega)
      rw [Nat.zero_add] at g3 g4
      have hs := hown.set zs.length c (by simp; omega)
      rw [Nat.zero_add, own_last hol] at hs
      have hDD : carryD 4294967296 (sumsL zs ys) 0 = out := by
        rw [hD.out, List.drop_eq_nil_of_le (Nat.le_refl _), List.drop_eq_nil_of_le (show ys.length ≤ zs.length by omega)]; simp [sumsL, carryD]
      have hOO : carryO 4294967296 (sumsL zs ys) 0 = c := by
        rw [hO.out, List.drop_eq_nil_of_le (Nat.le_refl _), List.drop_eq_nil_of_le (show ys.length ≤ zs.length by omega)]; simp [sumsL, carryO]
      have hV : val 4294967296 (out ++ [c]) = val 4294967296 zs + val 4294967296 ys := by rw [← hDD, ← hOO, val_carryDO, val_sums]; omega
      have hG : Dig 4294967296 (out ++ [c]) := by
        refine Dig.append ?_ (Dig.cons hc0 (by omega) (Dig.nil _))
        rw [← hDD]
        exact dig_carryD (by decide) _ _
      have HV : Hid (val 4294967296 (out ++ [c]) = val 4294967296 zs + val 4294967296 ys) := hV
      have HG : Hid (Dig 4294967296 (out ++ [c])) := hG
      have HL : Hid (out.length = zs.length) := hol
      have HS : Hid (Own .u32 (wr.setCell ⟨w.heap.size, zs.length, none⟩ (.int .u32 c)) w.heap.size 0 (out ++ [c])) := hs
      have HB : Hid (Below w.heap.size w (wr.setCell ⟨w.heap.size, zs.length, none⟩ (.int .u32 c))) := hnx.setCell (Nat.le_refl _) _
      clear hs hV hG hDD hOO hD hO hown hnx hz hy hdz hdy hol
      go_wp2_with fail
      have e1 : zs.length + 1 = (out ++ [c]).length := by simp [HL.out]
      rw [e1]
      refine (trimmed_any _ _ (out ++ [c]) _ w.heap.size (by rw [← e1]; omega) (by rw [← e1]; unfold maxLen; omega) (Nat.le_refl _) (fun h => by cases h) (HS.out.new (Nat.le_refl _))).mono ?_
      rintro e w1 ⟨a2, c2, rfl, hf2, hm2, hr2, hw⟩
      subst hw
      have HM : Hid (MagOut w (val 4294967296 zs + val 4294967296 ys) (zs.length + ys.length + 1) (.returned (.slice a2 (trimL (out ++ [c])).length c2)) (wr.setCell ⟨w.heap.size, zs.length, none⟩ (.int .u32 c))) := by
        refine ⟨a2, c2, trimL (out ++ [c]), rfl, hf2, hm2, canon_trim HG.out, by rw [val_trim, HV.out], ?_, hr2, HB.out⟩
        have := trim_le (out ++ [c])
        rw [← e1] at this
        omega
      clear hf2 hm2 hr2 HG HV HB HS e1
      go_wp2
      go_ret
      exact HM.out

theorem plus_any (a a' : Option Addr) (p p' : Nat) (zs ys : List Int) (w : World) (hn : zs.length ≤ 100000) (hn' : ys.length ≤ 100000) (hz : RowAt .u32 w a zs) (hy : RowAt .u32 w a' ys) (hdz : Dig 4294967296 zs) (hdy : Dig 4294967296 ys) :
    Calls Tryd.prog 117 #[.slice a zs.length p, .slice a' ys.length p'] w fun e w' => MagOut w (val 4294967296 zs + val 4294967296 ys) (zs.length + ys.length + 1) e w' := by
  by_cases h : ys.length ≤ zs.length
  · exact plus_ge a a' p p' zs ys w hn hn' hz hy hdz hdy h
  · have := plus_lt a' a p' p ys zs w hn' hn hy hz hdy hdz (by omega)
    rw [Int.add_comm, Nat.add_comm zs.length]
    exact this

end Go.Proofs.YtladfpljnaippabDoor

/-
  The program's differences of magnitudes.
-/
namespace Go.Proofs.YtladfpljnaippabDoor
open Go.RowKit

theorem fill_next {out : List Int} {n k : Nat} {d : Int} (h : out.length = k) (hk : k < n) : (out ++ List.replicate (n - k) 0).set k d = (out ++ [d]) ++ List.replicate (n - (k + 1)) 0 := by
  rw [show n - k = (n - (k + 1)) + 1 by omega, List.replicate_succ, set_mid h]
  simp

/-- A difference below zero, wrapped round to 64 bits. -/
theorem wrap_low {z : Int} (h0 : -8589934592 < z) (h1 : z < 0) (h2 : -4294967296 ≤ z) : IntKind.u64.wrap z % 4294967296 = z + 4294967296 ∧ IntKind.u64.wrap z / 9223372036854775808 = 1 := by
  rw [IntKind.wrap_u64]
  omega

set_option maxHeartbeats 4000000 in
theorem minus_any (a a' : Option Addr) (p p' : Nat) (zs ys : List Int) (w : World) (hn : zs.length ≤ 100000) (hz : RowAt .u32 w a zs) (hy : RowAt .u32 w a' ys) (hdz : Dig 4294967296 zs) (hdy : Dig 4294967296 ys) (hle : ys.length ≤ zs.length) (hv : val 4294967296 ys ≤ val 4294967296 zs) :
    Calls Tryd.prog 118 #[.slice a zs.length p, .slice a' ys.length p'] w fun e w' => MagOut w (val 4294967296 zs - val 4294967296 ys) zs.length e w' := by
  have HVV : Hid (val 4294967296 (carryD 4294967296 (diffsL zs ys) 0) = val 4294967296 zs - val 4294967296 ys) := val_sub (by decide) hdz hdy hle hv
  have hmk := run_make_row' (P := Tryd.prog) 86 33 (.int .u32 0) 4 Tryd.underlying86 Tryd.info33 rfl .i64 .i64 zs.length (by omega) (by omega)
  clear hv
  go_enter Tryd.func118, Tryd.ntmps118
  go_wp2
  go_loopw [6, 16] (fun cc i wr => ∃ (k : Nat) (c : Int) (out : List Int), k ≤ zs.length ∧ out.length = k ∧ i = .int .i64 k ∧ cc = .int .u64 c ∧ 0 ≤ c ∧ c ≤ 1 ∧ Hid (carryD 4294967296 (diffsL zs ys) 0 = out ++ carryD 4294967296 (diffsL (zs.drop k) (ys.drop k)) (-c)) ∧
      Own .u32 wr w.heap.size 0 (out ++ List.replicate (zs.length - k) 0) ∧ Below w.heap.size w wr) (fun _ i _ => zs.length - (intOf i).toNat)
  case atStart => exact ⟨0, 0, [], Nat.zero_le _, rfl, rfl, rfl, by decide, by decide, rfl, by simpa using Own.made w zs.length _, bel0 _ _⟩
  case round =>
    obtain ⟨k, c, out, hk, hol, rfl, rfl, hc0, hc1, hD, hown, hnx⟩ := hrel
    by_cases hlt : k < zs.length
    · have hb1 := hdz.at (by decide) k
      have hb2 := hdy.at (by decide) k
      obtain ⟨b, off, rfl, g1⟩ := row_cell hz hnx hlt
      obtain ⟨x, hx⟩ : ∃ x, x = zs.getD k 0 := ⟨_, rfl⟩
      obtain ⟨y, hyy⟩ : ∃ y, y = ys.getD k 0 := ⟨_, rfl⟩
      rw [← hx] at hb1 g1
      rw [← hyy] at hb2
      obtain ⟨hb10, hb11⟩ := hb1
      obtain ⟨hb20, hb21⟩ := hb2
      have g3 := hown.cell k (by simp; omega)
      have g4 := hown.free k (by simp; omega)
      rw [Nat.zero_add] at g3 g4
      by_cases h2 : k < ys.length
      · obtain ⟨b', off', rfl, g2⟩ := row_cell hy hnx h2
        rw [← hyy] at g2
        by_cases hv : x < c + y
        · have hst := sub_step (B := 4294967296) (xs := zs) (ys := ys) (s := x - c - y) (c := -c) hlt (by rw [← hx, ← hyy]; omega)
          have HW : Hid (IntKind.u64.wrap (x - (c + y)) % 4294967296 = x - (c + y) + 4294967296 ∧ IntKind.u64.wrap (x - (c + y)) / 9223372036854775808 = 1) := wrap_low (by omega) (by omega) (by omega)
          rw [show (x - c - y) % 4294967296 = x - (c + y) + 4294967296 by omega, show (x - c - y) / 4294967296 = -1 by omega] at hst
          have HD : Hid (carryD 4294967296 (diffsL zs ys) 0 = (out ++ [x - (c + y) + 4294967296]) ++ carryD 4294967296 (diffsL (zs.drop (k + 1)) (ys.drop (k + 1))) (-1)) := by unfold Hid; rw [hD.out, hst]; simp
          have hs := hown.set k (x - (c + y) + 4294967296) (by simp; omega)
          rw [Nat.zero_add, fill_next hol hlt] at hs
          have HS : Hid (Own .u32 (wr.setCell ⟨w.heap.size, k, none⟩ (.int .u32 (x - (c + y) + 4294967296))) w.heap.size 0 ((out ++ [x - (c + y) + 4294967296]) ++ List.replicate (zs.length - (k + 1)) 0)) := hs
          have HB : Hid (Below w.heap.size w (wr.setCell ⟨w.heap.size, k, none⟩ (.int .u32 (x - (c + y) + 4294967296)))) := hnx.setCell (Nat.le_refl _) _
          clear hst hs hx hyy hD hown hnx hz hy hdz hdy
          go_wp2
          go_roundw
          case rel => exact ⟨k + 1, 1, out ++ [x - (c + y) + 4294967296], by omega, by simp; omega, by go_num, by rw [HW.out.2], by omega, by omega, HD, by rw [HW.out.1]; exact HS.out, by rw [HW.out.1]; exact HB.out⟩
          case measure => simp [intOf]; omega
        · have hst := sub_step (B := 4294967296) (xs := zs) (ys := ys) (s := x - c - y) (c := -c) hlt (by rw [← hx, ← hyy]; omega)
          rw [show (x - c - y) % 4294967296 = x - (c + y) by omega, show (x - c - y) / 4294967296 = -0 by omega] at hst
          have HD : Hid (carryD 4294967296 (diffsL zs ys) 0 = (out ++ [x - (c + y)]) ++ carryD 4294967296 (diffsL (zs.drop (k + 1)) (ys.drop (k + 1))) (-0)) := by unfold Hid; rw [hD.out, hst]; simp
          have hs := hown.set k (x - (c + y)) (by simp; omega)
          rw [Nat.zero_add, fill_next hol hlt] at hs
          have HS : Hid (Own .u32 (wr.setCell ⟨w.heap.size, k, none⟩ (.int .u32 (x - (c + y)))) w.heap.size 0 ((out ++ [x - (c + y)]) ++ List.replicate (zs.length - (k + 1)) 0)) := hs
          have HB : Hid (Below w.heap.size w (wr.setCell ⟨w.heap.size, k, none⟩ (.int .u32 (x - (c + y))))) := hnx.setCell (Nat.le_refl _) _
          clear hst hs hx hyy hD hown hnx hz hy hdz hdy
          go_wp2
          go_roundw
          case rel => exact ⟨k + 1, 0, out ++ [x - (c + y)], by omega, by simp; omega, by go_num, by go_num, by omega, by omega, HD, HS.out, HB.out⟩
          case measure => simp [intOf]; omega
      · have hy0 : y = 0 := by rw [hyy]; exact getD_out h2
        by_cases hv : x < c
        · have hst := sub_step (B := 4294967296) (xs := zs) (ys := ys) (s := x - c) (c := -c) hlt (by rw [← hx, ← hyy]; omega)
          have HW : Hid (IntKind.u64.wrap (x - c) % 4294967296 = x - c + 4294967296 ∧ IntKind.u64.wrap (x - c) / 9223372036854775808 = 1) := wrap_low (by omega) (by omega) (by omega)
          rw [show (x - c) % 4294967296 = x - c + 4294967296 by omega, show (x - c) / 4294967296 = -1 by omega] at hst
          have HD : Hid (carryD 4294967296 (diffsL zs ys) 0 = (out ++ [x - c + 4294967296]) ++ carryD 4294967296 (diffsL (zs.drop (k + 1)) (ys.drop (k + 1))) (-1)) := by unfold Hid; rw [hD.out, hst]; simp
          have hs := hown.set k (x - c + 4294967296) (by simp; omega)
          rw [Nat.zero_add, fill_next hol hlt] at hs
          have HS : Hid (Own .u32 (wr.setCell ⟨w.heap.size, k, none⟩ (.int .u32 (x - c + 4294967296))) w.heap.size 0 ((out ++ [x - c + 4294967296]) ++ List.replicate (zs.length - (k + 1)) 0)) := hs
          have HB : Hid (Below w.heap.size w (wr.setCell ⟨w.heap.size, k, none⟩ (.int .u32 (x - c + 4294967296)))) := hnx.setCell (Nat.le_refl _) _
          clear hst hs hx hyy hD hown hnx hz hy hdz hdy hy0
          go_wp2
          go_roundw
          case rel => exact ⟨k + 1, 1, out ++ [x - c + 4294967296], by omega, by simp; omega, by go_num, by rw [HW.out.2], by omega, by omega, HD, by rw [HW.out.1]; exact HS.out, by rw [HW.out.1]; exact HB.out⟩
          case measure => simp [intOf]; omega
        · have hst := sub_step (B := 4294967296) (xs := zs) (ys := ys) (s := x - c) (c := -c) hlt (by rw [← hx, ← hyy]; omega)
          rw [show (x - c) % 4294967296 = x - c by omega, show (x - c) / 4294967296 = -0 by omega] at hst
          have HD : Hid (carryD 4294967296 (diffsL zs ys) 0 = (out ++ [x - c]) ++ carryD 4294967296 (diffsL (zs.drop (k + 1)) (ys.drop (k + 1))) (-0)) := by unfold Hid; rw [hD.out, hst]; simp
          have hs := hown.set k (x - c) (by simp; omega)
          rw [Nat.zero_add, fill_next hol hlt] at hs
          have HS : Hid (Own .u32 (wr.setCell ⟨w.heap.size, k, none⟩ (.int .u32 (x - c))) w.heap.size 0 ((out ++ [x - c]) ++ List.replicate (zs.length - (k + 1)) 0)) := hs
          have HB : Hid (Below w.heap.size w (wr.setCell ⟨w.heap.size, k, none⟩ (.int .u32 (x - c)))) := hnx.setCell (Nat.le_refl _) _
          clear hst hs hx hyy hD hown hnx hz hy hdz hdy hy0
          go_wp2
          go_roundw
          case rel => exact ⟨k + 1, 0, out ++ [x - c], by omega, by simp; omega, by go_num, by go_num, by omega, by omega, HD, HS.out, HB.out⟩
          case measure => simp [intOf]; omega
    · have hkn : k = zs.length := by omega
      subst hkn
      have hDD : carryD 4294967296 (diffsL zs ys) 0 = out := by
        rw [hD.out, List.drop_eq_nil_of_le (Nat.le_refl _)]; simp [diffsL, carryD]
      have hs : Own .u32 wr w.heap.size 0 out := by simpa using hown
      have hG : Dig 4294967296 out := by rw [← hDD]; exact dig_carryD (by decide) _ _
      rw [hDD] at HVV
      have HG : Hid (Dig 4294967296 out) := hG
      have HL : Hid (out.length = zs.length) := hol
      have HS : Hid (Own .u32 wr w.heap.size 0 out) := hs
      have HB : Hid (Below w.heap.size w wr) := hnx
      clear hs hG hDD hD hown hnx hz hy hdz hdy hol
      go_wp2_with fail
      have e1 : zs.length = out.length := HL.out.symm
      rw [e1]
      refine (trimmed_any _ _ out _ w.heap.size (by omega) (by unfold maxLen; omega) (Nat.le_refl _) (fun h => by cases h) (HS.out.new (Nat.le_refl _))).mono ?_
      rintro e w1 ⟨a2, c2, rfl, hf2, hm2, hr2, hw⟩
      subst hw
      have HM : Hid (MagOut w (val 4294967296 zs - val 4294967296 ys) zs.length (.returned (.slice a2 (trimL out).length c2)) w1) := by
        refine ⟨a2, c2, trimL out, rfl, hf2, hm2, canon_trim HG.out, by rw [val_trim, HVV.out], ?_, hr2, HB.out⟩
        have := trim_le out
        omega
      clear hf2 hm2 hr2 HG HVV HB HS e1
      go_wp2
      go_ret
      exact HM.out

end Go.Proofs.YtladfpljnaippabDoor

/-
  The program's order of magnitudes.
-/
namespace Go.Proofs.YtladfpljnaippabDoor
open Go.RowKit

set_option maxHeartbeats 1000000 in
theorem cmpI_any (x y : Int) (w : World) :
    Calls Tryd.prog 120 #[.int .i64 x, .int .i64 y] w fun e w' => e = .returned (.int .i64 (sgn (x - y))) ∧ w' = w := by
  have hx : (x != x) = false := by simp
  have hy : (y != y) = false := by simp
  rcases sgn_cases (x - y) with ⟨h1, h2⟩ | ⟨h1, h2⟩ | ⟨h1, h2⟩
  · have HS : Hid (sgn (x - y) = -1) := h2
    have h3 : x < y := by omega
    clear h1 h2
    go_enter Tryd.func120, Tryd.ntmps120
    go_wp2
    go_ret
    exact ⟨ret_int HS.out.symm, rfl⟩
  · have HS : Hid (sgn (x - y) = 0) := h2
    have h3 : ¬ x < y := by omega
    have h4 : ¬ y < x := by omega
    clear h1 h2
    go_enter Tryd.func120, Tryd.ntmps120
    go_wp2
    go_ret
    exact ⟨ret_int HS.out.symm, rfl⟩
  · have HS : Hid (sgn (x - y) = 1) := h2
    have h3 : ¬ x < y := by omega
    have h4 : y < x := by omega
    clear h1 h2
    go_enter Tryd.func120, Tryd.ntmps120
    go_wp2
    go_ret
    exact ⟨ret_int HS.out.symm, rfl⟩

set_option maxHeartbeats 1000000 in
theorem cmpU_any (x y : Int) (w : World) :
    Calls Tryd.prog 121 #[.int .u32 x, .int .u32 y] w fun e w' => e = .returned (.int .i64 (sgn (x - y))) ∧ w' = w := by
  have hx : (x != x) = false := by simp
  have hy : (y != y) = false := by simp
  rcases sgn_cases (x - y) with ⟨h1, h2⟩ | ⟨h1, h2⟩ | ⟨h1, h2⟩
  · have HS : Hid (sgn (x - y) = -1) := h2
    have h3 : x < y := by omega
    clear h1 h2
    go_enter Tryd.func121, Tryd.ntmps121
    go_wp2
    go_ret
    exact ⟨ret_int HS.out.symm, rfl⟩
  · have HS : Hid (sgn (x - y) = 0) := h2
    have h3 : ¬ x < y := by omega
    have h4 : ¬ y < x := by omega
    clear h1 h2
    go_enter Tryd.func121, Tryd.ntmps121
    go_wp2
    go_ret
    exact ⟨ret_int HS.out.symm, rfl⟩
  · have HS : Hid (sgn (x - y) = 1) := h2
    have h3 : ¬ x < y := by omega
    have h4 : y < x := by omega
    clear h1 h2
    go_enter Tryd.func121, Tryd.ntmps121
    go_wp2
    go_ret
    exact ⟨ret_int HS.out.symm, rfl⟩

set_option maxHeartbeats 1000000 in
theorem order_any (a a' : Option Addr) (c c' : Nat) (zs ys : List Int) (w : World) (hn : zs.length ≤ 1048576) (_hn' : ys.length ≤ 1048576) (hz : RowAt .u32 w a zs) (hy : RowAt .u32 w a' ys) :
    Calls Tryd.prog 114 #[.slice a zs.length c, .slice a' ys.length c'] w fun e w' => e = .returned (.int .i64 (cmpL zs ys)) ∧ Below w.heap.size w w' := by
  by_cases hl : zs.length = ys.length
  · have HC : Hid (cmpL zs ys = cmpTop zs ys) := by unfold Hid cmpL; rw [if_pos hl]
    have hne : ((zs.length : Int) != (ys.length : Int)) = false := by rw [bne_eq_false_iff_eq]; omega
    have HL : Hid (zs.length = ys.length) := hl
    clear hl
    go_enter Tryd.func114, Tryd.ntmps114
    go_wp2
    go_loopw [5] (fun i wr => ∃ k : Nat, k ≤ zs.length ∧ i = .int .i64 ((k : Int) - 1) ∧ Hid (cmpTop zs ys = cmpTop (zs.take k) (ys.take k)) ∧ Below w.heap.size w wr) (fun i _ => (intOf i + 1).toNat)
    case atStart => exact ⟨zs.length, Nat.le_refl _, rfl, by unfold Hid; rw [List.take_length, HL.out, List.take_length], Below.refl _ _⟩
    case round =>
      obtain ⟨k, hk, rfl, hsame, hnx⟩ := hrel
      by_cases h0 : k = 0
      · subst h0
        go_wp2
        go_ret
        exact ⟨ret_int (by rw [HC.out, hsame.out]; simp [cmpTop]), hnx⟩
      · obtain ⟨k, rfl⟩ : ∃ m, k = m + 1 := ⟨k - 1, by omega⟩
        have hlt' : k < ys.length := by have := HL.out; omega
        obtain ⟨b, off, rfl, g1⟩ := row_cell hz hnx (show k < zs.length by omega)
        obtain ⟨b', off', rfl, g2⟩ := row_cell hy hnx hlt'
        have hst := cmpTop_take (show k < zs.length by omega) hlt'
        obtain ⟨x, hx⟩ : ∃ x, x = zs.getD k 0 := ⟨_, rfl⟩
        obtain ⟨y, hyy⟩ : ∃ y, y = ys.getD k 0 := ⟨_, rfl⟩
        rw [← hx] at g1 hst
        rw [← hyy] at g2 hst
        have HST : Hid (cmpL zs ys = if x = y then cmpTop (zs.take k) (ys.take k) else sgn (x - y)) := by unfold Hid; rw [HC.out, hsame.out, hst]
        have HS2 : Hid (cmpTop zs ys = if x = y then cmpTop (zs.take k) (ys.take k) else sgn (x - y)) := by unfold Hid; rw [hsame.out, hst]
        clear hst hx hyy hsame HC hz hy
        by_cases c1 : x = y
        · have hxy : (x != y) = false := by simp [c1]
          have C1 : Hid (x = y) := c1
          clear c1
          go_wp2
          go_quiet (fail)
          go_wp2
          go_roundw
          case rel => exact ⟨k, by omega, by go_num, by unfold Hid; rw [HS2.out, if_pos C1.out], below_drewN hnx _⟩
          case measure => simp [intOf]
        · have hxy : (x != y) = true := by simp [c1]
          have C1 : Hid (¬ x = y) := c1
          clear c1
          go_wp2
          go_quiet (fail)
          have hnx' := below_drewN hnx nq
          have g1' : (wr.drewN nq).cell? ⟨b, off + k, none⟩ = some (.int .u32 x) := by simpa using g1
          have g2' : (wr.drewN nq).cell? ⟨b', off' + k, none⟩ = some (.int .u32 y) := by simpa using g2
          clear hnx g1 g2
          generalize wr.drewN nq = wq at *
          go_wp2
          go_quiet (first | (go_at_call 121; refine Calls.quiet_of_same (cmpU_any _ _ _)))
          go_wp2
          go_ret
          exact ⟨ret_int (by rw [HST.out, if_neg C1.out]), below_drewN hnx' _⟩
  · have hne : ((zs.length : Int) != (ys.length : Int)) = true := by rw [bne_iff_ne]; omega
    have HC : Hid (cmpL zs ys = sgn ((zs.length : Int) - (ys.length : Int))) := by
      unfold Hid cmpL sgn
      rw [if_neg hl]
      by_cases h2 : zs.length < ys.length
      · rw [if_pos h2, if_pos (by omega)]
      · rw [if_neg h2, if_neg (by omega), if_neg (by omega)]
    clear hl
    go_enter Tryd.func114, Tryd.ntmps114
    go_wp2_with (go_at_call 120; refine (cmpI_any _ _ _).mono ?_; rintro e w1 ⟨rfl, rfl⟩)
    go_ret
    exact ⟨ret_int HC.out.symm, Below.refl _ _⟩

end Go.Proofs.YtladfpljnaippabDoor

/-
  The program's sums of Bigs.
-/
namespace Go.Proofs.YtladfpljnaippabDoor
open Go.RowKit

set_option maxHeartbeats 4000000 in
theorem sum_same (g g' : Bool) (a a' : Option Addr) (c c' : Nat) (zs ys : List Int) (x y : Int) (w : World) (hn : zs.length ≤ 100000) (hn' : ys.length ≤ 100000) (hz : RowAt .u32 w a zs) (hy : RowAt .u32 w a' ys) (h : B1 g zs x) (h' : B1 g' ys y) (hg : g = g') :
    Calls Tryd.prog 109 #[.agg #[.bool g, .slice a zs.length c], .agg #[.bool g', .slice a' ys.length c']] w fun e w' => BigOut w (x + y) (zs.length + ys.length + 1) e w' := by
  have HX : Hid (sg g (val 4294967296 zs + val 4294967296 ys) = x + y) := by
    unfold Hid
    rw [h.num, h'.num, hg]
    cases g' <;> simp [sg]
    omega
  have hgg : (g == g') = true := by rw [hg]; simp
  have hdz := h.can.1
  have hdy := h'.can.1
  clear hg h h'
  go_enter Tryd.func109, Tryd.ntmps109
  go_wp2
  obtain ⟨V0, hV0⟩ : ∃ V0, V0 = (((w.alloc (.cells #[.bool g, .slice a zs.length c] 27)).alloc (.cells #[.bool g', .slice a' ys.length c'] 27)).alloc (.cells #[.bool false, .slice none 0 0] 27)) := ⟨_, rfl⟩
  rw [← hV0]
  have F0 : Hid (AddF w g g' (.slice a zs.length c) (.slice a' ys.length c') (.slice none 0 0) V0) := by rw [hV0]; exact AddF.start w g g' _ _ _ _ _ _
  clear hV0
  have s0 := F0.out.s.1
  have s1 := F0.out.s.2.1
  have s2 := F0.out.s.2.2.1
  have s3 := F0.out.s.2.2.2.1
  go_quiet (fail)
  have F1 : Hid (AddF w g g' (.slice a zs.length c) (.slice a' ys.length c') (.slice none 0 0) (V0.drewN nq)) := F0.out.later (below_drewN (Below.refl _ _) _)
  clear s0 s1 s2 s3 F0
  generalize V0.drewN nq = W0 at *
  have s0 := F1.out.s.1
  have s1 := F1.out.s.2.1
  have s2 := F1.out.s.2.2.1
  have s3 := F1.out.s.2.2.2.1
  have F := F1
  clear F1
  go_wp2
  clear s0 s1 s2 s3
  go_region_held3 (fun w' => w'.cell? ⟨w.heap.size, 0, none⟩ = some (.bool g) ∧ w'.cell? ⟨w.heap.size, 1, none⟩ = some (.slice a zs.length c) ∧ w'.cell? ⟨w.heap.size + 1, 0, none⟩ = some (.bool g') ∧ w'.cell? ⟨w.heap.size + 1, 1, none⟩ = some (.slice a' ys.length c') ∧ Below (w.heap.size + 1 + 1) W0 w')
    (first | exact addS_of F.out.s (Below.refl _ _).drew | exact addS_of F.out.s (by assumption) | exact addS_of F.out.s (Below.setCell (Below.setCell (by assumption) (by simp) _) (by simp) _))
    (first
      | (go_at_call 117; refine (plus_any a a' c c' zs ys _ hn hn' (hz.later F.out.bel.drew) (hy.later F.out.bel.drew) hdz hdy).mono ?_; rintro e w1 ⟨a2, c2, fs, rfl, hf2, hm2, hcan, hval, hlen, hrn1, hb1⟩; have hB1 : Below W0.heap.size W0 w1 := (Below.refl _ _).drew.trans hb1; have hB1' : Below (w.heap.size + 1 + 1) W0 w1 := hB1.mono (by have := F.out.le; omega))
      | (go_at_call 50; refine (signed_any g a2 fs.length c2 _).mono ?_; rintro e w2 ⟨rfl, hb2⟩; have hB2 : Below W0.heap.size W0 w2 := hB1.trans (hb2.mono hB1.size); have hB2' : Below (w.heap.size + 1 + 1) W0 w2 := hB2.mono (by have := F.out.le; omega); have hrn2 : RowNew .u32 w2 W0.heap.size a2 fs := RowNew.later hrn1 hb2; have F2 : Hid (AddF w g g' (.slice a zs.length c) (.slice a' ys.length c') (.slice none 0 0) w2) := F.out.later hB2; have r1 := F2.out.r1; have r2 := F2.out.r2; have r3 := F2.out.r3))
  have HR : Hid (RowNew .u32 w2 W0.heap.size a2 fs) := hrn2
  have HB : Hid (B1 (g && decide (0 < fs.length)) fs (x + y)) := by unfold Hid; rw [← HX.out]; exact B1.of_signed hcan hval
  clear hrn1 hrn2 hB1 hB1' hB2 hB2' hb1 hb2 hcan hval
  generalize (g && decide (0 < fs.length)) = g2 at *
  go_wp2
  refine bodyPost_ret (v := .agg #[.bool g2, .slice a2 fs.length c2]) (by simp [results, Tryd.results109, go_sem, r1, r2]) rfl ?_
  have hle := F.out.le
  refine ⟨g2, a2, c2, fs, rfl, HB.out, by omega, ?_, ?_⟩
  · exact ((HR.out.setLow (by simp; omega) _).setLow (by simp; omega) _).down (by omega)
  · exact (F2.out.bel.setCell (by simp; omega) _).setCell (by simp; omega) _

set_option maxHeartbeats 4000000 in
theorem sum_ge (g g' : Bool) (a a' : Option Addr) (c c' : Nat) (zs ys : List Int) (x y : Int) (w : World) (hn : zs.length ≤ 100000) (hn' : ys.length ≤ 100000) (hz : RowAt .u32 w a zs) (hy : RowAt .u32 w a' ys) (h : B1 g zs x) (h' : B1 g' ys y) (hg : g' = !g) (hcmp : 0 ≤ cmpL zs ys) :
    Calls Tryd.prog 109 #[.agg #[.bool g, .slice a zs.length c], .agg #[.bool g', .slice a' ys.length c']] w fun e w' => BigOut w (x + y) (zs.length + ys.length + 1) e w' := by
  have hcc := cmpL_ge (B := 4294967296) (by decide) h.can h'.can hcmp
  have HX : Hid (sg g (val 4294967296 zs - val 4294967296 ys) = x + y) := by
    unfold Hid
    rw [h.num, h'.num, hg]
    cases g <;> simp [sg] <;> omega
  have hgg : (g == g') = false := by rw [hg]; cases g <;> rfl
  have hdz := h.can.1
  have hdy := h'.can.1
  have hl1 := hcc.1
  have HV : Hid (val 4294967296 ys ≤ val 4294967296 zs) := hcc.2
  obtain ⟨cv, hcv⟩ : ∃ cv, cv = cmpL zs ys := ⟨_, rfl⟩
  have hcmp' : 0 ≤ cv := by omega
  have HC : Hid (cv = cmpL zs ys) := hcv
  clear hg h h' hcc hcv hcmp
  go_enter Tryd.func109, Tryd.ntmps109
  go_wp2
  obtain ⟨V0, hV0⟩ : ∃ V0, V0 = (((w.alloc (.cells #[.bool g, .slice a zs.length c] 27)).alloc (.cells #[.bool g', .slice a' ys.length c'] 27)).alloc (.cells #[.bool false, .slice none 0 0] 27)) := ⟨_, rfl⟩
  rw [← hV0]
  have F0 : Hid (AddF w g g' (.slice a zs.length c) (.slice a' ys.length c') (.slice none 0 0) V0) := by rw [hV0]; exact AddF.start w g g' _ _ _ _ _ _
  clear hV0
  have s0 := F0.out.s.1
  have s1 := F0.out.s.2.1
  have s2 := F0.out.s.2.2.1
  have s3 := F0.out.s.2.2.2.1
  go_quiet (fail)
  have F1 : Hid (AddF w g g' (.slice a zs.length c) (.slice a' ys.length c') (.slice none 0 0) (V0.drewN nq)) := F0.out.later (below_drewN (Below.refl _ _) _)
  clear s0 s1 s2 s3 F0
  generalize V0.drewN nq = W0 at *
  have s0 := F1.out.s.1
  have s1 := F1.out.s.2.1
  have s2 := F1.out.s.2.2.1
  have s3 := F1.out.s.2.2.2.1
  go_wp2_with fail
  refine (order_any a a' c c' zs ys _ (by omega) (by omega) (hz.later F1.out.bel) (hy.later F1.out.bel)).mono ?_
  rintro e W1 ⟨rfl, hb0⟩
  rw [← HC.out]
  have F : Hid (AddF w g g' (.slice a zs.length c) (.slice a' ys.length c') (.slice none 0 0) W1) := F1.out.later hb0
  clear hb0 s0 s1 s2 s3 F1
  go_wp2
  go_region_held3 (fun w' => w'.cell? ⟨w.heap.size, 0, none⟩ = some (.bool g) ∧ w'.cell? ⟨w.heap.size, 1, none⟩ = some (.slice a zs.length c) ∧ w'.cell? ⟨w.heap.size + 1, 0, none⟩ = some (.bool g') ∧ w'.cell? ⟨w.heap.size + 1, 1, none⟩ = some (.slice a' ys.length c') ∧ Below (w.heap.size + 1 + 1) W1 w')
    (first | exact addS_of F.out.s (Below.refl _ _).drew | exact addS_of F.out.s (by assumption) | exact addS_of F.out.s (Below.setCell (Below.setCell (by assumption) (by simp) _) (by simp) _))
    (first
      | (go_at_call 118; refine (minus_any a a' c c' zs ys _ hn (hz.later F.out.bel.drew) (hy.later F.out.bel.drew) hdz hdy hl1 HV.out).mono ?_; rintro e w1 ⟨a2, c2, fs, rfl, hf2, hm2, hcan, hval, hlen, hrn1, hb1⟩; have hB1 : Below W1.heap.size W1 w1 := (Below.refl _ _).drew.trans hb1; have hB1' : Below (w.heap.size + 1 + 1) W1 w1 := hB1.mono (by have := F.out.le; omega))
      | (go_at_call 50; refine (signed_any g a2 fs.length c2 _).mono ?_; rintro e w2 ⟨rfl, hb2⟩; have hB2 : Below W1.heap.size W1 w2 := hB1.trans (hb2.mono hB1.size); have hB2' : Below (w.heap.size + 1 + 1) W1 w2 := hB2.mono (by have := F.out.le; omega); have hrn2 : RowNew .u32 w2 W1.heap.size a2 fs := RowNew.later hrn1 hb2; have F2 : Hid (AddF w g g' (.slice a zs.length c) (.slice a' ys.length c') (.slice none 0 0) w2) := F.out.later hB2; have r1 := F2.out.r1; have r2 := F2.out.r2; have r3 := F2.out.r3))
  have HR : Hid (RowNew .u32 w2 W1.heap.size a2 fs) := hrn2
  have HB : Hid (B1 (g && decide (0 < fs.length)) fs (x + y)) := by unfold Hid; rw [← HX.out]; exact B1.of_signed hcan hval
  clear hrn1 hrn2 hB1 hB1' hB2 hB2' hb1 hb2 hcan hval
  generalize (g && decide (0 < fs.length)) = g2 at *
  go_wp2
  refine bodyPost_ret (v := .agg #[.bool g2, .slice a2 fs.length c2]) (by simp [results, Tryd.results109, go_sem, r1, r2]) rfl ?_
  have hle := F.out.le
  refine ⟨g2, a2, c2, fs, rfl, HB.out, by omega, ?_, ?_⟩
  · exact ((HR.out.setLow (by simp; omega) _).setLow (by simp; omega) _).down (by omega)
  · exact (F2.out.bel.setCell (by simp; omega) _).setCell (by simp; omega) _

set_option maxHeartbeats 4000000 in
theorem sum_lt (g g' : Bool) (a a' : Option Addr) (c c' : Nat) (zs ys : List Int) (x y : Int) (w : World) (hn : zs.length ≤ 100000) (hn' : ys.length ≤ 100000) (hz : RowAt .u32 w a zs) (hy : RowAt .u32 w a' ys) (h : B1 g zs x) (h' : B1 g' ys y) (hg : g' = !g) (hcmp : cmpL zs ys < 0) :
    Calls Tryd.prog 109 #[.agg #[.bool g, .slice a zs.length c], .agg #[.bool g', .slice a' ys.length c']] w fun e w' => BigOut w (x + y) (zs.length + ys.length + 1) e w' := by
  have hcc := cmpL_lt (B := 4294967296) (by decide) h.can h'.can hcmp
  have HX : Hid (sg g' (val 4294967296 ys - val 4294967296 zs) = x + y) := by
    unfold Hid
    rw [h.num, h'.num, hg]
    cases g <;> simp [sg] <;> omega
  have hgg : (g == g') = false := by rw [hg]; cases g <;> rfl
  have hdz := h.can.1
  have hdy := h'.can.1
  have hl1 := hcc.1
  have HV : Hid (val 4294967296 zs ≤ val 4294967296 ys) := hcc.2
  obtain ⟨cv, hcv⟩ : ∃ cv, cv = cmpL zs ys := ⟨_, rfl⟩
  have hcmp' : cv < 0 := by omega
  have HC : Hid (cv = cmpL zs ys) := hcv
  clear hg h h' hcc hcv hcmp
  go_enter Tryd.func109, Tryd.ntmps109
  go_wp2
  obtain ⟨V0, hV0⟩ : ∃ V0, V0 = (((w.alloc (.cells #[.bool g, .slice a zs.length c] 27)).alloc (.cells #[.bool g', .slice a' ys.length c'] 27)).alloc (.cells #[.bool false, .slice none 0 0] 27)) := ⟨_, rfl⟩
  rw [← hV0]
  have F0 : Hid (AddF w g g' (.slice a zs.length c) (.slice a' ys.length c') (.slice none 0 0) V0) := by rw [hV0]; exact AddF.start w g g' _ _ _ _ _ _
  clear hV0
  have s0 := F0.out.s.1
  have s1 := F0.out.s.2.1
  have s2 := F0.out.s.2.2.1
  have s3 := F0.out.s.2.2.2.1
  go_quiet (fail)
  have F1 : Hid (AddF w g g' (.slice a zs.length c) (.slice a' ys.length c') (.slice none 0 0) (V0.drewN nq)) := F0.out.later (below_drewN (Below.refl _ _) _)
  clear s0 s1 s2 s3 F0
  generalize V0.drewN nq = W0 at *
  have s0 := F1.out.s.1
  have s1 := F1.out.s.2.1
  have s2 := F1.out.s.2.2.1
  have s3 := F1.out.s.2.2.2.1
  go_wp2_with fail
  refine (order_any a a' c c' zs ys _ (by omega) (by omega) (hz.later F1.out.bel) (hy.later F1.out.bel)).mono ?_
  rintro e W1 ⟨rfl, hb0⟩
  rw [← HC.out]
  have F : Hid (AddF w g g' (.slice a zs.length c) (.slice a' ys.length c') (.slice none 0 0) W1) := F1.out.later hb0
  clear hb0 s0 s1 s2 s3 F1
  go_wp2
  go_region_held3 (fun w' => w'.cell? ⟨w.heap.size, 0, none⟩ = some (.bool g) ∧ w'.cell? ⟨w.heap.size, 1, none⟩ = some (.slice a zs.length c) ∧ w'.cell? ⟨w.heap.size + 1, 0, none⟩ = some (.bool g') ∧ w'.cell? ⟨w.heap.size + 1, 1, none⟩ = some (.slice a' ys.length c') ∧ Below (w.heap.size + 1 + 1) W1 w')
    (first | exact addS_of F.out.s (Below.refl _ _).drew | exact addS_of F.out.s (by assumption) | exact addS_of F.out.s (Below.setCell (Below.setCell (by assumption) (by simp) _) (by simp) _))
    (first
      | (go_at_call 118; refine (minus_any a' a c' c ys zs _ hn' (hy.later F.out.bel.drew) (hz.later F.out.bel.drew) hdy hdz hl1 HV.out).mono ?_; rintro e w1 ⟨a2, c2, fs, rfl, hf2, hm2, hcan, hval, hlen, hrn1, hb1⟩; have hB1 : Below W1.heap.size W1 w1 := (Below.refl _ _).drew.trans hb1; have hB1' : Below (w.heap.size + 1 + 1) W1 w1 := hB1.mono (by have := F.out.le; omega))
      | (go_at_call 50; refine (signed_any g' a2 fs.length c2 _).mono ?_; rintro e w2 ⟨rfl, hb2⟩; have hB2 : Below W1.heap.size W1 w2 := hB1.trans (hb2.mono hB1.size); have hB2' : Below (w.heap.size + 1 + 1) W1 w2 := hB2.mono (by have := F.out.le; omega); have hrn2 : RowNew .u32 w2 W1.heap.size a2 fs := RowNew.later hrn1 hb2; have F2 : Hid (AddF w g g' (.slice a zs.length c) (.slice a' ys.length c') (.slice none 0 0) w2) := F.out.later hB2; have r1 := F2.out.r1; have r2 := F2.out.r2; have r3 := F2.out.r3))
  have HR : Hid (RowNew .u32 w2 W1.heap.size a2 fs) := hrn2
  have HB : Hid (B1 (g' && decide (0 < fs.length)) fs (x + y)) := by unfold Hid; rw [← HX.out]; exact B1.of_signed hcan hval
  clear hrn1 hrn2 hB1 hB1' hB2 hB2' hb1 hb2 hcan hval
  generalize (g' && decide (0 < fs.length)) = g2 at *
  go_wp2
  refine bodyPost_ret (v := .agg #[.bool g2, .slice a2 fs.length c2]) (by simp [results, Tryd.results109, go_sem, r1, r2]) rfl ?_
  have hle := F.out.le
  refine ⟨g2, a2, c2, fs, rfl, HB.out, by omega, ?_, ?_⟩
  · exact ((HR.out.setLow (by simp; omega) _).setLow (by simp; omega) _).down (by omega)
  · exact (F2.out.bel.setCell (by simp; omega) _).setCell (by simp; omega) _

theorem sumOf_any (g g' : Bool) (a a' : Option Addr) (c c' : Nat) (zs ys : List Int) (x y : Int) (w : World) (hn : zs.length ≤ 100000) (hn' : ys.length ≤ 100000) (hz : RowAt .u32 w a zs) (hy : RowAt .u32 w a' ys) (h : B1 g zs x) (h' : B1 g' ys y) :
    Calls Tryd.prog 109 #[.agg #[.bool g, .slice a zs.length c], .agg #[.bool g', .slice a' ys.length c']] w fun e w' => BigOut w (x + y) (zs.length + ys.length + 1) e w' := by
  by_cases hg : g = g'
  · exact sum_same g g' a a' c c' zs ys x y w hn hn' hz hy h h' hg
  · have hg' : g' = !g := by cases g <;> cases g' <;> simp_all
    by_cases hc : 0 ≤ cmpL zs ys
    · exact sum_ge g g' a a' c c' zs ys x y w hn hn' hz hy h h' hg' hc
    · exact sum_lt g g' a a' c c' zs ys x y w hn hn' hz hy h h' hg' (by omega)

end Go.Proofs.YtladfpljnaippabDoor

/-
  The program's dyadic numbers: whole at an exponent, negated.
-/
namespace Go.Proofs.YtladfpljnaippabDoor
open Go.RowKit

/-- A Dyadic's box behind w, and behind it the box of a Big, still zero. -/
structure Bx5 (w : World) (u v e : Value) (W : World) : Prop where
  q0 : W.cell? ⟨w.heap.size, 0, none⟩ = some u
  q1 : W.cell? ⟨w.heap.size, 1, none⟩ = some v
  q2 : W.cell? ⟨w.heap.size, 2, none⟩ = some e
  r1 : W.cell? ⟨w.heap.size + 1, 0, none⟩ = some (.bool false)
  r2 : W.cell? ⟨w.heap.size + 1, 1, none⟩ = some (.slice none 0 0)
  r4 : ∀ j, W.frozen? ⟨w.heap.size + 1, j, none⟩ = false
  le : w.heap.size + 1 + 1 ≤ W.heap.size
  bel : Below w.heap.size w W

theorem Bx5.start (w : World) (u v e : Value) (t t' : TypeId) : Bx5 w u v e ((w.alloc (.cells #[u, v, e] t)).alloc (.cells #[.bool false, .slice none 0 0] t')) := by
  refine ⟨?_, ?_, ?_, ?_, ?_, ?_, ?_, bel2 _ _ _⟩
  all_goals simp [go_sem]

theorem Bx5.later {w : World} {u v e : Value} {W W' : World} (h : Bx5 w u v e W) (hb : Below W.heap.size W W') : Bx5 w u v e W' := by
  have hl := h.le
  exact ⟨(hb.cell (by simp; omega)).trans h.q0, (hb.cell (by simp; omega)).trans h.q1, (hb.cell (by simp; omega)).trans h.q2, (hb.cell (by simp; omega)).trans h.r1, (hb.cell (by simp; omega)).trans h.r2, fun j => (hb.frozen (by simp; omega)).trans (h.r4 j), Nat.le_trans h.le hb.size, h.bel.trans (hb.mono (by omega))⟩

theorem Bx5.held {w : World} {u v e : Value} {W W' : World} (h : Bx5 w u v e W) (hb : Below (w.heap.size + 1) W W') : W'.cell? ⟨w.heap.size, 0, none⟩ = some u ∧ W'.cell? ⟨w.heap.size, 1, none⟩ = some v ∧ W'.cell? ⟨w.heap.size, 2, none⟩ = some e ∧ Below (w.heap.size + 1) W W' :=
  ⟨(hb.cell (by simp)).trans h.q0, (hb.cell (by simp)).trans h.q1, (hb.cell (by simp)).trans h.q2, hb⟩

set_option maxRecDepth 100000 in
set_option maxHeartbeats 4000000 in
theorem whole_any (g : Bool) (a : Option Addr) (c : Nat) (zs : List Int) (x E' n : Int) (w : World) (hn : zs.length ≤ 60000) (n0 : 0 ≤ n) (n1 : n ≤ 120000) (hz : RowAt .u32 w a zs) (h : B1 g zs x) :
    Calls Tryd.prog 108 #[.agg #[.bool g, .slice a zs.length c, .int .i64 (E' + n)], .int .i64 E'] w fun e w' => BigOut w (x * 2 ^ n.toNat) (zs.length + 3751) e w' := by
  have B0 : Hid (∀ t t', Bx5 w (.bool g) (.slice a zs.length c) (.int .i64 (E' + n)) ((w.alloc (.cells #[.bool g, .slice a zs.length c, .int .i64 (E' + n)] t)).alloc (.cells #[.bool false, .slice none 0 0] t'))) := fun t t' => Bx5.start w _ _ _ _ _
  have HX : Hid (sg g (val 4294967296 zs * 2 ^ n.toNat) = x * 2 ^ n.toNat) := by
    unfold Hid
    rw [h.num]
    cases g
    · rfl
    · simp only [sg, if_true]; rw [Int.neg_mul]
  have hsub : E' + n - E' = n := by omega
  have HW : Hid (IntKind.i64.wrap n = n) := wrap64_id (by omega) (by omega)
  go_enter Tryd.func108, Tryd.ntmps108
  go_wp2
  obtain ⟨W0, hW0⟩ : ∃ W0, W0 = ((w.alloc (.cells #[.bool g, .slice a zs.length c, .int .i64 (E' + n)] 29)).alloc (.cells #[.bool false, .slice none 0 0] 27)) := ⟨_, rfl⟩
  have F : Hid (Bx5 w (.bool g) (.slice a zs.length c) (.int .i64 (E' + n)) W0) := by unfold Hid; rw [hW0]; exact B0.out _ _
  rw [← hW0]
  clear hW0 B0
  have zz : w.heap.size + 1 < W0.heap.size := F.out.le
  go_region_held3 (fun w' => w'.cell? ⟨w.heap.size, 0, none⟩ = some (.bool g) ∧ w'.cell? ⟨w.heap.size, 1, none⟩ = some (.slice a zs.length c) ∧ w'.cell? ⟨w.heap.size, 2, none⟩ = some (.int .i64 (E' + n)) ∧ Below (w.heap.size + 1) W0 w')
    (first | exact F.out.held (Below.refl _ _).drew | exact F.out.held (by assumption) | exact F.out.held (Below.setCell (Below.setCell (by assumption) (by simp) _) (by simp) _))
    (first
      | (go_at_call 93; rw [HW.out]; refine (upI_any a c zs n _ (by omega) n0 (by omega) (hz.later F.out.bel.drew) h.can.1).mono ?_; rintro e w1 ⟨a1, c1, fs, rfl, hf1, hm1, hcan1, hv1, hl1, hr1, hb1⟩; have hB1 : Below W0.heap.size W0 w1 := (Below.refl _ _).drew.trans hb1; have hB1' : Below (w.heap.size + 1) W0 w1 := hB1.mono (by omega))
      | (go_at_call 50; refine (signed_any g a1 fs.length c1 _).mono ?_; rintro e w2 ⟨rfl, hb2⟩; have hB2 : Below W0.heap.size W0 w2 := hB1.trans (hb2.mono hB1.size); have hB2' : Below (w.heap.size + 1) W0 w2 := hB2.mono (by omega); have hr2 := hr1.later hb2; have F2 : Hid (Bx5 w (.bool g) (.slice a zs.length c) (.int .i64 (E' + n)) w2) := F.out.later hB2; have r1 := F2.out.r1; have r2 := F2.out.r2; have r4 := F2.out.r4))
  have HB1 : Hid (B1 (g && decide (0 < fs.length)) fs (x * 2 ^ n.toNat)) := by unfold Hid; rw [← HX.out]; exact B1.of_signed hcan1 hv1
  have HR : Hid (RowNew .u32 w2 (w.heap.size + 1 + 1) a1 fs) := by unfold Hid; exact hr2.down (by simp; omega)
  have hl2 : fs.length ≤ zs.length + 3751 ∧ fs.length ≤ c1 ∧ c1 ≤ maxLen := by omega
  clear hB1 hB1' hB2 hB2' hb1 hb2 hr1 hr2 hcan1 hv1
  generalize (g && decide (0 < fs.length)) = G at *
  go_wp2
  refine bodyPost_ret (v := .agg #[.bool G, .slice a1 fs.length c1]) (by simp [results, Tryd.results108, go_sem, r1, r2]) rfl ?_
  refine ⟨G, a1, c1, fs, rfl, HB1.out, hl2, ?_, ?_⟩
  · exact ((HR.out.setLow (by simp) _).setLow (by simp) _).down (by omega)
  · exact (F2.out.bel.setCell (by simp) _).setCell (by simp) _

theorem B1.neg {g : Bool} {zs : List Int} {x : Int} (h : B1 g zs x) : B1 (!g && decide (0 < zs.length)) zs (-x) := by
  have h1 := B1.of_signed (g := !g) h.can rfl
  rw [sg_not, ← h.num] at h1
  exact h1

end Go.Proofs.YtladfpljnaippabDoor

/-
  The program's sums of two dyadic numbers.
-/
namespace Go.Proofs.YtladfpljnaippabDoor
open Go.RowKit

theorem whole_at (g : Bool) (a : Option Addr) (c : Nat) (zs : List Int) (x E e : Int) (w : World) (hn : zs.length ≤ 60000) (n0 : e ≤ E) (n1 : E - e ≤ 120000) (hz : RowAt .u32 w a zs) (h : B1 g zs x) :
    Calls Tryd.prog 108 #[.agg #[.bool g, .slice a zs.length c, .int .i64 E], .int .i64 e] w fun e' w' => BigOut w (x * 2 ^ (E - e).toNat) (zs.length + 3751) e' w' := by
  have := whole_any g a c zs x e (E - e) w hn (by omega) n1 hz h
  rw [show e + (E - e) = E by omega] at this
  exact this

/-- m * 2^e is x * 2^E + y * 2^E'. -/
def SumOf (x E y E' m e : Int) : Prop := (e = E ∨ e = E') ∧ ∀ K, 0 ≤ E + K → 0 ≤ E' + K → atK K m e = atK K x E + atK K y E'

/-- What plus hands back: one of the two, or new memory. -/
def PlusOut (w : World) (a a' : Option Addr) (zs ys : List Int) (x E y E' : Int) (n : Nat) (e : Ending) (w' : World) : Prop :=
  ∃ (G : Bool) (b : Option Addr) (c : Nat) (fs : List Int) (m e' : Int), e = .returned (.agg #[.bool G, .slice b fs.length c, .int .i64 e']) ∧ B1 G fs m ∧ SumOf x E y E' m e' ∧ (fs.length ≤ n ∧ fs.length ≤ c ∧ c ≤ maxLen) ∧ RowAt .u32 w' b fs ∧ (Far w.heap.size b fs ∨ (b = a ∧ fs = zs) ∨ (b = a' ∧ fs = ys)) ∧ Below w.heap.size w w'

theorem SumOf.left {x E y E' : Int} (h : x = 0) : SumOf x E y E' y E' := ⟨.inr rfl, fun K _ _ => by rw [h]; simp [atK]⟩
theorem SumOf.right {x E y E' : Int} (h : y = 0) : SumOf x E y E' x E := ⟨.inl rfl, fun K _ _ => by rw [h]; simp [atK]⟩
theorem SumOf.both (x E y E' : Int) : SumOf x E y E' (sumAt x E y E') (min E E') := by
  refine ⟨by omega, fun K h h' => ?_⟩
  rw [← sumAt_at h h']
  rfl

set_option maxRecDepth 100000 in
set_option maxHeartbeats 4000000 in
theorem plusD_zero (g g' : Bool) (a a' : Option Addr) (c c' : Nat) (zs ys : List Int) (x y E E' : Int) (w : World) (hz : RowAt .u32 w a zs) (hy : RowAt .u32 w a' ys) (h : B1 g zs x) (h' : B1 g' ys y) (h0 : zs.length = 0 ∨ ys.length = 0) (k1 : zs.length ≤ c ∧ c ≤ maxLen) (k2 : ys.length ≤ c' ∧ c' ≤ maxLen) :
    Calls Tryd.prog 82 #[.agg #[.bool g, .slice a zs.length c, .int .i64 E], .agg #[.bool g', .slice a' ys.length c', .int .i64 E']] w fun e w' => PlusOut w a a' zs ys x E y E' (zs.length + ys.length) e w' := by
  by_cases hz0 : zs.length = 0
  · have hx : x = 0 := by rw [h.num, List.length_eq_zero_iff.1 hz0]; simp [sg, val]
    have hzz : ((zs.length : Int) == 0) = true := by rw [beq_iff_eq]; omega
    have HO : Hid (∀ W, Below w.heap.size w W → PlusOut w a a' zs ys x E y E' (zs.length + ys.length) (.returned (.agg #[.bool g', .slice a' ys.length c', .int .i64 E'])) W) :=
      fun W hW => ⟨g', a', c', ys, y, E', rfl, h', SumOf.left hx, by omega, hy.later hW, .inr (.inr ⟨rfl, rfl⟩), hW⟩
    clear hz0 h0 k1 k2
    go_enter Tryd.func82, Tryd.ntmps82
    go_wp2
    refine bodyPost_ret (v := .agg #[.bool g', .slice a' ys.length c', .int .i64 E']) (by simp [results, Tryd.results82, go_sem]) rfl ?_
    exact HO.out _ (bel3 _ _ _ _)
  · have hy0 : ys.length = 0 := by omega
    have hx : y = 0 := by rw [h'.num, List.length_eq_zero_iff.1 hy0]; simp [sg, val]
    have hzz : ((zs.length : Int) == 0) = false := by rw [beq_eq_false_iff_ne]; omega
    have hyy : ((ys.length : Int) == 0) = true := by rw [beq_iff_eq]; omega
    have HO : Hid (∀ W, Below w.heap.size w W → PlusOut w a a' zs ys x E y E' (zs.length + ys.length) (.returned (.agg #[.bool g, .slice a zs.length c, .int .i64 E])) W) :=
      fun W hW => ⟨g, a, c, zs, x, E, rfl, h, SumOf.right hx, by omega, hz.later hW, .inr (.inl ⟨rfl, rfl⟩), hW⟩
    clear hz0 h0 hy0 k1 k2
    go_enter Tryd.func82, Tryd.ntmps82
    go_wp2
    refine bodyPost_ret (v := .agg #[.bool g, .slice a zs.length c, .int .i64 E]) (by simp [results, Tryd.results82, go_sem]) rfl ?_
    exact HO.out _ (bel3 _ _ _ _)

set_option maxRecDepth 100000 in
set_option maxHeartbeats 8000000 in
theorem plusD_ok (g g' : Bool) (a a' : Option Addr) (c c' : Nat) (zs ys : List Int) (x y E E' : Int) (w : World) (hn : zs.length ≤ 60000) (hn' : ys.length ≤ 60000) (he : E - E' ≤ 120000) (he' : E' - E ≤ 120000) (hz : RowAt .u32 w a zs) (hy : RowAt .u32 w a' ys) (h : B1 g zs x) (h' : B1 g' ys y) (hz0 : zs.length ≠ 0) (hy0 : ys.length ≠ 0) :
    Calls Tryd.prog 82 #[.agg #[.bool g, .slice a zs.length c, .int .i64 E], .agg #[.bool g', .slice a' ys.length c', .int .i64 E']] w fun e w' => PlusOut w a a' zs ys x E y E' (zs.length + ys.length + 7503) e w' := by
  have hzz : ((zs.length : Int) == 0) = false := by rw [beq_eq_false_iff_ne]; omega
  have hyy : ((ys.length : Int) == 0) = false := by rw [beq_eq_false_iff_ne]; omega
  have B0 : Hid (∀ t t' t2, Bx7 w (.bool g) (.slice a zs.length c) (.int .i64 E) (.bool g') (.slice a' ys.length c') (.int .i64 E') (((w.alloc (.cells #[.bool g, .slice a zs.length c, .int .i64 E] t)).alloc (.cells #[.bool g', .slice a' ys.length c', .int .i64 E'] t')).alloc (.cells #[.bool false, .slice none 0 0, .int .i64 0] t2))) := fun t t' t2 => Bx7.start w _ _ _ _ _ _ _ _ _
  rcases Int.lt_trichotomy E E' with hlt | hlt | hlt
  · have hlt2 : ¬ E' < E := by omega
    have hlt3 : ¬ E' ≤ E := by omega
    go_enter Tryd.func82, Tryd.ntmps82
    go_wp2
    obtain ⟨W0, hW0⟩ : ∃ W0, W0 = (((w.alloc (.cells #[.bool g, .slice a zs.length c, .int .i64 E] 29)).alloc (.cells #[.bool g', .slice a' ys.length c', .int .i64 E'] 29)).alloc (.cells #[.bool false, .slice none 0 0, .int .i64 0] 29)) := ⟨_, rfl⟩
    have F : Hid (Bx7 w (.bool g) (.slice a zs.length c) (.int .i64 E) (.bool g') (.slice a' ys.length c') (.int .i64 E') W0) := by unfold Hid; rw [hW0]; exact B0.out _ _ _
    rw [← hW0]
    clear hW0 B0
    have zz : w.heap.size + 1 + 1 < W0.heap.size := F.out.le
    go_region_held3 (fun w' => w'.cell? ⟨w.heap.size, 0, none⟩ = some (.bool g) ∧ w'.cell? ⟨w.heap.size, 1, none⟩ = some (.slice a zs.length c) ∧ w'.cell? ⟨w.heap.size, 2, none⟩ = some (.int .i64 E) ∧ w'.cell? ⟨w.heap.size + 1, 0, none⟩ = some (.bool g') ∧ w'.cell? ⟨w.heap.size + 1, 1, none⟩ = some (.slice a' ys.length c') ∧ w'.cell? ⟨w.heap.size + 1, 2, none⟩ = some (.int .i64 E') ∧ Below (w.heap.size + 1 + 1) W0 w')
      (first | exact F.out.held (Below.refl _ _).drew | exact F.out.held (by assumption) | exact F.out.held (Below.setCell (Below.setCell (Below.setCell (by assumption) (by simp) _) (by simp) _) (by simp) _))
      (first
        | (go_at_call_of 108 a; refine (whole_at g a c zs x E E _ (by omega) (by omega) (by omega) (hz.later F.out.bel.drew) h).mono ?_; rintro e w1 ⟨g1, a1, c1, f1, rfl, hB1, hl1, hr1, hb1⟩; have hW1 : Below W0.heap.size W0 w1 := (Below.refl _ _).drew.trans hb1; have hW1' : Below (w.heap.size + 1 + 1) W0 w1 := hW1.mono (by omega))
        | (go_at_call_of 108 a'; refine (whole_at g' a' c' ys y E' E _ (by omega) (by omega) (by omega) (hy.later (F.out.bel.trans (hW1.mono (by omega)))) h').mono ?_; rintro e w2 ⟨g2, a2, c2, f2, rfl, hB2, hl2, hr2, hb2⟩; have hW2 : Below W0.heap.size W0 w2 := hW1.trans (hb2.mono hW1.size); have hW2' : Below (w.heap.size + 1 + 1) W0 w2 := hW2.mono (by omega))
        | (go_at_call 109; refine (sumOf_any g1 g2 a1 a2 c1 c2 f1 f2 _ _ _ (by omega) (by omega) (hr1.row.later hb2) hr2.row hB1 hB2).mono ?_; rintro e w3 ⟨g3, a3, c3, f3, rfl, hB3, hl3, hr3, hb3⟩; have hW3 : Below W0.heap.size W0 w3 := hW2.trans (hb3.mono hW2.size); have hW3' : Below (w.heap.size + 1 + 1) W0 w3 := hW3.mono (by omega); have F3 : Hid (Bx7 w (.bool g) (.slice a zs.length c) (.int .i64 E) (.bool g') (.slice a' ys.length c') (.int .i64 E') w3) := F.out.later hW3; have r1 := F3.out.r1; have r2 := F3.out.r2; have r3 := F3.out.r3; have r4 := F3.out.r4))
    have HB3 : Hid (B1 g3 f3 (sumAt x E y E')) := by
      unfold Hid sumAt
      rw [show min E E' = E by omega]
      exact hB3
    have HR3 : Hid (RowNew .u32 w3 (w.heap.size + 1 + 1 + 1) a3 f3) := hr3.down (by have := hW2.size; have := F.out.le; omega)
    have hl4 : f3.length ≤ zs.length + ys.length + 7503 ∧ f3.length ≤ c3 ∧ c3 ≤ maxLen := by omega
    clear hW1 hW1' hW2 hW2' hW3 hW3' hb1 hb2 hb3 hr1 hr2 hr3 hB1 hB2 hB3
    go_wp2
    refine bodyPost_ret (v := .agg #[.bool g3, .slice a3 f3.length c3, .int .i64 E]) (by simp [results, Tryd.results82, go_sem, r1, r2, r3]) rfl ?_
    have HS := SumOf.both x E y E'
    rw [show min E E' = E by omega] at HS
    have HR4 := ((HR3.out.setLow (p := ⟨w.heap.size + 1 + 1, 0, none⟩) (by simp) (.bool g3)).setLow (p := ⟨w.heap.size + 1 + 1, 1, none⟩) (by simp) (.slice a3 f3.length c3)).setLow (p := ⟨w.heap.size + 1 + 1, 2, none⟩) (by simp) (.int .i64 E)
    refine ⟨g3, a3, c3, f3, _, E, rfl, HB3.out, HS, hl4, HR4.row, .inl (HR4.far (Nat.le_refl _) (by omega)), ?_⟩
    exact ((F3.out.bel.setCell (by simp; omega) _).setCell (by simp; omega) _).setCell (by simp; omega) _
  · subst hlt
    go_enter Tryd.func82, Tryd.ntmps82
    go_wp2
    obtain ⟨W0, hW0⟩ : ∃ W0, W0 = (((w.alloc (.cells #[.bool g, .slice a zs.length c, .int .i64 E] 29)).alloc (.cells #[.bool g', .slice a' ys.length c', .int .i64 E] 29)).alloc (.cells #[.bool false, .slice none 0 0, .int .i64 0] 29)) := ⟨_, rfl⟩
    have F : Hid (Bx7 w (.bool g) (.slice a zs.length c) (.int .i64 E) (.bool g') (.slice a' ys.length c') (.int .i64 E) W0) := by unfold Hid; rw [hW0]; exact B0.out _ _ _
    rw [← hW0]
    clear hW0 B0
    have zz : w.heap.size + 1 + 1 < W0.heap.size := F.out.le
    go_region_held3 (fun w' => w'.cell? ⟨w.heap.size, 0, none⟩ = some (.bool g) ∧ w'.cell? ⟨w.heap.size, 1, none⟩ = some (.slice a zs.length c) ∧ w'.cell? ⟨w.heap.size, 2, none⟩ = some (.int .i64 E) ∧ w'.cell? ⟨w.heap.size + 1, 0, none⟩ = some (.bool g') ∧ w'.cell? ⟨w.heap.size + 1, 1, none⟩ = some (.slice a' ys.length c') ∧ w'.cell? ⟨w.heap.size + 1, 2, none⟩ = some (.int .i64 E) ∧ Below (w.heap.size + 1 + 1) W0 w')
      (first | exact F.out.held (Below.refl _ _).drew | exact F.out.held (by assumption) | exact F.out.held (Below.setCell (Below.setCell (Below.setCell (by assumption) (by simp) _) (by simp) _) (by simp) _))
      (first
        | (go_at_call_of 108 a; refine (whole_at g a c zs x E E _ (by omega) (by omega) (by omega) (hz.later F.out.bel.drew) h).mono ?_; rintro e w1 ⟨g1, a1, c1, f1, rfl, hB1, hl1, hr1, hb1⟩; have hW1 : Below W0.heap.size W0 w1 := (Below.refl _ _).drew.trans hb1; have hW1' : Below (w.heap.size + 1 + 1) W0 w1 := hW1.mono (by omega))
        | (go_at_call_of 108 a'; refine (whole_at g' a' c' ys y E E _ (by omega) (by omega) (by omega) (hy.later (F.out.bel.trans (hW1.mono (by omega)))) h').mono ?_; rintro e w2 ⟨g2, a2, c2, f2, rfl, hB2, hl2, hr2, hb2⟩; have hW2 : Below W0.heap.size W0 w2 := hW1.trans (hb2.mono hW1.size); have hW2' : Below (w.heap.size + 1 + 1) W0 w2 := hW2.mono (by omega))
        | (go_at_call 109; refine (sumOf_any g1 g2 a1 a2 c1 c2 f1 f2 _ _ _ (by omega) (by omega) (hr1.row.later hb2) hr2.row hB1 hB2).mono ?_; rintro e w3 ⟨g3, a3, c3, f3, rfl, hB3, hl3, hr3, hb3⟩; have hW3 : Below W0.heap.size W0 w3 := hW2.trans (hb3.mono hW2.size); have hW3' : Below (w.heap.size + 1 + 1) W0 w3 := hW3.mono (by omega); have F3 : Hid (Bx7 w (.bool g) (.slice a zs.length c) (.int .i64 E) (.bool g') (.slice a' ys.length c') (.int .i64 E) w3) := F.out.later hW3; have r1 := F3.out.r1; have r2 := F3.out.r2; have r3 := F3.out.r3; have r4 := F3.out.r4))
    have HB3 : Hid (B1 g3 f3 (sumAt x E y E)) := by
      unfold Hid sumAt
      rw [show min E E = E by omega]
      exact hB3
    have HR3 : Hid (RowNew .u32 w3 (w.heap.size + 1 + 1 + 1) a3 f3) := hr3.down (by have := hW2.size; have := F.out.le; omega)
    have hl4 : f3.length ≤ zs.length + ys.length + 7503 ∧ f3.length ≤ c3 ∧ c3 ≤ maxLen := by omega
    clear hW1 hW1' hW2 hW2' hW3 hW3' hb1 hb2 hb3 hr1 hr2 hr3 hB1 hB2 hB3
    go_wp2
    refine bodyPost_ret (v := .agg #[.bool g3, .slice a3 f3.length c3, .int .i64 E]) (by simp [results, Tryd.results82, go_sem, r1, r2, r3]) rfl ?_
    have HS := SumOf.both x E y E
    rw [show min E E = E by omega] at HS
    have HR4 := ((HR3.out.setLow (p := ⟨w.heap.size + 1 + 1, 0, none⟩) (by simp) (.bool g3)).setLow (p := ⟨w.heap.size + 1 + 1, 1, none⟩) (by simp) (.slice a3 f3.length c3)).setLow (p := ⟨w.heap.size + 1 + 1, 2, none⟩) (by simp) (.int .i64 E)
    refine ⟨g3, a3, c3, f3, _, E, rfl, HB3.out, HS, hl4, HR4.row, .inl (HR4.far (Nat.le_refl _) (by omega)), ?_⟩
    exact ((F3.out.bel.setCell (by simp; omega) _).setCell (by simp; omega) _).setCell (by simp; omega) _
  · have hlt2 : ¬ E < E' := by omega
    have hlt3 : ¬ E ≤ E' := by omega
    go_enter Tryd.func82, Tryd.ntmps82
    go_wp2
    obtain ⟨W0, hW0⟩ : ∃ W0, W0 = (((w.alloc (.cells #[.bool g, .slice a zs.length c, .int .i64 E] 29)).alloc (.cells #[.bool g', .slice a' ys.length c', .int .i64 E'] 29)).alloc (.cells #[.bool false, .slice none 0 0, .int .i64 0] 29)) := ⟨_, rfl⟩
    have F : Hid (Bx7 w (.bool g) (.slice a zs.length c) (.int .i64 E) (.bool g') (.slice a' ys.length c') (.int .i64 E') W0) := by unfold Hid; rw [hW0]; exact B0.out _ _ _
    rw [← hW0]
    clear hW0 B0
    have zz : w.heap.size + 1 + 1 < W0.heap.size := F.out.le
    go_region_held3 (fun w' => w'.cell? ⟨w.heap.size, 0, none⟩ = some (.bool g) ∧ w'.cell? ⟨w.heap.size, 1, none⟩ = some (.slice a zs.length c) ∧ w'.cell? ⟨w.heap.size, 2, none⟩ = some (.int .i64 E) ∧ w'.cell? ⟨w.heap.size + 1, 0, none⟩ = some (.bool g') ∧ w'.cell? ⟨w.heap.size + 1, 1, none⟩ = some (.slice a' ys.length c') ∧ w'.cell? ⟨w.heap.size + 1, 2, none⟩ = some (.int .i64 E') ∧ Below (w.heap.size + 1 + 1) W0 w')
      (first | exact F.out.held (Below.refl _ _).drew | exact F.out.held (by assumption) | exact F.out.held (Below.setCell (Below.setCell (Below.setCell (by assumption) (by simp) _) (by simp) _) (by simp) _))
      (first
        | (go_at_call_of 108 a; refine (whole_at g a c zs x E E' _ (by omega) (by omega) (by omega) (hz.later F.out.bel.drew) h).mono ?_; rintro e w1 ⟨g1, a1, c1, f1, rfl, hB1, hl1, hr1, hb1⟩; have hW1 : Below W0.heap.size W0 w1 := (Below.refl _ _).drew.trans hb1; have hW1' : Below (w.heap.size + 1 + 1) W0 w1 := hW1.mono (by omega))
        | (go_at_call_of 108 a'; refine (whole_at g' a' c' ys y E' E' _ (by omega) (by omega) (by omega) (hy.later (F.out.bel.trans (hW1.mono (by omega)))) h').mono ?_; rintro e w2 ⟨g2, a2, c2, f2, rfl, hB2, hl2, hr2, hb2⟩; have hW2 : Below W0.heap.size W0 w2 := hW1.trans (hb2.mono hW1.size); have hW2' : Below (w.heap.size + 1 + 1) W0 w2 := hW2.mono (by omega))
        | (go_at_call 109; refine (sumOf_any g1 g2 a1 a2 c1 c2 f1 f2 _ _ _ (by omega) (by omega) (hr1.row.later hb2) hr2.row hB1 hB2).mono ?_; rintro e w3 ⟨g3, a3, c3, f3, rfl, hB3, hl3, hr3, hb3⟩; have hW3 : Below W0.heap.size W0 w3 := hW2.trans (hb3.mono hW2.size); have hW3' : Below (w.heap.size + 1 + 1) W0 w3 := hW3.mono (by omega); have F3 : Hid (Bx7 w (.bool g) (.slice a zs.length c) (.int .i64 E) (.bool g') (.slice a' ys.length c') (.int .i64 E') w3) := F.out.later hW3; have r1 := F3.out.r1; have r2 := F3.out.r2; have r3 := F3.out.r3; have r4 := F3.out.r4))
    have HB3 : Hid (B1 g3 f3 (sumAt x E y E')) := by
      unfold Hid sumAt
      rw [show min E E' = E' by omega]
      exact hB3
    have HR3 : Hid (RowNew .u32 w3 (w.heap.size + 1 + 1 + 1) a3 f3) := hr3.down (by have := hW2.size; have := F.out.le; omega)
    have hl4 : f3.length ≤ zs.length + ys.length + 7503 ∧ f3.length ≤ c3 ∧ c3 ≤ maxLen := by omega
    clear hW1 hW1' hW2 hW2' hW3 hW3' hb1 hb2 hb3 hr1 hr2 hr3 hB1 hB2 hB3
    go_wp2
    refine bodyPost_ret (v := .agg #[.bool g3, .slice a3 f3.length c3, .int .i64 E']) (by simp [results, Tryd.results82, go_sem, r1, r2, r3]) rfl ?_
    have HS := SumOf.both x E y E'
    rw [show min E E' = E' by omega] at HS
    have HR4 := ((HR3.out.setLow (p := ⟨w.heap.size + 1 + 1, 0, none⟩) (by simp) (.bool g3)).setLow (p := ⟨w.heap.size + 1 + 1, 1, none⟩) (by simp) (.slice a3 f3.length c3)).setLow (p := ⟨w.heap.size + 1 + 1, 2, none⟩) (by simp) (.int .i64 E')
    refine ⟨g3, a3, c3, f3, _, E', rfl, HB3.out, HS, hl4, HR4.row, .inl (HR4.far (Nat.le_refl _) (by omega)), ?_⟩
    exact ((F3.out.bel.setCell (by simp; omega) _).setCell (by simp; omega) _).setCell (by simp; omega) _

theorem plusD_any (g g' : Bool) (a a' : Option Addr) (c c' : Nat) (zs ys : List Int) (x y E E' : Int) (w : World) (hn : zs.length ≤ 60000) (hn' : ys.length ≤ 60000) (he : E - E' ≤ 120000) (he' : E' - E ≤ 120000) (hz : RowAt .u32 w a zs) (hy : RowAt .u32 w a' ys) (h : B1 g zs x) (h' : B1 g' ys y) (k1 : zs.length ≤ c ∧ c ≤ maxLen) (k2 : ys.length ≤ c' ∧ c' ≤ maxLen) :
    Calls Tryd.prog 82 #[.agg #[.bool g, .slice a zs.length c, .int .i64 E], .agg #[.bool g', .slice a' ys.length c', .int .i64 E']] w fun e w' => PlusOut w a a' zs ys x E y E' (zs.length + ys.length + 7503) e w' := by
  by_cases h0 : zs.length = 0 ∨ ys.length = 0
  · refine (plusD_zero g g' a a' c c' zs ys x y E E' w hz hy h h' h0 k1 k2).mono ?_
    rintro e w' ⟨G, b, c, fs, m, e', h1, h2, h3, h4, h5⟩
    exact ⟨G, b, c, fs, m, e', h1, h2, h3, by omega, h5⟩
  · exact plusD_ok g g' a a' c c' zs ys x y E E' w hn hn' he he' hz hy h h' (by omega) (by omega)

end Go.Proofs.YtladfpljnaippabDoor
