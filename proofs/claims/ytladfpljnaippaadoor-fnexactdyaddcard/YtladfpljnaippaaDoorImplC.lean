/-
  The program's sums of magnitudes.
-/
import Derived.Test.YtladfpljnaippaaDoorImplC0NumXImplS
namespace Go.Proofs.YtladfpljnaippaaDoor
open Go.RowKit

set_option maxHeartbeats 4000000 in
theorem plus_ge (a a' : Option Addr) (p p' : Nat) (zs ys : List Int) (w : World) (hn : zs.length ≤ 100000) (hn' : ys.length ≤ 100000) (hz : RowAt .u32 w a zs) (hy : RowAt .u32 w a' ys) (hdz : Dig 4294967296 zs) (hdy : Dig 4294967296 ys) (hle : ys.length ≤ zs.length) :
    Calls Tryd.prog 82 #[.slice a zs.length p, .slice a' ys.length p'] w fun e w' => MagOut w (val 4294967296 zs + val 4294967296 ys) (zs.length + ys.length + 1) e w' := by
  have hmk := run_make_row' (P := Tryd.prog) 55 22 (.int .u32 0) 4 Tryd.underlying55 Tryd.info22 rfl .i64 .i64 (zs.length + 1) (by omega) (by omega)
  rw [show ((zs.length + 1 : Nat) : Int) = (zs.length : Int) + 1 by omega] at hmk
  go_enter Tryd.func82, Tryd.ntmps82
  go_wp2
  go_loopw [6, 22] (fun cc i wr => ∃ (k : Nat) (c : Int) (out : List Int), k ≤ zs.length ∧ out.length = k ∧ i = .int .i64 k ∧ cc = .int .u64 c ∧ 0 ≤ c ∧ c ≤ 1 ∧ Hid (carryD 4294967296 (sumsL zs ys) 0 = out ++ carryD 4294967296 (sumsL (zs.drop k) (ys.drop k)) c) ∧ Hid (carryO 4294967296 (sumsL zs ys) 0 = carryO 4294967296 (sumsL (zs.drop k) (ys.drop k)) c) ∧
      Own .u32 wr w.heap.size 0 (out ++ List.replicate (zs.length + 1 - k) 0) ∧ Below w.heap.size w wr) (fun _ i _ => zs.length - (intOf i).toNat)
  case atStart => exact ⟨0, 0, [], Nat.zero_le _, rfl, rfl, rfl, by decide, by decide, rfl, rfl, by simpa using Own.made w (zs.length + 1) _, bel0 _ _⟩
  case round =>
    obtain ⟨k, c, out, hk, hol, rfl, rfl, hc0, hc1, hD, hO, hown, hnx⟩ := hrel
    by_cases hlt : k < zs.length
    · have hb1 := hdz.at (by decide) k
      have hb2 := hdy.at (by decide) k
      obtain ⟨b, off, rfl, g1⟩ := row_cell hz hnx hlt
      obtain ⟨x, hx⟩ : ∃ x, x = zs.getD k 0 := ⟨_, rfl⟩
      obtain ⟨y, hyy⟩ : ∃ y, y = ys.getD k 0 := ⟨_, rfl⟩
      rw [← hx] at hb1 g1
      rw [← hyy] at hb2
      obtain ⟨hb10, hb11⟩ := hb1
      obtain ⟨hb20, hb21⟩ := hb2
      have g3 := hown.cell k (by simp; omega)
      have g4 := hown.free k (by simp; omega)
      rw [Nat.zero_add] at g3 g4
      by_cases h2 : k < ys.length
      · obtain ⟨b', off', rfl, g2⟩ := row_cell hy hnx h2
        rw [← hyy] at g2
        have hst := carryDO_sums (B := 4294967296) (xs := zs) (ys := ys) (k := k) (c := c) (s := c + x + y) (.inl hlt) (by rw [← hx, ← hyy]; omega)
        have HD : Hid (carryD 4294967296 (sumsL zs ys) 0 = (out ++ [(c + x + y) % 4294967296]) ++ carryD 4294967296 (sumsL (zs.drop (k + 1)) (ys.drop (k + 1))) ((c + x + y) / 4294967296)) := by unfold Hid; rw [hD.out, hst.1]; simp
        have HO : Hid (carryO 4294967296 (sumsL zs ys) 0 = carryO 4294967296 (sumsL (zs.drop (k + 1)) (ys.drop (k + 1))) ((c + x + y) / 4294967296)) := by unfold Hid; rw [hO.out, hst.2]
        have hs := hown.set k ((c + x + y) % 4294967296) (by simp; omega)
        rw [Nat.zero_add, own_step hol hlt] at hs
        have HS : Hid (Own .u32 (wr.setCell ⟨w.heap.size, k, none⟩ (.int .u32 ((c + x + y) % 4294967296))) w.heap.size 0 ((out ++ [(c + x + y) % 4294967296]) ++ List.replicate (zs.length + 1 - (k + 1)) 0)) := hs
        have HB : Hid (Below w.heap.size w (wr.setCell ⟨w.heap.size, k, none⟩ (.int .u32 ((c + x + y) % 4294967296)))) := hnx.setCell (Nat.le_refl _) _
        clear hst hs hx hyy hD hO hown hnx hz hy hdz hdy
        go_wp2
        go_roundw
        case rel => exact ⟨k + 1, (c + x + y) / 4294967296, out ++ [(c + x + y) % 4294967296], by omega, by simp; omega, by go_num, rfl, by omega, by omega, HD, HO, HS.out, HB.out⟩
        case measure => simp [intOf]; omega
      · have hy0 : y = 0 := by rw [hyy]; exact getD_out h2
        have hst := carryDO_sums (B := 4294967296) (xs := zs) (ys := ys) (k := k) (c := c) (s := c + x) (.inl hlt) (by rw [← hx, ← hyy]; omega)
        have HD : Hid (carryD 4294967296 (sumsL zs ys) 0 = (out ++ [(c + x) % 4294967296]) ++ carryD 4294967296 (sumsL (zs.drop (k + 1)) (ys.drop (k + 1))) ((c + x) / 4294967296)) := by unfold Hid; rw [hD.out, hst.1]; simp
        have HO : Hid (carryO 4294967296 (sumsL zs ys) 0 = carryO 4294967296 (sumsL (zs.drop (k + 1)) (ys.drop (k + 1))) ((c + x) / 4294967296)) := by unfold Hid; rw [hO.out, hst.2]
        have hs := hown.set k ((c + x) % 4294967296) (by simp; omega)
        rw [Nat.zero_add, own_step hol hlt] at hs
        have HS : Hid (Own .u32 (wr.setCell ⟨w.heap.size, k, none⟩ (.int .u32 ((c + x) % 4294967296))) w.heap.size 0 ((out ++ [(c + x) % 4294967296]) ++ List.replicate (zs.length + 1 - (k + 1)) 0)) := hs
        have HB : Hid (Below w.heap.size w (wr.setCell ⟨w.heap.size, k, none⟩ (.int .u32 ((c + x) % 4294967296)))) := hnx.setCell (Nat.le_refl _) _
        clear hst hs hx hyy hD hO hown hnx hz hy hdz hdy hy0
        go_wp2
        go_roundw
        case rel => exact ⟨k + 1, (c + x) / 4294967296, out ++ [(c + x) % 4294967296], by omega, by simp; omega, by go_num, rfl, by omega, by omega, HD, HO, HS.out, HB.out⟩
        case measure => simp [intOf]; omega
    · have hkn : k = zs.length := by omega
      subst hkn
      have g3 := hown.cell zs.length (by simp; omega)
      have g4 := hown.free zs.length (by simp; omega)
      rw [Nat.zero_add] at g3 g4
      have hs := hown.set zs.length c (by simp; omega)
      rw [Nat.zero_add, own_last hol] at hs
      have hDD : carryD 4294967296 (sumsL zs ys) 0 = out := by
        rw [hD.out, List.drop_eq_nil_of_le (Nat.le_refl _), List.drop_eq_nil_of_le (show ys.length ≤ zs.length by omega)]; simp [sumsL, carryD]
      have hOO : carryO 4294967296 (sumsL zs ys) 0 = c := by
        rw [hO.out, List.drop_eq_nil_of_le (Nat.le_refl _), List.drop_eq_nil_of_le (show ys.length ≤ zs.length by omega)]; simp [sumsL, carryO]
      have hV : val 4294967296 (out ++ [c]) = val 4294967296 zs + val 4294967296 ys := by rw [← hDD, ← hOO, val_carryDO, val_sums]; omega
      have hG : Dig 4294967296 (out ++ [c]) := by
        refine Dig.append ?_ (Dig.cons hc0 (by omega) (Dig.nil _))
        rw [← hDD]
        exact dig_carryD (by decide) _ _
      have HV : Hid (val 4294967296 (out ++ [c]) = val 4294967296 zs + val 4294967296 ys) := hV
      have HG : Hid (Dig 4294967296 (out ++ [c])) := hG
      have HL : Hid (out.length = zs.length) := hol
      have HS : Hid (Own .u32 (wr.setCell ⟨w.heap.size, zs.length, none⟩ (.int .u32 c)) w.heap.size 0 (out ++ [c])) := hs
      have HB : Hid (Below w.heap.size w (wr.setCell ⟨w.heap.size, zs.length, none⟩ (.int .u32 c))) := hnx.setCell (Nat.le_refl _) _
      clear hs hV hG hDD hOO hD hO hown hnx hz hy hdz hdy hol
      go_wp2_with fail
      have e1 : zs.length + 1 = (out ++ [c]).length := by simp [HL.out]
      rw [e1]
      refine (trimmed_any _ _ (out ++ [c]) _ w.heap.size (by rw [← e1]; omega) (by rw [← e1]; unfold maxLen; omega) (Nat.le_refl _) (fun h => by cases h) (HS.out.new (Nat.le_refl _))).mono ?_
      rintro e w1 ⟨a2, c2, rfl, hf2, hm2, hr2, hw⟩
      subst hw
      have HM : Hid (MagOut w (val 4294967296 zs + val 4294967296 ys) (zs.length + ys.length + 1) (.returned (.slice a2 (trimL (out ++ [c])).length c2)) (wr.setCell ⟨w.heap.size, zs.length, none⟩ (.int .u32 c))) := by
        refine ⟨a2, c2, trimL (out ++ [c]), rfl, hf2, hm2, canon_trim HG.out, by rw [val_trim, HV.out], ?_, hr2, HB.out⟩
        have := trim_le (out ++ [c])
        rw [← e1] at this
        omega
      clear hf2 hm2 hr2 HG HV HB HS e1
      go_wp2
      go_ret
      exact HM.out

set_option maxHeartbeats 4000000 in
theorem plus_lt (a a' : Option Addr) (p p' : Nat) (zs ys : List Int) (w : World) (hn : zs.length ≤ 100000) (hn' : ys.length ≤ 100000) (hz : RowAt .u32 w a zs) (hy : RowAt .u32 w a' ys) (hdz : Dig 4294967296 zs) (hdy : Dig 4294967296 ys) (hle : ys.length < zs.length) :
    Calls Tryd.prog 82 #[.slice a' ys.length p', .slice a zs.length p] w fun e w' => MagOut w (val 4294967296 zs + val 4294967296 ys) (zs.length + ys.length + 1) e w' := by
  have hmk := run_make_row' (P := Tryd.prog) 55 22 (.int .u32 0) 4 Tryd.underlying55 Tryd.info22 rfl .i64 .i64 (zs.length + 1) (by omega) (by omega)
  rw [show ((zs.length + 1 : Nat) : Int) = (zs.length : Int) + 1 by omega] at hmk
  go_enter Tryd.func82, Tryd.ntmps82
  go_wp2
  go_loopw [6, 22] (fun cc i wr => ∃ (k : Nat) (c : Int) (out : List Int), k ≤ zs.length ∧ out.length = k ∧ i = .int .i64 k ∧ cc = .int .u64 c ∧ 0 ≤ c ∧ c ≤ 1 ∧ Hid (carryD 4294967296 (sumsL zs ys) 0 = out ++ carryD 4294967296 (sumsL (zs.drop k) (ys.drop k)) c) ∧ Hid (carryO 4294967296 (sumsL zs ys) 0 = carryO 4294967296 (sumsL (zs.drop k) (ys.drop k)) c) ∧
      Own .u32 wr w.heap.size 0 (out ++ List.replicate (zs.length + 1 - k) 0) ∧ Below w.heap.size w wr) (fun _ i _ => zs.length - (intOf i).toNat)
  case atStart => exact ⟨0, 0, [], Nat.zero_le _, rfl, rfl, rfl, by decide, by decide, rfl, rfl, by simpa using Own.made w (zs.length + 1) _, bel0 _ _⟩
  case round =>
    obtain ⟨k, c, out, hk, hol, rfl, rfl, hc0, hc1, hD, hO, hown, hnx⟩ := hrel
    by_cases hlt : k < zs.length
    · have hb1 := hdz.at (by decide) k
      have hb2 := hdy.at (by decide) k
      obtain ⟨b, off, rfl, g1⟩ := row_cell hz hnx hlt
      obtain ⟨x, hx⟩ : ∃ x, x = zs.getD k 0 := ⟨_, rfl⟩
      obtain ⟨y, hyy⟩ : ∃ y, y = ys.getD k 0 := ⟨_, rfl⟩
      rw [← hx] at hb1 g1
      rw [← hyy] at hb2
      obtain ⟨hb10, hb11⟩ := hb1
      obtain ⟨hb20, hb21⟩ := hb2
      have g3 := hown.cell k (by simp; omega)
      have g4 := hown.free k (by simp; omega)
      rw [Nat.zero_add] at g3 g4
      by_cases h2 : k < ys.length
      · obtain ⟨b', off', rfl, g2⟩ := row_cell hy hnx h2
        rw [← hyy] at g2
        have hst := carryDO_sums (B := 4294967296) (xs := zs) (ys := ys) (k := k) (c := c) (s := c + x + y) (.inl hlt) (by rw [← hx, ← hyy]; omega)
        have HD : Hid (carryD 4294967296 (sumsL zs ys) 0 = (out ++ [(c + x + y) % 4294967296]) ++ carryD 4294967296 (sumsL (zs.drop (k + 1)) (ys.drop (k + 1))) ((c + x + y) / 4294967296)) := by unfold Hid; rw [hD.out, hst.1]; simp
        have HO : Hid (carryO 4294967296 (sumsL zs ys) 0 = carryO 4294967296 (sumsL (zs.drop (k + 1)) (ys.drop (k + 1))) ((c + x + y) / 4294967296)) := by unfold Hid; rw [hO.out, hst.2]
        have hs := hown.set k ((c + x + y) % 4294967296) (by simp; omega)
        rw [Nat.zero_add, own_step hol hlt] at hs
        have HS : Hid (Own .u32 (wr.setCell ⟨w.heap.size, k, none⟩ (.int .u32 ((c + x + y) % 4294967296))) w.heap.size 0 ((out ++ [(c + x + y) % 4294967296]) ++ List.replicate (zs.length + 1 - (k + 1)) 0)) := hs
        have HB : Hid (Below w.heap.size w (wr.setCell ⟨w.heap.size, k, none⟩ (.int .u32 ((c + x + y) % 4294967296)))) := hnx.setCell (Nat.le_refl _) _
        clear hst hs hx hyy hD hO hown hnx hz hy hdz hdy
        go_wp2
        go_roundw
        case rel => exact ⟨k + 1, (c + x + y) / 4294967296, out ++ [(c + x + y) % 4294967296], by omega, by simp; omega, by go_num, rfl, by omega, by omega, HD, HO, HS.out, HB.out⟩
        case measure => simp [intOf]; omega
      · have hy0 : y = 0 := by rw [hyy]; exact getD_out h2
        have hst := carryDO_sums (B := 4294967296) (xs := zs) (ys := ys) (k := k) (c := c) (s := c + x) (.inl hlt) (by rw [← hx, ← hyy]; omega)
        have HD : Hid (carryD 4294967296 (sumsL zs ys) 0 = (out ++ [(c + x) % 4294967296]) ++ carryD 4294967296 (sumsL (zs.drop (k + 1)) (ys.drop (k + 1))) ((c + x) / 4294967296)) := by unfold Hid; rw [hD.out, hst.1]; simp
        have HO : Hid (carryO 4294967296 (sumsL zs ys) 0 = carryO 4294967296 (sumsL (zs.drop (k + 1)) (ys.drop (k + 1))) ((c + x) / 4294967296)) := by unfold Hid; rw [hO.out, hst.2]
        have hs := hown.set k ((c + x) % 4294967296) (by simp; omega)
        rw [Nat.zero_add, own_step hol hlt] at hs
        have HS : Hid (Own .u32 (wr.setCell ⟨w.heap.size, k, none⟩ (.int .u32 ((c + x) % 4294967296))) w.heap.size 0 ((out ++ [(c + x) % 4294967296]) ++ List.replicate (zs.length + 1 - (k + 1)) 0)) := hs
        have HB : Hid (Below w.heap.size w (wr.setCell ⟨w.heap.size, k, none⟩ (.int .u32 ((c + x) % 4294967296)))) := hnx.setCell (Nat.le_refl _) _
        clear hst hs hx hyy hD hO hown hnx hz hy hdz hdy hy0
        go_wp2
        go_roundw
        case rel => exact ⟨k + 1, (c + x) / 4294967296, out ++ [(c + x) % 4294967296], by omega, by simp; omega, by go_num, rfl, by omega, by omega, HD, HO, HS.out, HB.out⟩
        case measure => simp [intOf]; omega
    · have hkn : k = zs.length := by omega
      subst hkn
      have g3 := hown.cell zs.length (by simp; omega)
      have g4 := hown.free zs.length (by simp; omega)
      rw [Nat.zero_add] at g3 g4
      have hs := hown.set zs.length c (by simp; omega)
      rw [Nat.zero_add, own_last hol] at hs
      have hDD : carryD 4294967296 (sumsL zs ys) 0 = out := by
        rw [hD.out, List.drop_eq_nil_of_le (Nat.le_refl _), List.drop_eq_nil_of_le (show ys.length ≤ zs.length by omega)]; simp [sumsL, carryD]
      have hOO : carryO 4294967296 (sumsL zs ys) 0 = c := by
        rw [hO.out, List.drop_eq_nil_of_le (Nat.le_refl _), List.drop_eq_nil_of_le (show ys.length ≤ zs.length by omega)]; simp [sumsL, carryO]
      have hV : val 4294967296 (out ++ [c]) = val 4294967296 zs + val 4294967296 ys := by rw [← hDD, ← hOO, val_carryDO, val_sums]; omega
      have hG : Dig 4294967296 (out ++ [c]) := by
        refine Dig.append ?_ (Dig.cons hc0 (by omega) (Dig.nil _))
        rw [← hDD]
        exact dig_carryD (by decide) _ _
      have HV : Hid (val 4294967296 (out ++ [c]) = val 4294967296 zs + val 4294967296 ys) := hV
      have HG : Hid (Dig 4294967296 (out ++ [c])) := hG
      have HL : Hid (out.length = zs.length) := hol
      have HS : Hid (Own .u32 (wr.setCell ⟨w.heap.size, zs.length, none⟩ (.int .u32 c)) w.heap.size 0 (out ++ [c])) := hs
      have HB : Hid (Below w.heap.size w (wr.setCell ⟨w.heap.size, zs.length, none⟩ (.int .u32 c))) := hnx.setCell (Nat.le_refl _) _
      clear hs hV hG hDD hOO hD hO hown hnx hz hy hdz hdy hol
      go_wp2_with fail
      have e1 : zs.length + 1 = (out ++ [c]).length := by simp [HL.out]
      rw [e1]
      refine (trimmed_any _ _ (out ++ [c]) _ w.heap.size (by rw [← e1]; omega) (by rw [← e1]; unfold maxLen; omega) (Nat.le_refl _) (fun h => by cases h) (HS.out.new (Nat.le_refl _))).mono ?_
      rintro e w1 ⟨a2, c2, rfl, hf2, hm2, hr2, hw⟩
      subst hw
      have HM : Hid (MagOut w (val 4294967296 zs + val 4294967296 ys) (zs.length + ys.length + 1) (.returned (.slice a2 (trimL (out ++ [c])).length c2)) (wr.setCell ⟨w.heap.size, zs.length, none⟩ (.int .u32 c))) := by
        refine ⟨a2, c2, trimL (out ++ [c]), rfl, hf2, hm2, canon_trim HG.out, by rw [val_trim, HV.out], ?_, hr2, HB.out⟩
        have := trim_le (out ++ [c])
        rw [← e1] at this
        omega
      clear hf2 hm2 hr2 HG HV HB HS e1
      go_wp2
      go_ret
      exact HM.out

theorem plus_any (a a' : Option Addr) (p p' : Nat) (zs ys : List Int) (w : World) (hn : zs.length ≤ 100000) (hn' : ys.length ≤ 100000) (hz : RowAt .u32 w a zs) (hy : RowAt .u32 w a' ys) (hdz : Dig 4294967296 zs) (hdy : Dig 4294967296 ys) :
    Calls Tryd.prog 82 #[.slice a zs.length p, .slice a' ys.length p'] w fun e w' => MagOut w (val 4294967296 zs + val 4294967296 ys) (zs.length + ys.length + 1) e w' := by
  by_cases h : ys.length ≤ zs.length
  · exact plus_ge a a' p p' zs ys w hn hn' hz hy hdz hdy h
  · have := plus_lt a' a p' p ys zs w hn' hn hy hz hdy hdz (by omega)
    rw [Int.add_comm, Nat.add_comm zs.length]
    exact this

end Go.Proofs.YtladfpljnaippaaDoor
