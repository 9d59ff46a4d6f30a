/-
  The program's sums of magnitudes.
-/
import Derived.Test.YtladfpljnaippabDoorNumGToImplSF
import Derived.Test.YtladfpljnaippabDoorSpecDQF
namespace Go.Proofs.YtladfpljnaippabDoor
open Go.RowKit

set_option maxHeartbeats 4000000 in
theorem plus_ge (a a' : Option Addr) (p p' : Nat) (zs ys : List Int) (w : World) (hn : zs.length ≤ 100000) (hn' : ys.length ≤ 100000) (hz : RowAt .u32 w a zs) (hy : RowAt .u32 w a' ys) (hdz : Dig 4294967296 zs) (hdy : Dig 4294967296 ys) (hle : ys.length ≤ zs.length) :
    Calls Tryd.prog 117 #[.slice a zs.length p, .slice a' ys.length p'] w fun e w' => MagOut w (val 4294967296 zs + val 4294967296 ys) (zs.length + ys.length + 1) e w' := by
  have hmk := run_make_row' (P := Tryd.prog) 86 33 (.int .u32 0) 4 Tryd.underlying86 Tryd.info33 rfl .i64 .i64 (zs.length + 1) (by omega) (by omega)
  rw [show ((zs.length + 1 : Nat) : Int) = (zs.length : Int) + 1 by omega] at hmk
  go_enter Tryd.func117, Tryd.ntmps117
  go_wp2
  go_loopw [6, 22] (fun cc i wr => ∃ (k : Nat) (c : Int) (out : List Int), k ≤ zs.length ∧ out.length = k ∧ i = .int .i64 k ∧ cc = .int .u64 c ∧ 0 ≤ c ∧ c ≤ 1 ∧ Hid (carryD 4294967296 (sumsL zs ys) 0 = out ++ carryD 4294967296 (sumsL (zs.drop k) (ys.drop k)) c) ∧ Hid (carryO 4294967296 (sumsL zs ys) 0 = carryO 4294967296 (sumsL (zs.drop k) (ys.drop k)) c) ∧
      Own .u32 wr w.heap.size 0 (out ++ List.replicate (zs.length + 1 - k) 0) ∧ Below w.heap.size w wr) (fun _ i _ => zs.length - (intOf i).toNat)
  case atStart => exact ⟨0, 0, [], Nat.zero_le _, rfl, rfl, rfl, by decide, by decide, rfl, rfl, by simpa using Own.made w (zs.length + 1) _, bel0 _ _⟩
  case round =>
    obtain ⟨k, c, out, hk, hol, rfl, rfl, hc0, hc1, hD, hO, hown, hnx⟩ := hrel
    by_cases hlt : k < zs.length
    · have hb1 := hdz.at (by decide) k
      have hb2 := hdy.at (by decide) k
      obtain ⟨b, off, rfl, g1⟩ := row_cell hz hnx hlt
      obtain ⟨x, hx⟩ : ∃ x, x = zs.getD k 0 := ⟨_, rfl⟩
      obtain ⟨y, hyy⟩ : ∃ y, y = ys.getD k 0 := ⟨_, rfl⟩
      rw [← hx] at hb1 g1
      rw [← hyy] at hb2
      obtain ⟨hb10, hb11⟩ := hb1
      obtain ⟨hb20, hb21⟩ := hb2
      have g3 := hown.cell k (by simp; omega)
      have g4 := hown.free k (by simp; omega)
      rw [Nat.zero_add] at g3 g4
      by_cases h2 : k < ys.length
      · obtain ⟨b', off', rfl, g2⟩ := row_cell hy hnx h2
        rw [← hyy] at g2
        have hst := carryDO_sums (B := 4294967296) (xs := zs) (ys := ys) (k := k) (c := c) (s := c + x + y) (.inl hlt) (by rw [← hx, ← hyy]; omega)
        have HD : Hid (carryD 4294967296 (sumsL zs ys) 0 = (out ++ [(c + x + y) % 4294967296]) ++ carryD 4294967296 (sumsL (zs.drop (k + 1)) (ys.drop (k + 1))) ((c + x + y) / 4294967296)) := by unfold Hid; rw [hD.out, hst.1]; simp
        have HO : Hid (carryO 4294967296 (sumsL zs ys) 0 = carryO 4294967296 (sumsL (zs.drop (k + 1)) (ys.drop (k + 1))) ((c + x + y) / 4294967296)) := by unfold Hid; rw [hO.out, hst.2]
        have hs := hown.set k ((c + x + y) % 4294967296) (by simp; omega)
        rw [Nat.zero_add, own_step hol hlt] at hs
        have HS : Hid (Own .u32 (wr.setCell ⟨w.heap.size, k, none⟩ (.int .u32 ((c + x + y) % 4294967296))) w.heap.size 0 ((out ++ [(c + x + y) % 4294967296]) ++ List.replicate (zs.length + 1 - (k + 1)) 0)) := hs
        have HB : Hid (Below w.heap.size w (wr.setCell ⟨w.heap.size, k, none⟩ (.int .u32 ((c + x + y) % 4294967296)))) := hnx.setCell (Nat.le_refl _) _
        clear hst hs hx hyy hD hO hown hnx hz hy hdz hdy
        go_wp2
        go_roundw
        case rel => exact ⟨k + 1, (c + x + y) / 4294967296, out ++ [(c + x + y) % 4294967296], by omega, by simp; omega, by go_num, rfl, by omega, by omega, HD, HO, HS.out, HB.out⟩
        case measure => simp [intOf]; omega
      · have hy0 : y = 0 := by rw [hyy]; exact getD_out h2
        have hst := carryDO_sums (B := 4294967296) (xs := zs) (ys := ys) (k := k) (c := c) (s := c + x) (.inl hlt) (by rw [← hx, ← hyy]; omega)
        have HD : Hid (carryD 4294967296 (sumsL zs ys) 0 = (out ++ [(c + x) % 4294967296]) ++ carryD 4294967296 (sumsL (zs.drop (k + 1)) (ys.drop (k + 1))) ((c + x) / 4294967296)) := by unfold Hid; rw [hD.out, hst.1]; simp
        have HO : Hid (carryO 4294967296 (sumsL zs ys) 0 = carryO 4294967296 (sumsL (zs.drop (k + 1)) (ys.drop (k + 1))) ((c + x) / 4294967296)) := by unfold Hid; rw [hO.out, hst.2]
        have hs := hown.set k ((c + x) % 4294967296) (by simp; omega)
        rw [Nat.zero_add, own_step hol hlt] at hs
        have HS : Hid (Own .u32 (wr.setCell ⟨w.heap.size, k, none⟩ (.int .u32 ((c + x) % 4294967296))) w.heap.size 0 ((out ++ [(c + x) % 4294967296]) ++ List.replicate (zs.length + 1 - (k + 1)) 0)) := hs
        have HB : Hid (Below w.heap.size w (wr.setCell ⟨w.heap.size, k, none⟩ (.int .u32 ((c + x) % 4294967296)))) := hnx.setCell (Nat.le_refl _) _
        clear hst hs hx hyy hD hO hown hnx hz hy hdz hdy hy0
        go_wp2
        go_roundw
        case rel => exact ⟨k + 1, (c + x) / 4294967296, out ++ [(c + x) % 4294967296], by omega, by simp; omega, by go_num, rfl, by omega, by omega, HD, HO, HS.out, HB.out⟩
        case measure => simp [intOf]; omega
    · have hkn : k = zs.length := by omega
      subst hkn
      have g3 := hown.cell zs.length (by simp; omega)
      have g4 := hown.free zs.length (by simp; omega)
      rw [Nat.zero_add] at g3 g4
      have hs := hown.set zs.length c (by simp; omega)
      rw [Nat.zero_add, own_last hol] at hs
      have hDD : carryD 4294967296 (sumsL zs ys) 0 = out := by
        rw [hD.out, List.drop_eq_nil_of_le (Nat.le_refl _), List.drop_eq_nil_of_le (show ys.length ≤ zs.length by omega)]; simp [sumsL, carryD]
      have hOO : carryO 4294967296 (sumsL zs ys) 0 = c := by
        rw [hO.out, List.drop_eq_nil_of_le (Nat.le_refl _), List.drop_eq_nil_of_le (show ys.length ≤ zs.length by omega)]; simp [sumsL, carryO]
      have hV : val 4294967296 (out ++ [c]) = val 4294967296 zs + val 4294967296 ys := by rw [← hDD, ← hOO, val_carryDO, val_sums]; omega
      have hG : Dig 4294967296 (out ++ [c]) := by
        refine Dig.append ?_ (Dig.cons hc0 (by omega) (Dig.nil _))
        rw [← hDD]
        exact dig_carryD (by decide) _ _
      have HV : Hid (val 4294967296 (out ++ [c]) = val 4294967296 zs + val 4294967296 ys) := hV
      have HG : Hid (Dig 4294967296 (out ++ [c])) := hG
      have HL : Hid (out.length = zs.length) := hol
      have HS : Hid (Own .u32 (wr.setCell ⟨w.heap.size, zs.length, none⟩ (.int .u32 c)) w.heap.size 0 (out ++ [c])) := hs
      have HB : Hid (Below w.heap.size w (wr.setCell ⟨w.heap.size, zs.length, none⟩ (.int .u32 c))) := hnx.setCell (Nat.le_refl _) _
      clear hs hV hG hDD hOO hD hO hown hnx hz hy hdz hdy hol
      go_wp2_with fail
      have e1 : zs.length + 1 = (out ++ [c]).length := by simp [HL.out]
      rw [e1]
      refine (trimmed_any _ _ (out ++ [c]) _ w.heap.size (by rw [← e1]; omega) (by rw [← e1]; unfold maxLen; omega) (Nat.le_refl _) (fun h => by cases h) (HS.out.new (Nat.le_refl _))).mono ?_
      rintro e w1 ⟨a2, c2, rfl, hf2, hm2, hr2, hw⟩
      subst hw
      have HM : Hid (MagOut w (val 4294967296 zs + val 4294967296 ys) (zs.length + ys.length + 1) (.returned (.slice a2 (trimL (out ++ [c])).length c2)) (wr.setCell ⟨w.heap.size, zs.length, none⟩ (.int .u32 c))) := by
        refine ⟨a2, c2, trimL (out ++ [c]), rfl, hf2, hm2, canon_trim HG.out, by rw [val_trim, HV.out], ?_, hr2, HB.out⟩
        have := trim_le (out ++ [c])
        rw [← e1] at this
        omega
      clear hf2 hm2 hr2 HG HV HB HS e1
      go_wp2
      go_ret
      exact HM.out

set_option maxHeartbeats 4000000 in
theorem plus_lt (a a' : Option Addr) (p p' : Nat) (zs ys : List Int) (w : World) (hn : zs.length ≤ 100000) (hn' : ys.length ≤ 100000) (hz : RowAt .u32 w a zs) (hy : RowAt .u32 w a' ys) (hdz : Dig 4294967296 zs) (hdy : Dig 4294967296 ys) (hle : ys.length < zs.length) :
    Calls Tryd.prog 117 #[.slice a' ys.length p', .slice a zs.length p] w fun e w' => MagOut w (val 4294967296 zs + val 4294967296 ys) (zs.length + ys.length + 1) e w' := by
  have hmk := run_make_row' (P := Tryd.prog) 86 33 (.int .u32 0) 4 Tryd.underlying86 Tryd.info33 rfl .i64 .i64 (zs.length + 1) (by omega) (by omega)
  rw [show ((zs.length + 1 : Nat) : Int) = (zs.length : Int) + 1 by omega] at hmk
  go_enter Tryd.func117, Tryd.ntmps117
  go_wp2
  go_loopw [6, 22] (fun cc i wr => ∃ (k : Nat) (c : Int) (out : List Int), k ≤ zs.length ∧ out.length = k ∧ i = .int .i64 k ∧ cc = .int .u64 c ∧ 0 ≤ c ∧ c ≤ 1 ∧ Hid (carryD 4294967296 (sumsL zs ys) 0 = out ++ carryD 4294967296 (sumsL (zs.drop k) (ys.drop k)) c) ∧ Hid (carryO 4294967296 (sumsL zs ys) 0 = carryO 4294967296 (sumsL (zs.drop k) (ys.drop k)) c) ∧
      Own .u32 wr w.heap.size 0 (out ++ List.replicate (zs.length + 1 - k) 0) ∧ Below w.heap.size w wr) (fun _ i _ => zs.length - (intOf i).toNat)
  case atStart => exact ⟨0, 0, [], Nat.zero_le _, rfl, rfl, rfl, by decide, by decide, rfl, rfl, by simpa using Own.made w (zs.length + 1) _, bel0 _ _⟩
  case round =>
    obtain ⟨k, c, out, hk, hol, rfl, rfl, hc0, hc1, hD, hO, hown, hnx⟩ := hrel
    by_cases hlt : k < zs.length
    · have hb1 := hdz.at (by decide) k
      have hb2 := hdy.at (by decide) k
      obtain ⟨b, off, rfl, g1⟩ := row_cell hz hnx hlt
      obtain ⟨x, hx⟩ : ∃ x, x = zs.getD k 0 := ⟨_, rfl⟩
      obtain ⟨y, hyy⟩ : ∃ y, y = ys.getD k 0 := ⟨_, rfl⟩
      rw [← hx] at hb1 g1
      rw [← hyy] at hb2
      obtain ⟨hb10, hb11⟩ := hb1
      obtain ⟨hb20, hb21⟩ := hb2
      have g3 := hown.cell k (by simp; omega)
      have g4 := hown.free k (by simp; omega)
      rw [Nat.zero_add] at g3 g4
      by_cases h2 : k < ys.length
      · obtain ⟨b', off', rfl, g2⟩ := row_cell hy hnx h2
        rw [← hyy] at g2
        have hst := carryDO_sums (B := 4294967296) (xs := zs) (ys := ys) (k := k) (c := c) (s := c + x + y) (.inl hlt) (by rw [← hx, ← hyy]; omega)
        have HD : Hid (carryD 4294967296 (sumsL zs ys) 0 = (out ++ [(c + x + y) % 4294967296]) ++ carryD 4294967296 (sumsL (zs.drop (k + 1)) (ys.drop (k + 1))) ((c + x + y) / 4294967296)) := by unfold Hid; rw [hD.out, hst.1]; simp
        have HO : Hid (carryO 4294967296 (sumsL zs ys) 0 = carryO 4294967296 (sumsL (zs.drop (k + 1)) (ys.drop (k + 1))) ((c + x + y) / 4294967296)) := by unfold Hid; rw [hO.out, hst.2]
        have hs := hown.set k ((c + x + y) % 4294967296) (by simp; omega)
        rw [Nat.zero_add, own_step hol hlt] at hs
        have HS : Hid (Own .u32 (wr.setCell ⟨w.heap.size, k, none⟩ (.int .u32 ((c + x + y) % 4294967296))) w.heap.size 0 ((out ++ [(c + x + y) % 4294967296]) ++ List.replicate (zs.length + 1 - (k + 1)) 0)) := hs
        have HB : Hid (Below w.heap.size w (wr.setCell ⟨w.heap.size, k, none⟩ (.int .u32 ((c + x + y) % 4294967296)))) := hnx.setCell (Nat.le_refl _) _
        clear hst hs hx hyy hD hO hown hnx hz hy hdz hdy
        go_wp2
        go_roundw
        case rel => exact ⟨k + 1, (c + x + y) / 4294967296, out ++ [(c + x + y) % 4294967296], by omega, by simp; omega, by go_num, rfl, by omega, by omega, HD, HO, HS.out, HB.out⟩
        case measure => simp [intOf]; omega
      · have hy0 : y = 0 := by rw [hyy]; exact getD_out h2
        have hst := carryDO_sums (B := 4294967296) (xs := zs) (ys := ys) (k := k) (c := c) (s := c + x) (.inl hlt) (by rw [← hx, ← hyy]; omega)
        have HD : Hid (carryD 4294967296 (sumsL zs ys) 0 = (out ++ [(c + x) % 4294967296]) ++ carryD 4294967296 (sumsL (zs.drop (k + 1)) (ys.drop (k + 1))) ((c + x) / 4294967296)) := by unfold Hid; rw [hD.out, hst.1]; simp
        have HO : Hid (carryO 4294967296 (sumsL zs ys) 0 = carryO 4294967296 (sumsL (zs.drop (k + 1)) (ys.drop (k + 1))) ((c + x) / 4294967296)) := by unfold Hid; rw [hO.out, hst.2]
        have hs := hown.set k ((c + x) % 4294967296) (by simp; omega)
        rw [Nat.zero_add, own_step hol hlt] at hs
        have HS : Hid (Own .u32 (wr.setCell ⟨w.heap.size, k, none⟩ (.int .u32 ((c + x) % 4294967296))) w.heap.size 0 ((out ++ [(c + x) % 4294967296]) ++ List.replicate (zs.length + 1 - (k + 1)) 0)) := hs
        have HB : Hid (Below w.heap.size w (wr.setCell ⟨w.heap.size, k, none⟩ (.int .u32 ((c + x) % 4294967296)))) := hnx.setCell (Nat.le_refl _) _
        clear hst hs hx hyy hD hO hown hnx hz hy hdz hdy hy0
        go_wp2
        go_roundw
        case rel => exact ⟨k + 1, (c + x) / 4294967296, out ++ [(c + x) % 4294967296], by omega, by simp; omega, by go_num, rfl, by omega, by omega, HD, HO, HS.out, HB.out⟩
        case measure => simp [intOf]; omega
    · have hkn : k = zs.length := by omega
      subst hkn
      have g3 := hown.cell zs.length (by simp; omega)
      have g4 := hown.free zs.length (by simp; omega)
      rw [Nat.zero_add] at g3 g4
      have hs := hown.set zs.length c (by simp; omega)
      rw [Nat.zero_add, own_last hol] at hs
      have hDD : carryD 4294967296 (sumsL zs ys) 0 = out := by
        rw [hD.out, List.drop_eq_nil_of_le (Nat.le_refl _), List.drop_eq_nil_of_le (show ys.length ≤ zs.length by omega)]; simp [sumsL, carryD]
      have hOO : carryO 4294967296 (sumsL zs ys) 0 = c := by
        rw [hO.out, List.drop_eq_nil_of_le (Nat.le_refl _), List.drop_eq_nil_of_le (show ys.length ≤ zs.length by omega)]; simp [sumsL, carryO]
      have hV : val 4294967296 (out ++ [c]) = val 4294967296 zs + val 4294967296 ys := by rw [← hDD, ← hOO, val_carryDO, val_sums]; omega
      have hG : Dig 4294967296 (out ++ [c]) := by
        refine Dig.append ?_ (Dig.cons hc0 (by omega) (Dig.nil _))
        rw [← hDD]
        exact dig_carryD (by decide) _ _
      have HV : Hid (val 4294967296 (out ++ [c]) = val 4294967296 zs + val 4294967296 ys) := hV
      have HG : Hid (Dig 4294967296 (out ++ [c])) := hG
      have HL : Hid (out.length = zs.length) := hol
      have HS : Hid (Own .u32 (wr.setCell ⟨w.heap.size, zs.length, none⟩ (.int .u32 c)) w.heap.size 0 (out ++ [c])) := hs
      have HB : Hid (Below w.heap.size w (wr.setCell ⟨w.heap.size, zs.length, none⟩ (.int .u32 c))) := hnx.setCell (Nat.le_refl _) _
      clear hs hV hG hDD hOO hD hO hown hnx hz hy hdz hdy hol
      go_wp2_with fail
      have e1 : zs.length + 1 = (out ++ [c]).length := by simp [HL.out]
      rw [e1]
      refine (trimmed_any _ _ (out ++ [c]) _ w.heap.size (by rw [← e1]; omega) (by rw [← e1]; unfold maxLen; omega) (Nat.le_refl _) (fun h => by cases h) (HS.out.new (Nat.le_refl _))).mono ?_
      rintro e w1 ⟨a2, c2, rfl, hf2, hm2, hr2, hw⟩
      subst hw
      have HM : Hid (MagOut w (val 4294967296 zs + val 4294967296 ys) (zs.length + ys.length + 1) (.returned (.slice a2 (trimL (out ++ [c])).length c2)) (wr.setCell ⟨w.heap.size, zs.length, none⟩ (.int .u32 c))) := by
        refine ⟨a2, c2, trimL (out ++ [c]), rfl, hf2, hm2, canon_trim HG.out, by rw [val_trim, HV.out], ?_, hr2, HB.out⟩
        have := trim_le (out ++ [c])
        rw [← e1] at this
        omega
      clear hf2 hm2 hr2 HG HV HB HS e1
      go_wp2
      go_ret
      exact HM.out

theorem plus_any (a a' : Option Addr) (p p' : Nat) (zs ys : List Int) (w : World) (hn : zs.length ≤ 100000) (hn' : ys.length ≤ 100000) (hz : RowAt .u32 w a zs) (hy : RowAt .u32 w a' ys) (hdz : Dig 4294967296 zs) (hdy : Dig 4294967296 ys) :
    Calls Tryd.prog 117 #[.slice a zs.length p, .slice a' ys.length p'] w fun e w' => MagOut w (val 4294967296 zs + val 4294967296 ys) (zs.length + ys.length + 1) e w' := by
  by_cases h : ys.length ≤ zs.length
  · exact plus_ge a a' p p' zs ys w hn hn' hz hy hdz hdy h
  · have := plus_lt a' a p' p ys zs w hn' hn hy hz hdy hdz (by omega)
    rw [Int.add_comm, Nat.add_comm zs.length]
    exact this

end Go.Proofs.YtladfpljnaippabDoor

/-
  The program's differences of magnitudes.
-/
namespace Go.Proofs.YtladfpljnaippabDoor
open Go.RowKit

theorem fill_next {out : List Int} {n k : Nat} {d : Int} (h : out.length = k) (hk : k < n) : (out ++ List.replicate (n - k) 0).set k d = (out ++ [d]) ++ List.replicate (n - (k + 1)) 0 := by
  rw [show n - k = (n - (k + 1)) + 1 by omega, List.replicate_succ, set_mid h]
  simp

/-- A difference below zero, wrapped round to 64 bits. -/
theorem wrap_low {z : Int} (h0 : -8589934592 < z) (h1 : z < 0) (h2 : -4294967296 ≤ z) : IntKind.u64.wrap z % 4294967296 = z + 4294967296 ∧ IntKind.u64.wrap z / 9223372036854775808 = 1 := by
  rw [IntKind.wrap_u64]
  omega

set_option maxHeartbeats 4000000 in
theorem minus_any (a a' : Option Addr) (p p' : Nat) (zs ys : List Int) (w : World) (hn : zs.length ≤ 100000) (hz : RowAt .u32 w a zs) (hy : RowAt .u32 w a' ys) (hdz : Dig 4294967296 zs) (hdy : Dig 4294967296 ys) (hle : ys.length ≤ zs.length) (hv : val 4294967296 ys ≤ val 4294967296 zs) :
    Calls Tryd.prog 118 #[.slice a zs.length p, .slice a' ys.length p'] w fun e w' => MagOut w (val 4294967296 zs - val 4294967296 ys) zs.length e w' := by
  have HVV : Hid (val 4294967296 (carryD 4294967296 (diffsL zs ys) 0) = val 4294967296 zs - val 4294967296 ys) := val_sub (by decide) hdz hdy hle hv
  have hmk := run_make_row' (P := Tryd.prog) 86 33 (.int .u32 0) 4 Tryd.underlying86 Tryd.info33 rfl .i64 .i64 zs.length (by omega) (by omega)
  clear hv
  go_enter Tryd.func118, Tryd.ntmps118
  go_wp2
  go_loopw [6, 16] (fun cc i wr => ∃ (k : Nat) (c : Int) (out : List Int), k ≤ zs.length ∧ out.length = k ∧ i = .int .i64 k ∧ cc = .int .u64 c ∧ 0 ≤ c ∧ c ≤ 1 ∧ Hid (carryD 4294967296 (diffsL zs ys) 0 = out ++ carryD 4294967296 (diffsL (zs.drop k) (ys.drop k)) (-c)) ∧
      Own .u32 wr w.heap.size 0 (out ++ List.replicate (zs.length - k) 0) ∧ Below w.heap.size w wr) (fun _ i _ => zs.length - (intOf i).toNat)
  case atStart => exact ⟨0, 0, [], Nat.zero_le _, rfl, rfl, rfl, by decide, by decide, rfl, by simpa using Own.made w zs.length _, bel0 _ _⟩
  case round =>
    obtain ⟨k, c, out, hk, hol, rfl, rfl, hc0, hc1, hD, hown, hnx⟩ := hrel
    by_cases hlt : k < zs.length
    · have hb1 := hdz.at (by decide) k
      have hb2 := hdy.at (by decide) k
      obtain ⟨b, off, rfl, g1⟩ := row_cell hz hnx hlt
      obtain ⟨x, hx⟩ : ∃ x, x = zs.getD k 0 := ⟨_, rfl⟩
      obtain ⟨y, hyy⟩ : ∃ y, y = ys.getD k 0 := ⟨_, rfl⟩
      rw [← hx] at hb1 g1
      rw [← hyy] at hb2
      obtain ⟨hb10, hb11⟩ := hb1
      obtain ⟨hb20, hb21⟩ := hb2
      have g3 := hown.cell k (by simp; omega)
      have g4 := hown.free k (by simp; omega)
      rw [Nat.zero_add] at g3 g4
      by_cases h2 : k < ys.length
      · obtain ⟨b', off', rfl, g2⟩ := row_cell hy hnx h2
        rw [← hyy] at g2
        by_cases hv : x < c + y
        · have hst := sub_step (B := 4294967296) (xs := zs) (ys := ys) (s := x - c - y) (c := -c) hlt (by rw [← hx, ← hyy]; omega)
          have HW : Hid (IntKind.u64.wrap (x - (c + y)) % 4294967296 = x - (c + y) + 4294967296 ∧ IntKind.u64.wrap (x - (c + y)) / 9223372036854775808 = 1) := wrap_low (by omega) (by omega) (by omega)
          rw [show (x - c - y) % 4294967296 = x - (c + y) + 4294967296 by omega, show (x - c - y) / 4294967296 = -1 by omega] at hst
          have HD : Hid (carryD 4294967296 (diffsL zs ys) 0 = (out ++ [x - (c + y) + 4294967296]) ++ carryD 4294967296 (diffsL (zs.drop (k + 1)) (ys.drop (k + 1))) (-1)) := by unfold Hid; rw [hD.out, hst]; simp
          have hs := hown.set k (x - (c + y) + 4294967296) (by simp; omega)
          rw [Nat.zero_add, fill_next hol hlt] at hs
          have HS : Hid (Own .u32 (wr.setCell ⟨w.heap.size, k, none⟩ (.int .u32 (x - (c + y) + 4294967296))) w.heap.size 0 ((out ++ [x - (c + y) + 4294967296]) ++ List.replicate (zs.length - (k + 1)) 0)) := hs
          have HB : Hid (Below w.heap.size w (wr.setCell ⟨w.heap.size, k, none⟩ (.int .u32 (x - (c + y) + 4294967296)))) := hnx.setCell (Nat.le_refl _) _
          clear hst hs hx hyy hD hown hnx hz hy hdz hdy
          go_wp2
          go_roundw
          case rel => exact ⟨k + 1, 1, out ++ [x - (c + y) + 4294967296], by omega, by simp; omega, by go_num, by rw [HW.out.2], by omega, by omega, HD, by rw [HW.out.1]; exact HS.out, by rw [HW.out.1]; exact HB.out⟩
          case measure => simp [intOf]; omega
        · have hst := sub_step (B := 4294967296) (xs := zs) (ys := ys) (s := x - c - y) (c := -c) hlt (by rw [← hx, ← hyy]; omega)
          rw [show (x - c - y) % 4294967296 = x - (c + y) by omega, show (x - c - y) / 4294967296 = -0 by omega] at hst
          have HD : Hid (carryD 4294967296 (diffsL zs ys) 0 = (out ++ [x - (c + y)]) ++ carryD 4294967296 (diffsL (zs.drop (k + 1)) (ys.drop (k + 1))) (-0)) := by unfold Hid; rw [hD.out, hst]; simp
          have hs := hown.set k (x - (c + y)) (by simp; omega)
          rw [Nat.zero_add, fill_next hol hlt] at hs
          have HS : Hid (Own .u32 (wr.setCell ⟨w.heap.size, k, none⟩ (.int .u32 (x - (c + y)))) w.heap.size 0 ((out ++ [x - (c + y)]) ++ List.replicate (zs.length - (k + 1)) 0)) := hs
          have HB : Hid (Below w.heap.size w (wr.setCell ⟨w.heap.size, k, none⟩ (.int .u32 (x - (c + y))))) := hnx.setCell (Nat.le_refl _) _
          clear hst hs hx hyy hD hown hnx hz hy hdz hdy
          go_wp2
          go_roundw
          case rel => exact ⟨k + 1, 0, out ++ [x - (c + y)], by omega, by simp; omega, by go_num, by go_num, by omega, by omega, HD, HS.out, HB.out⟩
          case measure => simp [intOf]; omega
      · have hy0 : y = 0 := by rw [hyy]; exact getD_out h2
        by_cases hv : x < c
        · have hst := sub_step (B := 4294967296) (xs := zs) (ys := ys) (s := x - c) (c := -c) hlt (by rw [← hx, ← hyy]; omega)
          have HW : Hid (IntKind.u64.wrap (x - c) % 4294967296 = x - c + 4294967296 ∧ IntKind.u64.wrap (x - c) / 9223372036854775808 = 1) := wrap_low (by omega) (by omega) (by omega)
          rw [show (x - c) % 4294967296 = x - c + 4294967296 by omega, show (x - c) / 4294967296 = -1 by omega] at hst
          have HD : Hid (carryD 4294967296 (diffsL zs ys) 0 = (out ++ [x - c + 4294967296]) ++ carryD 4294967296 (diffsL (zs.drop (k + 1)) (ys.drop (k + 1))) (-1)) := by unfold Hid; rw [hD.out, hst]; simp
          have hs := hown.set k (x - c + 4294967296) (by simp; omega)
          rw [Nat.zero_add, fill_next hol hlt] at hs
          have HS : Hid (Own .u32 (wr.setCell ⟨w.heap.size, k, none⟩ (.int .u32 (x - c + 4294967296))) w.heap.size 0 ((out ++ [x - c + 4294967296]) ++ List.replicate (zs.length - (k + 1)) 0)) := hs
          have HB : Hid (Below w.heap.size w (wr.setCell ⟨w.heap.size, k, none⟩ (.int .u32 (x - c + 4294967296)))) := hnx.setCell (Nat.le_refl _) _
          clear hst hs hx hyy hD hown hnx hz hy hdz hdy hy0
          go_wp2
          go_roundw
          case rel => exact ⟨k + 1, 1, out ++ [x - c + 4294967296], by omega, by simp; omega, by go_num, by rw [HW.out.2], by omega, by omega, HD, by rw [HW.out.1]; exact HS.out, by rw [HW.out.1]; exact HB.out⟩
          case measure => simp [intOf]; omega
        · have hst := sub_step (B := 4294967296) (xs := zs) (ys := ys) (s := x - c) (c := -c) hlt (by rw [← hx, ← hyy]; omega)
          rw [show (x - c) % 4294967296 = x - c by omega, show (x - c) / 4294967296 = -0 by omega] at hst
          have HD : Hid (carryD 4294967296 (diffsL zs ys) 0 = (out ++ [x - c]) ++ carryD 4294967296 (diffsL (zs.drop (k + 1)) (ys.drop (k + 1))) (-0)) := by unfold Hid; rw [hD.out, hst]; simp
          have hs := hown.set k (x - c) (by simp; omega)
          rw [Nat.zero_add, fill_next hol hlt] at hs
          have HS : Hid (Own .u32 (wr.setCell ⟨w.heap.size, k, none⟩ (.int .u32 (x - c))) w.heap.size 0 ((out ++ [x - c]) ++ List.replicate (zs.length - (k + 1)) 0)) := hs
          have HB : Hid (Below w.heap.size w (wr.setCell ⟨w.heap.size, k, none⟩ (.int .u32 (x - c)))) := hnx.setCell (Nat.le_refl _) _
          clear hst hs hx hyy hD hown hnx hz hy hdz hdy hy0
          go_wp2
          go_roundw
          case rel => exact ⟨k + 1, 0, out ++ [x - c], by omega, by simp; omega, by go_num, by go_num, by omega, by omega, HD, HS.out, HB.out⟩
          case measure => simp [intOf]; omega
    · have hkn : k = zs.length := by omega
      subst hkn
      have hDD : carryD 4294967296 (diffsL zs ys) 0 = out := by
        rw [hD.out, List.drop_eq_nil_of_le (Nat.le_refl _)]; simp [diffsL, carryD]
      have hs : Own .u32 wr w.heap.size 0 out := by simpa using hown
      have hG : Dig 4294967296 out := by rw [← hDD]; exact dig_carryD (by decide) _ _
      rw [hDD] at HVV
      have HG : Hid (Dig 4294967296 out) := hG
      have HL : Hid (out.length = zs.length) := hol
      have HS : Hid (Own .u32 wr w.heap.size 0 out) := hs
      have HB : Hid (Below w.heap.size w wr) := hnx
      clear hs hG hDD hD hown hnx hz hy hdz hdy hol
      go_wp2_with fail
      have e1 : zs.length = out.length := HL.out.symm
      rw [e1]
      refine (trimmed_any _ _ out _ w.heap.size (by omega) (by unfold maxLen; omega) (Nat.le_refl _) (fun h => by cases h) (HS.out.new (Nat.le_refl _))).mono ?_
      rintro e w1 ⟨a2, c2, rfl, hf2, hm2, hr2, hw⟩
      subst hw
      have HM : Hid (MagOut w (val 4294967296 zs - val 4294967296 ys) zs.length (.returned (.slice a2 (trimL out).length c2)) w1) := by
        refine ⟨a2, c2, trimL out, rfl, hf2, hm2, canon_trim HG.out, by rw [val_trim, HVV.out], ?_, hr2, HB.out⟩
        have := trim_le out
        omega
      clear hf2 hm2 hr2 HG HVV HB HS e1
      go_wp2
      go_ret
      exact HM.out

end Go.Proofs.YtladfpljnaippabDoor

/-
  The program's order of magnitudes.
-/
namespace Go.Proofs.YtladfpljnaippabDoor
open Go.RowKit

set_option maxHeartbeats 1000000 in
theorem cmpI_any (x y : Int) (w : World) :
    Calls Tryd.prog 120 #[.int .i64 x, .int .i64 y] w fun e w' => e = .returned (.int .i64 (sgn (x - y))) ∧ w' = w := by
  have hx : (x != x) = false := by simp
  have hy : (y != y) = false := by simp
  rcases sgn_cases (x - y) with ⟨h1, h2⟩ | ⟨h1, h2⟩ | ⟨h1, h2⟩
  · have HS : Hid (sgn (x - y) = -1) := h2
    have h3 : x < y := by omega
    clear h1 h2
    go_enter Tryd.func120, Tryd.ntmps120
    go_wp2
    go_ret
    exact ⟨ret_int HS.out.symm, rfl⟩
  · have HS : Hid (sgn (x - y) = 0) := h2
    have h3 : ¬ x < y := by omega
    have h4 : ¬ y < x := by omega
    clear h1 h2
    go_enter Tryd.func120, Tryd.ntmps120
    go_wp2
    go_ret
    exact ⟨ret_int HS.out.symm, rfl⟩
  · have HS : Hid (sgn (x - y) = 1) := h2
    have h3 : ¬ x < y := by omega
    have h4 : y < x := by omega
    clear h1 h2
    go_enter Tryd.func120, Tryd.ntmps120
    go_wp2
    go_ret
    exact ⟨ret_int HS.out.symm, rfl⟩

set_option maxHeartbeats 1000000 in
theorem cmpU_any (x y : Int) (w : World) :
    Calls Tryd.prog 121 #[.int .u32 x, .int .u32 y] w fun e w' => e = .returned (.int .i64 (sgn (x - y))) ∧ w' = w := by
  have hx : (x != x) = false := by simp
  have hy : (y != y) = false := by simp
  rcases sgn_cases (x - y) with ⟨h1, h2⟩ | ⟨h1, h2⟩ | ⟨h1, h2⟩
  · have HS : Hid (sgn (x - y) = -1) := h2
    have h3 : x < y := by omega
    clear h1 h2
    go_enter Tryd.func121, Tryd.ntmps121
    go_wp2
    go_ret
    exact ⟨ret_int HS.out.symm, rfl⟩
  · have HS : Hid (sgn (x - y) = 0) := h2
    have h3 : ¬ x < y := by omega
    have h4 : ¬ y < x := by omega
    clear h1 h2
    go_enter Tryd.func121, Tryd.ntmps121
    go_wp2
    go_ret
    exact ⟨ret_int HS.out.symm, rfl⟩
  · have HS : Hid (sgn (x - y) = 1) := h2
    have h3 : ¬ x < y := by omega
    have h4 : y < x := by omega
    clear h1 h2
    go_enter Tryd.func121, Tryd.ntmps121
    go_wp2
    go_ret
    exact ⟨ret_int HS.out.symm, rfl⟩

set_option maxHeartbeats 1000000 in
theorem order_any (a a' : Option Addr) (c c' : Nat) (zs ys : List Int) (w : World) (hn : zs.length ≤ 1048576) (_hn' : ys.length ≤ 1048576) (hz : RowAt .u32 w a zs) (hy : RowAt .u32 w a' ys) :
    Calls Tryd.prog 114 #[.slice a zs.length c, .slice a' ys.length c'] w fun e w' => e = .returned (.int .i64 (cmpL zs ys)) ∧ Below w.heap.size w w' := by
  by_cases hl : zs.length = ys.length
  · have HC : Hid (cmpL zs ys = cmpTop zs ys) := by unfold Hid cmpL; rw [if_pos hl]
    have hne : ((zs.length : Int) != (ys.length : Int)) = false := by rw [bne_eq_false_iff_eq]; omega
    have HL : Hid (zs.length = ys.length) := hl
    clear hl
    go_enter Tryd.func114, Tryd.ntmps114
    go_wp2
    go_loopw [5] (fun i wr => ∃ k : Nat, k ≤ zs.length ∧ i = .int .i64 ((k : Int) - 1) ∧ Hid (cmpTop zs ys = cmpTop (zs.take k) (ys.take k)) ∧ Below w.heap.size w wr) (fun i _ => (intOf i + 1).toNat)
    case atStart => exact ⟨zs.length, Nat.le_refl _, rfl, by unfold Hid; rw [List.take_length, HL.out, List.take_length], Below.refl _ _⟩
    case round =>
      obtain ⟨k, hk, rfl, hsame, hnx⟩ := hrel
      by_cases h0 : k = 0
      · subst h0
        go_wp2
        go_ret
        exact ⟨ret_int (by rw [HC.out, hsame.out]; simp [cmpTop]), hnx⟩
      · obtain ⟨k, rfl⟩ : ∃ m, k = m + 1 := ⟨k - 1, by omega⟩
        have hlt' : k < ys.length := by have := HL.out; omega
        obtain ⟨b, off, rfl, g1⟩ := row_cell hz hnx (show k < zs.length by omega)
        obtain ⟨b', off', rfl, g2⟩ := row_cell hy hnx hlt'
        have hst := cmpTop_take (show k < zs.length by omega) hlt'
        obtain ⟨x, hx⟩ : ∃ x, x = zs.getD k 0 := ⟨_, rfl⟩
        obtain ⟨y, hyy⟩ : ∃ y, y = ys.getD k 0 := ⟨_, rfl⟩
        rw [← hx] at g1 hst
        rw [← hyy] at g2 hst
        have HST : Hid (cmpL zs ys = if x = y then cmpTop (zs.take k) (ys.take k) else sgn (x - y)) := by unfold Hid; rw [HC.out, hsame.out, hst]
        have HS2 : Hid (cmpTop zs ys = if x = y then cmpTop (zs.take k) (ys.take k) else sgn (x - y)) := by unfold Hid; rw [hsame.out, hst]
        clear hst hx hyy hsame HC hz hy
        by_cases c1 : x = y
        · have hxy : (x != y) = false := by simp [c1]
          have C1 : Hid (x = y) := c1
          clear c1
          go_wp2
          go_quiet (fail)
          go_wp2
          go_roundw
          case rel => exact ⟨k, by omega, by go_num, by unfold Hid; rw [HS2.out, if_pos C1.out], below_drewN hnx _⟩
          case measure => simp [intOf]
        · have hxy : (x != y) = true := by simp [c1]
          have C1 : Hid (¬ x = y) := c1
          clear c1
          go_wp2
          go_quiet (fail)
          have hnx' := below_drewN hnx nq
          have g1' : (wr.drewN nq).cell? ⟨b, off + k, none⟩ = some (.int .u32 x) := by simpa using g1
          have g2' : (wr.drewN nq).cell? ⟨b', off' + k, none⟩ = some (.int .u32 y) := by simpa using g2
          clear hnx g1 g2
          generalize wr.drewN nq = wq at *
          go_wp2
          go_quiet (first | (go_at_call 121; refine Calls.quiet_of_same (cmpU_any _ _ _)))
          go_wp2
          go_ret
          exact ⟨ret_int (by rw [HST.out, if_neg C1.out]), below_drewN hnx' _⟩
  · have hne : ((zs.length : Int) != (ys.length : Int)) = true := by rw [bne_iff_ne]; omega
    have HC : Hid (cmpL zs ys = sgn ((zs.length : Int) - (ys.length : Int))) := by
      unfold Hid cmpL sgn
      rw [if_neg hl]
      by_cases h2 : zs.length < ys.length
      · rw [if_pos h2, if_pos (by omega)]
      · rw [if_neg h2, if_neg (by omega), if_neg (by omega)]
    clear hl
    go_enter Tryd.func114, Tryd.ntmps114
    go_wp2_with (go_at_call 120; refine (cmpI_any _ _ _).mono ?_; rintro e w1 ⟨rfl, rfl⟩)
    go_ret
    exact ⟨ret_int HC.out.symm, Below.refl _ _⟩

end Go.Proofs.YtladfpljnaippabDoor
