/-
  The model's order, sums and differences of magnitudes.
-/
import Derived.Test.YtladfpljnaippabDoorSpecC
namespace Go.Proofs.YtladfpljnaippabDoor
open Go.RowKit

theorem getD_out {zs : List Int} {k : Nat} (h : ¬ k < zs.length) : zs.getD k 0 = 0 := by
  rw [List.getD_eq_getElem?_getD, List.getElem?_eq_none (by omega)]; rfl

/-- Element k of a row that is read, in a later world. -/
theorem row_cell {kd : IntKind} {w wr : World} {a : Option Addr} {zs : List Int} (hz : RowAt kd w a zs) (hb : Below w.heap.size w wr) {k : Nat} (h : k < zs.length) : ∃ b off, a = some ⟨b, off, none⟩ ∧ wr.cell? ⟨b, off + k, none⟩ = some (.int kd (zs.getD k 0)) := by
  obtain ⟨b, off, h1, h2, h3⟩ := hz.resolve_left (by intro e; subst e; simp at h)
  exact ⟨b, off, h1, (hb.cell (p := ⟨b, off + k, none⟩) h2).trans (h3 k h)⟩

theorem ret_int {k : IntKind} {a b : Int} (h : a = b) : Ending.returned (.int k a) = .returned (.int k b) := by rw [h]

set_option maxHeartbeats 1000000 in
theorem cmpMag_any (a a' : Option Addr) (c c' : Nat) (zs ys : List Int) (w : World) (hn : zs.length ≤ 1048576) (_hn' : ys.length ≤ 1048576) (hz : RowAt .i64 w a zs) (hy : RowAt .i64 w a' ys) :
    Calls Tryd.prog 97 #[.slice a zs.length c, .slice a' ys.length c'] w fun e w' => e = .returned (.int .i64 (cmpL zs ys)) ∧ Below w.heap.size w w' := by
  by_cases hl : zs.length = ys.length
  · have HC : Hid (cmpL zs ys = cmpTop zs ys) := by unfold Hid cmpL; rw [if_pos hl]
    have hne : ((zs.length : Int) != (ys.length : Int)) = false := by rw [bne_eq_false_iff_eq]; omega
    have HL : Hid (zs.length = ys.length) := hl
    clear hl
    go_enter Tryd.func97, Tryd.ntmps97
    go_wp2
    go_loopw [5] (fun i wr => ∃ k : Nat, k ≤ zs.length ∧ i = .int .i64 ((k : Int) - 1) ∧ Hid (cmpTop zs ys = cmpTop (zs.take k) (ys.take k)) ∧ Below w.heap.size w wr) (fun i _ => (intOf i + 1).toNat)
    case atStart => exact ⟨zs.length, Nat.le_refl _, rfl, by unfold Hid; rw [List.take_length, HL.out, List.take_length], Below.refl _ _⟩
    case round =>
      obtain ⟨k, hk, rfl, hsame, hnx⟩ := hrel
      by_cases h0 : k = 0
      · subst h0
        go_wp2
        go_ret
        exact ⟨ret_int (by rw [HC.out, hsame.out]; simp [cmpTop]), hnx⟩
      · obtain ⟨k, rfl⟩ : ∃ m, k = m + 1 := ⟨k - 1, by omega⟩
        have hlt' : k < ys.length := by have := HL.out; omega
        obtain ⟨b, off, rfl, g1⟩ := row_cell hz hnx (show k < zs.length by omega)
        obtain ⟨b', off', rfl, g2⟩ := row_cell hy hnx hlt'
        have hst := cmpTop_take (show k < zs.length by omega) hlt'
        obtain ⟨x, hx⟩ : ∃ x, x = zs.getD k 0 := ⟨_, rfl⟩
        obtain ⟨y, hyy⟩ : ∃ y, y = ys.getD k 0 := ⟨_, rfl⟩
        rw [← hx] at g1 hst
        rw [← hyy] at g2 hst
        have HST : Hid (cmpL zs ys = if x = y then cmpTop (zs.take k) (ys.take k) else sgn (x - y)) := by unfold Hid; rw [HC.out, hsame.out, hst]
        have HS2 : Hid (cmpTop zs ys = if x = y then cmpTop (zs.take k) (ys.take k) else sgn (x - y)) := by unfold Hid; rw [hsame.out, hst]
        clear hst hx hyy hsame HC hz hy
        by_cases c1 : x < y
        · go_wp2
          go_quiet (fail)
          go_wp2
          go_ret
          exact ⟨ret_int (by rw [HST.out, if_neg (by omega)]; unfold sgn; rw [if_pos (by omega)]), below_drewN hnx _⟩
        · by_cases c2 : y < x
          · go_wp2
            go_quiet (fail)
            go_wp2
            go_quiet (fail)
            go_wp2
            go_ret
            exact ⟨ret_int (by rw [HST.out, if_neg (by omega)]; unfold sgn; rw [if_neg (by omega), if_neg (by omega)]), below_drewN (below_drewN hnx _) _⟩
          · go_wp2
            go_quiet (fail)
            go_wp2
            go_quiet (fail)
            go_wp2
            go_roundw
            case rel => exact ⟨k, by omega, by go_num, by unfold Hid; rw [HS2.out, if_pos (by omega)], below_drewN hnx _⟩
            case measure => simp [intOf]
  · have hne : ((zs.length : Int) != (ys.length : Int)) = true := by rw [bne_iff_ne]; omega
    by_cases h2 : zs.length < ys.length
    · have HC : Hid (cmpL zs ys = -1) := by unfold Hid cmpL; rw [if_neg hl, if_pos h2]
      go_enter Tryd.func97, Tryd.ntmps97
      go_wp2
      go_ret
      exact ⟨ret_int HC.out.symm, Below.refl _ _⟩
    · have HC : Hid (cmpL zs ys = 1) := by unfold Hid cmpL; rw [if_neg hl, if_neg h2]
      go_enter Tryd.func97, Tryd.ntmps97
      go_wp2
      go_ret
      exact ⟨ret_int HC.out.symm, Below.refl _ _⟩

set_option maxHeartbeats 4000000 in
theorem addMag_any (a a' : Option Addr) (p p' : Nat) (zs ys : List Int) (w : World) (hn : zs.length ≤ 200000) (hn' : ys.length ≤ 200000) (hz : RowAt .i64 w a zs) (hy : RowAt .i64 w a' ys) (hdz : Dig 65536 zs) (hdy : Dig 65536 ys) :
    Calls Tryd.prog 96 #[.slice a zs.length p, .slice a' ys.length p'] w fun e w' => ∃ a2 c2, e = .returned (.slice a2 (carryL 65536 (sumsL zs ys) 0).length c2) ∧ c2 ≤ maxLen ∧ Sl .i64 w' a2 c2 (carryL 65536 (sumsL zs ys) 0) ∧ RowNew .i64 w' w.heap.size a2 (carryL 65536 (sumsL zs ys) 0) ∧ Below w.heap.size w w' := by
  go_enter Tryd.func96, Tryd.ntmps96
  go_wp2
  go_loopw [5, 6, 7] (fun v cc i wr => ∃ (k : Nat) (c : Int) (out : List Int), cc = .int .i64 c ∧ i = .int .i64 k ∧ 0 ≤ c ∧ c ≤ 1 ∧ (k ≤ zs.length ∨ k ≤ ys.length ∨ c = 0) ∧ k ≤ 400001 ∧ out.length = k ∧ Hid (carryL 65536 (sumsL zs ys) 0 = out ++ carryL 65536 (sumsL (zs.drop k) (ys.drop k)) c) ∧
      wr.ownsRow w.heap.size 3 1 v out.length (vals .i64 out) ∧ Below w.heap.size w wr) (fun _ _ i _ => 400002 - (intOf i).toNat)
  case atStart => exact ⟨0, 0, [], rfl, rfl, by decide, by decide, .inl (Nat.zero_le _), by decide, rfl, rfl, own_nil _ _ _ _, Below.refl _ _⟩
  case round =>
    obtain ⟨k, c, out, rfl, rfl, hc0, hc1, hkk, hkb, hol, hrest, hown, hnx⟩ := hrel
    have hsz := hnx.size
    have hb1 := hdz.at (by decide) k
    have hb2 := hdy.at (by decide) k
    have hlo : out.length ≤ 400001 := by omega
    by_cases hend : ¬ k < zs.length ∧ ¬ k < ys.length ∧ ¬ 0 < c
    · obtain ⟨e1, e2, e3⟩ := hend
      have hcz : c = 0 := by omega
      subst hcz
      have hfin : carryL 65536 (sumsL zs ys) 0 = out := by
        rw [hrest.out, List.drop_eq_nil_of_le (by omega), List.drop_eq_nil_of_le (by omega)]; simp [sumsL, carryL]
      have HF : Hid (carryL 65536 (sumsL zs ys) 0 = out) := hfin
      obtain ⟨a2, c2, rfl, hcm, hsl, hrn⟩ := own_row hown
      clear hfin hown hrest hb1 hb2 hdz hdy hz hy hol
      go_wp2
      go_ret
      rw [HF.out]
      exact ⟨a2, c2, rfl, hcm, hsl, hrn, hnx⟩
    · have hcond : k < zs.length ∨ k < ys.length ∨ 0 < c := by omega
      have hkb' : k < 400001 := by omega
      by_cases h1 : k < zs.length
      · by_cases h2 : k < ys.length
        · obtain ⟨b, off, rfl, g1⟩ := row_cell hz hnx h1
          obtain ⟨b', off', rfl, g2⟩ := row_cell hy hnx h2
          obtain ⟨x, hx⟩ : ∃ x, x = zs.getD k 0 := ⟨_, rfl⟩
          obtain ⟨y, hyy⟩ : ∃ y, y = ys.getD k 0 := ⟨_, rfl⟩
          rw [← hx] at hb1 g1
          rw [← hyy] at hb2 g2
          have hst := add_step (B := 65536) (by decide) (s := c + x + y) hcond hc0 hc1 (by rw [← hx, ← hyy]; omega)
          have HS : Hid (carryL 65536 (sumsL zs ys) 0 = (out ++ [(c + x + y) % 65536]) ++ carryL 65536 (sumsL (zs.drop (k + 1)) (ys.drop (k + 1))) ((c + x + y) / 65536)) := by unfold Hid; rw [hrest.out, hst]; simp
          have hsm0 : 0 ≤ c + x + y := by omega
          have hsm1 : c + x + y ≤ 131071 := by omega
          obtain ⟨hb10, hb11⟩ := hb1
          obtain ⟨hb20, hb21⟩ := hb2
          clear hst hx hyy hrest hz hy hdz hdy
          go_wp2_with (at_builtin; refine app1 rfl (.tmp 44) (.tmp 47) 62 rfl w.heap.size 3 Tryd.underlying62 Tryd.info3 (by decide) _ _ rfl rfl hown (by omega) hsz ?_; intro a1 n1 c1 w1 hown1 hb1 hs1)
          have hnx2 := hnx.trans hb1
          go_roundw
          case rel => exact ⟨k + 1, (c + x + y) / 65536, out ++ [(c + x + y) % 65536], rfl, by go_num, by omega, by omega, by omega, by omega, by simp; omega, HS, hown1, hnx2⟩
          case measure => simp [intOf]; omega
        · obtain ⟨b, off, rfl, g1⟩ := row_cell hz hnx h1
          obtain ⟨x, hx⟩ : ∃ x, x = zs.getD k 0 := ⟨_, rfl⟩
          obtain ⟨y, hyy⟩ : ∃ y, y = ys.getD k 0 := ⟨_, rfl⟩
          have hy0 : y = 0 := by rw [hyy]; exact getD_out h2
          rw [← hx] at hb1 g1
          rw [← hyy] at hb2
          have hst := add_step (B := 65536) (by decide) (s := c + x) hcond hc0 hc1 (by rw [← hx, ← hyy]; omega)
          have HS : Hid (carryL 65536 (sumsL zs ys) 0 = (out ++ [(c + x) % 65536]) ++ carryL 65536 (sumsL (zs.drop (k + 1)) (ys.drop (k + 1))) ((c + x) / 65536)) := by unfold Hid; rw [hrest.out, hst]; simp
          have hsm0 : 0 ≤ c + x := by omega
          have hsm1 : c + x ≤ 131071 := by omega
          obtain ⟨hb10, hb11⟩ := hb1
          obtain ⟨hb20, hb21⟩ := hb2
          clear hst hx hyy hrest hz hy hdz hdy hy0
          go_wp2_with (at_builtin; refine app1 rfl (.tmp 44) (.tmp 47) 62 rfl w.heap.size 3 Tryd.underlying62 Tryd.info3 (by decide) _ _ rfl rfl hown (by omega) hsz ?_; intro a1 n1 c1 w1 hown1 hb1 hs1)
          have hnx2 := hnx.trans hb1
          go_roundw
          case rel => exact ⟨k + 1, (c + x) / 65536, out ++ [(c + x) % 65536], rfl, by go_num, by omega, by omega, by omega, by omega, by simp; omega, HS, hown1, hnx2⟩
          case measure => simp [intOf]; omega
      · by_cases h2 : k < ys.length
        · obtain ⟨b', off', rfl, g2⟩ := row_cell hy hnx h2
          obtain ⟨x, hx⟩ : ∃ x, x = zs.getD k 0 := ⟨_, rfl⟩
          obtain ⟨y, hyy⟩ : ∃ y, y = ys.getD k 0 := ⟨_, rfl⟩
          have hx0 : x = 0 := by rw [hx]; exact getD_out h1
          rw [← hx] at hb1
          rw [← hyy] at hb2 g2
          have hst := add_step (B := 65536) (by decide) (s := c + y) hcond hc0 hc1 (by rw [← hx, ← hyy]; omega)
          have HS : Hid (carryL 65536 (sumsL zs ys) 0 = (out ++ [(c + y) % 65536]) ++ carryL 65536 (sumsL (zs.drop (k + 1)) (ys.drop (k + 1))) ((c + y) / 65536)) := by unfold Hid; rw [hrest.out, hst]; simp
          have hsm0 : 0 ≤ c + y := by omega
          have hsm1 : c + y ≤ 131071 := by omega
          obtain ⟨hb10, hb11⟩ := hb1
          obtain ⟨hb20, hb21⟩ := hb2
          clear hst hx hyy hrest hz hy hdz hdy hx0
          go_wp2_with (at_builtin; refine app1 rfl (.tmp 44) (.tmp 47) 62 rfl w.heap.size 3 Tryd.underlying62 Tryd.info3 (by decide) _ _ rfl rfl hown (by omega) hsz ?_; intro a1 n1 c1 w1 hown1 hb1 hs1)
          have hnx2 := hnx.trans hb1
          go_roundw
          case rel => exact ⟨k + 1, (c + y) / 65536, out ++ [(c + y) % 65536], rfl, by go_num, by omega, by omega, by omega, by omega, by simp; omega, HS, hown1, hnx2⟩
          case measure => simp [intOf]; omega
        · have h3 : 0 < c := by omega
          obtain ⟨x, hx⟩ : ∃ x, x = zs.getD k 0 := ⟨_, rfl⟩
          obtain ⟨y, hyy⟩ : ∃ y, y = ys.getD k 0 := ⟨_, rfl⟩
          have hx0 : x = 0 := by rw [hx]; exact getD_out h1
          have hy0 : y = 0 := by rw [hyy]; exact getD_out h2
          rw [← hx] at hb1
          rw [← hyy] at hb2
          have hst := add_step (B := 65536) (by decide) (s := c) hcond hc0 hc1 (by rw [← hx, ← hyy]; omega)
          have HS : Hid (carryL 65536 (sumsL zs ys) 0 = (out ++ [(c) % 65536]) ++ carryL 65536 (sumsL (zs.drop (k + 1)) (ys.drop (k + 1))) ((c) / 65536)) := by unfold Hid; rw [hrest.out, hst]; simp
          have hsm0 : 0 ≤ c := by omega
          have hsm1 : c ≤ 131071 := by omega
          obtain ⟨hb10, hb11⟩ := hb1
          obtain ⟨hb20, hb21⟩ := hb2
          clear hst hx hyy hrest hz hy hdz hdy hx0 hy0
          go_wp2_with (at_builtin; refine app1 rfl (.tmp 44) (.tmp 47) 62 rfl w.heap.size 3 Tryd.underlying62 Tryd.info3 (by decide) _ _ rfl rfl hown (by omega) hsz ?_; intro a1 n1 c1 w1 hown1 hb1 hs1)
          have hnx2 := hnx.trans hb1
          go_roundw
          case rel => exact ⟨k + 1, (c) / 65536, out ++ [(c) % 65536], rfl, by go_num, by omega, by omega, by omega, by omega, by simp; omega, HS, hown1, hnx2⟩
          case measure => simp [intOf]; omega

end Go.Proofs.YtladfpljnaippabDoor
