/-
  The model's differences of magnitudes.
-/
import Derived.Test.YtladfpljnaippabDoorSpecD
namespace Go.Proofs.YtladfpljnaippabDoor
open Go.RowKit

set_option maxHeartbeats 4000000 in
theorem subMag_any (a a' : Option Addr) (p p' : Nat) (zs ys : List Int) (w : World) (hn : zs.length ≤ 200000) (_hn' : ys.length ≤ 200000) (hz : RowAt .i64 w a zs) (hy : RowAt .i64 w a' ys) (hdz : Dig 65536 zs) (hdy : Dig 65536 ys) :
    Calls Tryd.prog 98 #[.slice a zs.length p, .slice a' ys.length p'] w fun e w' => ∃ a2 c2, e = .returned (.slice a2 (carryD 65536 (diffsL zs ys) 0).length c2) ∧ c2 ≤ maxLen ∧ Sl .i64 w' a2 c2 (carryD 65536 (diffsL zs ys) 0) ∧ RowNew .i64 w' w.heap.size a2 (carryD 65536 (diffsL zs ys) 0) ∧ Below w.heap.size w w' := by
  go_enter Tryd.func98, Tryd.ntmps98
  go_wp2
  go_loopw [5, 6, 7, 8] (fun v cc i _ wr => ∃ (k : Nat) (c : Int) (out : List Int), cc = .int .i64 c ∧ i = .int .i64 k ∧ 0 ≤ c ∧ c ≤ 1 ∧ k ≤ zs.length ∧ out.length = k ∧ Hid (carryD 65536 (diffsL zs ys) 0 = out ++ carryD 65536 (diffsL (zs.drop k) (ys.drop k)) (-c)) ∧
      wr.ownsRow w.heap.size 3 1 v out.length (vals .i64 out) ∧ Below w.heap.size w wr) (fun _ _ i _ _ => zs.length - (intOf i).toNat)
  case atStart => exact ⟨0, 0, [], rfl, rfl, by decide, by decide, Nat.zero_le _, rfl, rfl, own_nil _ _ _ _, Below.refl _ _⟩
  case round =>
    obtain ⟨k, c, out, rfl, rfl, hc0, hc1, hk, hol, hrest, hown, hnx⟩ := hrel
    have hsz := hnx.size
    have hb1 := hdz.at (by decide) k
    have hb2 := hdy.at (by decide) k
    have hlo : out.length ≤ 400001 := by omega
    by_cases h1 : k < zs.length
    · obtain ⟨b, off, rfl, g1⟩ := row_cell hz hnx h1
      obtain ⟨x, hx⟩ : ∃ x, x = zs.getD k 0 := ⟨_, rfl⟩
      obtain ⟨y, hyy⟩ : ∃ y, y = ys.getD k 0 := ⟨_, rfl⟩
      rw [← hx] at hb1 g1
      rw [← hyy] at hb2
      obtain ⟨hb10, hb11⟩ := hb1
      obtain ⟨hb20, hb21⟩ := hb2
      by_cases h2 : k < ys.length
      · obtain ⟨b', off', rfl, g2⟩ := row_cell hy hnx h2
        rw [← hyy] at g2
        by_cases hv : x - c - y < 0
        · have hst := sub_step (B := 65536) (xs := zs) (ys := ys) (s := x - c - y) (c := -c) h1 (by rw [← hx, ← hyy]; omega)
          rw [show (x - c - y) % 65536 = x - c - y + 65536 by omega, show (x - c - y) / 65536 = -1 by omega] at hst
          have HS : Hid (carryD 65536 (diffsL zs ys) 0 = (out ++ [x - c - y + 65536]) ++ carryD 65536 (diffsL (zs.drop (k + 1)) (ys.drop (k + 1))) (-1)) := by unfold Hid; rw [hrest.out, hst]; simp
          clear hst hx hyy hrest hz hy hdz hdy
          go_wp2_with (at_builtin; refine app1 rfl (.tmp 35) (.tmp 37) 62 rfl w.heap.size 3 Tryd.underlying62 Tryd.info3 (by decide) _ _ rfl rfl hown (by omega) hsz ?_; intro a1 n1 c1 w1 hown1 hb1 hs1)
          have hnx2 := hnx.trans hb1
          go_roundw
          case rel => exact ⟨k + 1, 1, out ++ [x - c - y + 65536], rfl, by go_num, by decide, by decide, by omega, by simp; omega, HS, hown1, hnx2⟩
          case measure => simp [intOf]; omega
        · have hst := sub_step (B := 65536) (xs := zs) (ys := ys) (s := x - c - y) (c := -c) h1 (by rw [← hx, ← hyy]; omega)
          rw [show (x - c - y) % 65536 = x - c - y by omega, show (x - c - y) / 65536 = -0 by omega] at hst
          have HS : Hid (carryD 65536 (diffsL zs ys) 0 = (out ++ [x - c - y]) ++ carryD 65536 (diffsL (zs.drop (k + 1)) (ys.drop (k + 1))) (-0)) := by unfold Hid; rw [hrest.out, hst]; simp
          clear hst hx hyy hrest hz hy hdz hdy
          go_wp2_with (at_builtin; refine app1 rfl (.tmp 35) (.tmp 37) 62 rfl w.heap.size 3 Tryd.underlying62 Tryd.info3 (by decide) _ _ rfl rfl hown (by omega) hsz ?_; intro a1 n1 c1 w1 hown1 hb1 hs1)
          have hnx2 := hnx.trans hb1
          go_roundw
          case rel => exact ⟨k + 1, 0, out ++ [x - c - y], rfl, by go_num, by decide, by decide, by omega, by simp; omega, HS, hown1, hnx2⟩
          case measure => simp [intOf]; omega
      · have hy0 : y = 0 := by rw [hyy]; exact getD_out h2
        by_cases hv : x - c < 0
        · have hst := sub_step (B := 65536) (xs := zs) (ys := ys) (s := x - c) (c := -c) h1 (by rw [← hx, ← hyy]; omega)
          rw [show (x - c) % 65536 = x - c + 65536 by omega, show (x - c) / 65536 = -1 by omega] at hst
          have HS : Hid (carryD 65536 (diffsL zs ys) 0 = (out ++ [x - c + 65536]) ++ carryD 65536 (diffsL (zs.drop (k + 1)) (ys.drop (k + 1))) (-1)) := by unfold Hid; rw [hrest.out, hst]; simp
          clear hst hx hyy hrest hz hy hdz hdy hy0
          go_wp2_with (at_builtin; refine app1 rfl (.tmp 35) (.tmp 37) 62 rfl w.heap.size 3 Tryd.underlying62 Tryd.info3 (by decide) _ _ rfl rfl hown (by omega) hsz ?_; intro a1 n1 c1 w1 hown1 hb1 hs1)
          have hnx2 := hnx.trans hb1
          go_roundw
          case rel => exact ⟨k + 1, 1, out ++ [x - c + 65536], rfl, by go_num, by decide, by decide, by omega, by simp; omega, HS, hown1, hnx2⟩
          case measure => simp [intOf]; omega
        · have hst := sub_step (B := 65536) (xs := zs) (ys := ys) (s := x - c) (c := -c) h1 (by rw [← hx, ← hyy]; omega)
          rw [show (x - c) % 65536 = x - c by omega, show (x - c) / 65536 = -0 by omega] at hst
          have HS : Hid (carryD 65536 (diffsL zs ys) 0 = (out ++ [x - c]) ++ carryD 65536 (diffsL (zs.drop (k + 1)) (ys.drop (k + 1))) (-0)) := by unfold Hid; rw [hrest.out, hst]; simp
          clear hst hx hyy hrest hz hy hdz hdy hy0
          go_wp2_with (at_builtin; refine app1 rfl (.tmp 35) (.tmp 37) 62 rfl w.heap.size 3 Tryd.underlying62 Tryd.info3 (by decide) _ _ rfl rfl hown (by omega) hsz ?_; intro a1 n1 c1 w1 hown1 hb1 hs1)
          have hnx2 := hnx.trans hb1
          go_roundw
          case rel => exact ⟨k + 1, 0, out ++ [x - c], rfl, by go_num, by decide, by decide, by omega, by simp; omega, HS, hown1, hnx2⟩
          case measure => simp [intOf]; omega
    · have hkn : k = zs.length := by omega
      subst hkn
      have hfin : carryD 65536 (diffsL zs ys) 0 = out := by
        rw [hrest.out, List.drop_eq_nil_of_le (Nat.le_refl _)]; simp [diffsL, carryD]
      have HF : Hid (carryD 65536 (diffsL zs ys) 0 = out) := hfin
      obtain ⟨a2, c2, rfl, hcm, hsl, hrn⟩ := own_row hown
      clear hfin hown hrest hb1 hb2 hdz hdy hz hy hol
      go_wp2
      go_ret
      rw [HF.out]
      exact ⟨a2, c2, rfl, hcm, hsl, hrn, hnx⟩

end Go.Proofs.YtladfpljnaippabDoor
