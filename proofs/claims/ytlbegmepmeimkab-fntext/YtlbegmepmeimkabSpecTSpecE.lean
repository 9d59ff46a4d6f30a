/-
  The model's tenth of a number.
-/
import Derived.Test.YtlbegmepmeimkabSpecD
import Derived.Test.YtlbegmepmeimkabNumT
import Derived.Test.YtlbegmepmeimkabImplB
namespace Go.Proofs.Ytlbegmepmeimkab
open Go.RowKit

set_option maxHeartbeats 2000000 in
theorem tenth_any (a : Option Addr) (c : Nat) (ds : List Int) (w : World) (hn : ds.length ≤ 1048576) (hz : RowAt .i64 w a ds) (hd : Dig 65536 ds) :
    Calls Try.prog 72 #[.slice a ds.length c] w fun e w' => ∃ (a' : Option Addr) (c' : Nat) (qs : List Int), qs = trimL (divL 65536 10 ds).1 ∧ e = .returned (.tuple #[.slice a' qs.length c', .int .i64 (val 65536 ds % 10)]) ∧ RowNew .i64 w' w.heap.size a' qs ∧ Below w.heap.size w w' := by
  have hmk := run_make_row' (P := Try.prog) 53 3 (.int .i64 0) 8 Try.underlying53 Try.info3 rfl .i64 .i64 ds.length (by omega) (by omega)
  go_enter Try.func72, Try.ntmps72
  go_wp2
  go_loopw [5, 6, 7] (fun r i _ wr => ∃ k : Nat, k ≤ ds.length ∧ i = .int .i64 ((k : Int) - 1) ∧ r = .int .i64 (divL 65536 10 (ds.drop k)).2 ∧ Own .i64 wr w.heap.size 0 (List.replicate k 0 ++ (divL 65536 10 (ds.drop k)).1) ∧ Below w.heap.size w wr) (fun _ i _ _ => (intOf i + 1).toNat)
  case atStart => exact ⟨ds.length, Nat.le_refl _, rfl, by simp [divL], by simpa [divL] using Own.made w ds.length _, bel0 _ _⟩
  case round =>
    obtain ⟨k, hk, rfl, rfl, hown, hnx⟩ := hrel
    have hr := divL_rest (B := 65536) (q := 10) (by decide) (ds.drop k)
    by_cases hlt : 0 < k
    · obtain ⟨j, rfl⟩ : ∃ j, k = j + 1 := ⟨k - 1, by omega⟩
      have hst := divL_step (B := 65536) (q := 10) (ds := ds) (k := j) (by omega)
      obtain ⟨x, hx⟩ : ∃ x, x = ds.getD j 0 := ⟨_, rfl⟩
      have hb := hd.at (by decide) j
      rw [← hx] at hst hb
      obtain ⟨b, off, rfl, g1⟩ := row_cell hz hnx (show j < ds.length by omega)
      rw [← hx] at g1
      obtain ⟨r, hrr⟩ : ∃ r, r = (divL 65536 10 (ds.drop (j + 1))).2 := ⟨_, rfl⟩
      obtain ⟨qs, hqs⟩ : ∃ qs, qs = (divL 65536 10 (ds.drop (j + 1))).1 := ⟨_, rfl⟩
      rw [← hrr] at hst hr ⊢
      rw [← hqs] at hst hown
      obtain ⟨hr0, hr1⟩ := hr
      obtain ⟨hb0, hb1⟩ := hb
      have g2 := hown.cell j (by simp; omega)
      have g3 := hown.free j (by simp; omega)
      have hs := hown.set j ((r * 65536 + x) / 10) (by simp; omega)
      rw [set_down (by simp), List.take_replicate, show min j (j + 1) = j by omega] at hs
      have hbe := hnx.setCell (p := ⟨w.heap.size, 0 + j, none⟩) (Nat.le_refl _) (.int .i64 ((r * 65536 + x) / 10))
      rw [Nat.zero_add] at g2 g3 hs hbe
      have HS : Hid (Own .i64 (wr.setCell ⟨w.heap.size, j, none⟩ (.int .i64 ((r * 65536 + x) / 10))) w.heap.size 0 (List.replicate j 0 ++ (divL 65536 10 (ds.drop j)).1)) := by unfold Hid; rw [hst]; exact hs
      have HR : Hid ((divL 65536 10 (ds.drop j)).2 = (r * 65536 + x) % 10) := by unfold Hid; rw [hst]
      have HB : Hid (Below w.heap.size w (wr.setCell ⟨w.heap.size, j, none⟩ (.int .i64 ((r * 65536 + x) / 10)))) := hbe
      have ej : ((j + 1 : Nat) : Int) - 1 = j := by omega
      rw [ej]
      clear hs hbe hst hown hnx hz hrr hqs hx
      go_wp2
      go_roundw
      case rel => exact ⟨j, by omega, by go_num, by rw [HR.out], by simpa using HS.out, by simpa using HB.out⟩
      case measure => simp [intOf]
    · have e : k = 0 := by omega
      subst e
      have hv := (divL_ediv (B := 65536) (q := 10) (by decide) ds).2
      rw [List.drop_zero] at hown ⊢
      rw [hv]
      have hq : Own .i64 wr w.heap.size 0 (divL 65536 10 ds).1 := by simpa using hown
      have hle := divL_length 65536 10 ds
      obtain ⟨qs, hqs⟩ : ∃ qs, qs = (divL 65536 10 ds).1 := ⟨_, rfl⟩
      have HQ : Hid ((divL 65536 10 ds).1 = qs) := hqs.symm
      rw [← hqs] at hq hle
      have hrn := hq.new (Nat.le_refl _)
      have hsl : Sl .i64 wr (some ⟨w.heap.size, 0, none⟩) qs.length qs := ⟨Nat.le_refl _, (fun h => by cases h), hrn.row⟩
      have HN : Hid (RowNew .i64 wr w.heap.size (some ⟨w.heap.size, 0, none⟩) qs) := hrn
      obtain ⟨r, hr2⟩ : ∃ r, r = val 65536 ds % 10 := ⟨_, rfl⟩
      rw [← hr2, ← hle]
      have HR : Hid (val 65536 ds % 10 = r) := hr2.symm
      have hql : qs.length ≤ 1048576 := by omega
      clear hown hq hrn hr hv hz hqs hr2 hle hmk
      go_wp2_with fail
      refine (trim_any (some ⟨w.heap.size, 0, none⟩) qs.length qs wr (by omega) (by unfold maxLen; omega) hsl).mono ?_
      rintro e w2 ⟨rfl, ht, rfl⟩
      have HT : Hid (RowNew .i64 w2 w.heap.size (some ⟨w.heap.size, 0, none⟩) (trimL qs)) := by unfold Hid; rw [ht]; exact HN.out.take _
      clear ht HN hsl
      go_wp2
      refine bodyPost_ret (v := .tuple #[.slice (some ⟨w.heap.size, 0, none⟩) (trimL qs).length qs.length, .int .i64 r]) (by simp [results, Try.results72, go_sem]) rfl ?_
      rw [HQ.out, HR.out]
      exact ⟨_, _, _, rfl, rfl, HT.out, hnx⟩

end Go.Proofs.Ytlbegmepmeimkab

/-
  The model's differences of magnitudes.
-/
namespace Go.Proofs.Ytlbegmepmeimkab
open Go.RowKit

set_option maxHeartbeats 4000000 in
theorem subMag_any (a a' : Option Addr) (p p' : Nat) (zs ys : List Int) (w : World) (hn : zs.length ≤ 200000) (_hn' : ys.length ≤ 200000) (hz : RowAt .i64 w a zs) (hy : RowAt .i64 w a' ys) (hdz : Dig 65536 zs) (hdy : Dig 65536 ys) :
    Calls Try.prog 75 #[.slice a zs.length p, .slice a' ys.length p'] w fun e w' => ∃ a2 c2, e = .returned (.slice a2 (carryD 65536 (diffsL zs ys) 0).length c2) ∧ c2 ≤ maxLen ∧ Sl .i64 w' a2 c2 (carryD 65536 (diffsL zs ys) 0) ∧ RowNew .i64 w' w.heap.size a2 (carryD 65536 (diffsL zs ys) 0) ∧ Below w.heap.size w w' := by
  go_enter Try.func75, Try.ntmps75
  go_wp2
  go_loopw [5, 6, 7, 8] (fun v cc i _ wr => ∃ (k : Nat) (c : Int) (out : List Int), cc = .int .i64 c ∧ i = .int .i64 k ∧ 0 ≤ c ∧ c ≤ 1 ∧ k ≤ zs.length ∧ out.length = k ∧ Hid (carryD 65536 (diffsL zs ys) 0 = out ++ carryD 65536 (diffsL (zs.drop k) (ys.drop k)) (-c)) ∧
      wr.ownsRow w.heap.size 3 1 v out.length (vals .i64 out) ∧ Below w.heap.size w wr) (fun _ _ i _ _ => zs.length - (intOf i).toNat)
  case atStart => exact ⟨0, 0, [], rfl, rfl, by decide, by decide, Nat.zero_le _, rfl, rfl, own_nil _ _ _ _, Below.refl _ _⟩
  case round =>
    obtain ⟨k, c, out, rfl, rfl, hc0, hc1, hk, hol, hrest, hown, hnx⟩ := hrel
    have hsz := hnx.size
    have hb1 := hdz.at (by decide) k
    have hb2 := hdy.at (by decide) k
    have hlo : out.length ≤ 400001 := by omega
    by_cases h1 : k < zs.length
    · obtain ⟨b, off, rfl, g1⟩ := row_cell hz hnx h1
      obtain ⟨x, hx⟩ : ∃ x, x = zs.getD k 0 := ⟨_, rfl⟩
      obtain ⟨y, hyy⟩ : ∃ y, y = ys.getD k 0 := ⟨_, rfl⟩
      rw [← hx] at hb1 g1
      rw [← hyy] at hb2
      obtain ⟨hb10, hb11⟩ := hb1
      obtain ⟨hb20, hb21⟩ := hb2
      by_cases h2 : k < ys.length
      · obtain ⟨b', off', rfl, g2⟩ := row_cell hy hnx h2
        rw [← hyy] at g2
        by_cases hv : x - c - y < 0
        · have hst := sub_step (B := 65536) (xs := zs) (ys := ys) (s := x - c - y) (c := -c) h1 (by rw [← hx, ← hyy]; omega)
          rw [show (x - c - y) % 65536 = x - c - y + 65536 by omega, show (x - c - y) / 65536 = -1 by omega] at hst
          have HS : Hid (carryD 65536 (diffsL zs ys) 0 = (out ++ [x - c - y + 65536]) ++ carryD 65536 (diffsL (zs.drop (k + 1)) (ys.drop (k + 1))) (-1)) := by unfold Hid; rw [hrest.out, hst]; simp
          clear hst hx hyy hrest hz hy hdz hdy
          go_wp2_with (at_builtin; refine app1 rfl (.tmp 35) (.tmp 37) 53 rfl w.heap.size 3 Try.underlying53 Try.info3 (by decide) _ _ rfl rfl hown (by omega) hsz ?_; intro a1 n1 c1 w1 hown1 hb1 hs1)
          have hnx2 := hnx.trans hb1
          go_roundw
          case rel => exact ⟨k + 1, 1, out ++ [x - c - y + 65536], rfl, by go_num, by decide, by decide, by omega, by simp; omega, HS, hown1, hnx2⟩
          case measure => simp [intOf]; omega
        · have hst := sub_step (B := 65536) (xs := zs) (ys := ys) (s := x - c - y) (c := -c) h1 (by rw [← hx, ← hyy]; omega)
          rw [show (x - c - y) % 65536 = x - c - y by omega, show (x - c - y) / 65536 = -0 by omega] at hst
          have HS : Hid (carryD 65536 (diffsL zs ys) 0 = (out ++ [x - c - y]) ++ carryD 65536 (diffsL (zs.drop (k + 1)) (ys.drop (k + 1))) (-0)) := by unfold Hid; rw [hrest.out, hst]; simp
          clear hst hx hyy hrest hz hy hdz hdy
          go_wp2_with (at_builtin; refine app1 rfl (.tmp 35) (.tmp 37) 53 rfl w.heap.size 3 Try.underlying53 Try.info3 (by decide) _ _ rfl rfl hown (by omega) hsz ?_; intro a1 n1 c1 w1 hown1 hb1 hs1)
          have hnx2 := hnx.trans hb1
          go_roundw
          case rel => exact ⟨k + 1, 0, out ++ [x - c - y], rfl, by go_num, by decide, by decide, by omega, by simp; omega, HS, hown1, hnx2⟩
          case measure => simp [intOf]; omega
      · have hy0 : y = 0 := by rw [hyy]; exact getD_out h2
        by_cases hv : x - c < 0
        · have hst := sub_step (B := 65536) (xs := zs) (ys := ys) (s := x - c) (c := -c) h1 (by rw [← hx, ← hyy]; omega)
          rw [show (x - c) % 65536 = x - c + 65536 by omega, show (x - c) / 65536 = -1 by omega] at hst
          have HS : Hid (carryD 65536 (diffsL zs ys) 0 = (out ++ [x - c + 65536]) ++ carryD 65536 (diffsL (zs.drop (k + 1)) (ys.drop (k + 1))) (-1)) := by unfold Hid; rw [hrest.out, hst]; simp
          clear hst hx hyy hrest hz hy hdz hdy hy0
          go_wp2_with (at_builtin; refine app1 rfl (.tmp 35) (.tmp 37) 53 rfl w.heap.size 3 Try.underlying53 Try.info3 (by decide) _ _ rfl rfl hown (by omega) hsz ?_; intro a1 n1 c1 w1 hown1 hb1 hs1)
          have hnx2 := hnx.trans hb1
          go_roundw
          case rel => exact ⟨k + 1, 1, out ++ [x - c + 65536], rfl, by go_num, by decide, by decide, by omega, by simp; omega, HS, hown1, hnx2⟩
          case measure => simp [intOf]; omega
        · have hst := sub_step (B := 65536) (xs := zs) (ys := ys) (s := x - c) (c := -c) h1 (by rw [← hx, ← hyy]; omega)
          rw [show (x - c) % 65536 = x - c by omega, show (x - c) / 65536 = -0 by omega] at hst
          have HS : Hid (carryD 65536 (diffsL zs ys) 0 = (out ++ [x - c]) ++ carryD 65536 (diffsL (zs.drop (k + 1)) (ys.drop (k + 1))) (-0)) := by unfold Hid; rw [hrest.out, hst]; simp
          clear hst hx hyy hrest hz hy hdz hdy hy0
          go_wp2_with (at_builtin; refine app1 rfl (.tmp 35) (.tmp 37) 53 rfl w.heap.size 3 Try.underlying53 Try.info3 (by decide) _ _ rfl rfl hown (by omega) hsz ?_; intro a1 n1 c1 w1 hown1 hb1 hs1)
          have hnx2 := hnx.trans hb1
          go_roundw
          case rel => exact ⟨k + 1, 0, out ++ [x - c], rfl, by go_num, by decide, by decide, by omega, by simp; omega, HS, hown1, hnx2⟩
          case measure => simp [intOf]; omega
    · have hkn : k = zs.length := by omega
      subst hkn
      have hfin : carryD 65536 (diffsL zs ys) 0 = out := by
        rw [hrest.out, List.drop_eq_nil_of_le (Nat.le_refl _)]; simp [diffsL, carryD]
      have HF : Hid (carryD 65536 (diffsL zs ys) 0 = out) := hfin
      obtain ⟨a2, c2, rfl, hcm, hsl, hrn⟩ := own_row hown
      clear hfin hown hrest hb1 hb2 hdz hdy hz hy hol
      go_wp2
      go_ret
      rw [HF.out]
      exact ⟨a2, c2, rfl, hcm, hsl, hrn, hnx⟩

end Go.Proofs.Ytlbegmepmeimkab
