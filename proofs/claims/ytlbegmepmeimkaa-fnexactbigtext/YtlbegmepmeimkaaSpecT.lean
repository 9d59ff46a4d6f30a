/-
  The model's tenth of a number.
-/
import Derived.Test.YtlbegmepmeimkaaSpecD
import Derived.Test.YtlbegmepmeimkaaNumT
import Derived.Test.YtlbegmepmeimkaaImplB
namespace Go.Proofs.Ytlbegmepmeimkaa
open Go.RowKit

set_option maxHeartbeats 2000000 in
theorem tenth_any (a : Option Addr) (c : Nat) (ds : List Int) (w : World) (hn : ds.length ≤ 1048576) (hz : RowAt .i64 w a ds) (hd : Dig 65536 ds) :
    Calls Try.prog 40 #[.slice a ds.length c] w fun e w' => ∃ (a' : Option Addr) (c' : Nat) (qs : List Int), qs = trimL (divL 65536 10 ds).1 ∧ e = .returned (.tuple #[.slice a' qs.length c', .int .i64 (val 65536 ds % 10)]) ∧ RowNew .i64 w' w.heap.size a' qs ∧ Below w.heap.size w w' := by
  have hmk := run_make_row' (P := Try.prog) 50 3 (.int .i64 0) 8 Try.underlying50 Try.info3 rfl .i64 .i64 ds.length (by omega) (by omega)
  go_enter Try.func40, Try.ntmps40
  go_wp2
  go_loopw [5, 6, 7] (fun r i _ wr => ∃ k : Nat, k ≤ ds.length ∧ i = .int .i64 ((k : Int) - 1) ∧ r = .int .i64 (divL 65536 10 (ds.drop k)).2 ∧ Own .i64 wr w.heap.size 0 (List.replicate k 0 ++ (divL 65536 10 (ds.drop k)).1) ∧ Below w.heap.size w wr) (fun _ i _ _ => (intOf i + 1).toNat)
  case atStart => exact ⟨ds.length, Nat.le_refl _, rfl, by simp [divL], by simpa [divL] using Own.made w ds.length _, bel0 _ _⟩
  case round =>
    obtain ⟨k, hk, rfl, rfl, hown, hnx⟩ := hrel
    have hr := divL_rest (B := 65536) (q := 10) (by decide) (ds.drop k)
    by_cases hlt : 0 < k
    · obtain ⟨j, rfl⟩ : ∃ j, k = j + 1 := ⟨k - 1, by omega⟩
      have hst := divL_step (B := 65536) (q := 10) (ds := ds) (k := j) (by omega)
      obtain ⟨x, hx⟩ : ∃ x, x = ds.getD j 0 := ⟨_, rfl⟩
      have hb := hd.at (by decide) j
      rw [← hx] at hst hb
      obtain ⟨b, off, rfl, g1⟩ := row_cell hz hnx (show j < ds.length by omega)
      rw [← hx] at g1
      obtain ⟨r, hrr⟩ : ∃ r, r = (divL 65536 10 (ds.drop (j + 1))).2 := ⟨_, rfl⟩
      obtain ⟨qs, hqs⟩ : ∃ qs, qs = (divL 65536 10 (ds.drop (j + 1))).1 := ⟨_, rfl⟩
      rw [← hrr] at hst hr ⊢
      rw [← hqs] at hst hown
      obtain ⟨hr0, hr1⟩ := hr
      obtain ⟨hb0, hb1⟩ := hb
      have g2 := hown.cell j (by simp; omega)
      have g3 := hown.free j (by simp; omega)
      have hs := hown.set j ((r * 65536 + x) / 10) (by simp; omega)
      rw [set_down (by simp), List.take_replicate, show min j (j + 1) = j by omega] at hs
      have hbe := hnx.setCell (p := ⟨w.heap.size, 0 + j, none⟩) (Nat.le_refl _) (.int .i64 ((r * 65536 + x) / 10))
      rw [Nat.zero_add] at g2 g3 hs hbe
      have HS : Hid (Own .i64 (wr.setCell ⟨w.heap.size, j, none⟩ (.int .i64 ((r * 65536 + x) / 10))) w.heap.size 0 (List.replicate j 0 ++ (divL 65536 10 (ds.drop j)).1)) := by unfold Hid; rw [hst]; exact hs
      have HR : Hid ((divL 65536 10 (ds.drop j)).2 = (r * 65536 + x) % 10) := by unfold Hid; rw [hst]
      have HB : Hid (Below w.heap.size w (wr.setCell ⟨w.heap.size, j, none⟩ (.int .i64 ((r * 65536 + x) / 10)))) := hbe
      have ej : ((j + 1 : Nat) : Int) - 1 = j := by omega
      rw [ej]
      clear hs hbe hst hown hnx hz hrr hqs hx
      go_wp2
      go_roundw
      case rel => exact ⟨j, by omega, by go_num, by rw [HR.out], by simpa using HS.out, by simpa using HB.out⟩
      case measure => simp [intOf]
    · have e : k = 0 := by omega
      subst e
      have hv := (divL_ediv (B := 65536) (q := 10) (by decide) ds).2
      rw [List.drop_zero] at hown ⊢
      rw [hv]
      have hq : Own .i64 wr w.heap.size 0 (divL 65536 10 ds).1 := by simpa using hown
      have hle := divL_length 65536 10 ds
      obtain ⟨qs, hqs⟩ : ∃ qs, qs = (divL 65536 10 ds).1 := ⟨_, rfl⟩
      have HQ : Hid ((divL 65536 10 ds).1 = qs) := hqs.symm
      rw [← hqs] at hq hle
      have hrn := hq.new (Nat.le_refl _)
      have hsl : Sl .i64 wr (some ⟨w.heap.size, 0, none⟩) qs.length qs := ⟨Nat.le_refl _, (fun h => by cases h), hrn.row⟩
      have HN : Hid (RowNew .i64 wr w.heap.size (some ⟨w.heap.size, 0, none⟩) qs) := hrn
      obtain ⟨r, hr2⟩ : ∃ r, r = val 65536 ds % 10 := ⟨_, rfl⟩
      rw [← hr2, ← hle]
      have HR : Hid (val 65536 ds % 10 = r) := hr2.symm
      have hql : qs.length ≤ 1048576 := by omega
      clear hown hq hrn hr hv hz hqs hr2 hle hmk
      go_wp2_with fail
      refine (trim_any (some ⟨w.heap.size, 0, none⟩) qs.length qs wr (by omega) (by unfold maxLen; omega) hsl).mono ?_
      rintro e w2 ⟨rfl, ht, rfl⟩
      have HT : Hid (RowNew .i64 w2 w.heap.size (some ⟨w.heap.size, 0, none⟩) (trimL qs)) := by unfold Hid; rw [ht]; exact HN.out.take _
      clear ht HN hsl
      go_wp2
      refine bodyPost_ret (v := .tuple #[.slice (some ⟨w.heap.size, 0, none⟩) (trimL qs).length qs.length, .int .i64 r]) (by simp [results, Try.results40, go_sem]) rfl ?_
      rw [HQ.out, HR.out]
      exact ⟨_, _, _, rfl, rfl, HT.out, hnx⟩

end Go.Proofs.Ytlbegmepmeimkaa
