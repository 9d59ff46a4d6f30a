/-
  The program's magnitudes divided in place.
-/
import Derived.Test.YtlbegmepmeimkabImplB
import Derived.Test.YtlbegmepmeimkabNumT
import Derived.Test.YtlbegmepmeimkabMarks
import Derived.Laws.Bits64b
namespace Go.Proofs.Ytlbegmepmeimkab
open Go.RowKit

/-- A number below 2^32 laid behind another. -/
theorem or_low {r x : Int} (hr0 : 0 ≤ r) (hr1 : r < 4294967296) (hx0 : 0 ≤ x) (hx1 : x < 4294967296) : bits .or .u64 (r * 4294967296) x = r * 4294967296 + x := by
  obtain ⟨a, rfl⟩ := Int.eq_ofNat_of_zero_le hr0
  obtain ⟨b, rfl⟩ := Int.eq_ofNat_of_zero_le hx0
  have h := bits_or_u64_nat (4294967296 * a) b (by omega) (by omega)
  have h2 := Nat.two_pow_add_eq_or_of_lt (i := 32) (b := b) (by omega) a
  rw [show (a : Int) * 4294967296 = ((4294967296 * a : Nat) : Int) by omega, h]
  have h3 : (4294967296 * a ||| b : Nat) = 4294967296 * a + b := h2.symm
  rw [h3]
  omega

set_option maxHeartbeats 2000000 in
theorem divide_any (b off c : Nat) (ds : List Int) (w : World) (hn : ds.length ≤ 1048576) (hz : Own .u32 w b off ds) (hd : Dig 4294967296 ds) :
    Calls Try.prog 84 #[.slice (some ⟨b, off, none⟩) ds.length c, .int .u32 1000000000] w fun e w' => e = .returned (.int .u32 (val 4294967296 ds % 1000000000)) ∧ Own .u32 w' b off (divL 4294967296 1000000000 ds).1 ∧ Within b (b + 1) w w' := by
  go_enter Try.func84, Try.ntmps84
  go_wp2
  go_loopw [5, 6] (fun r i wr => ∃ k : Nat, k ≤ ds.length ∧ i = .int .i64 ((k : Int) - 1) ∧ r = .int .u64 (divL 4294967296 1000000000 (ds.drop k)).2 ∧ Own .u32 wr b off (ds.take k ++ (divL 4294967296 1000000000 (ds.drop k)).1) ∧ Within b (b + 1) w wr) (fun _ i _ => (intOf i + 1).toNat)
  case atStart => exact ⟨ds.length, Nat.le_refl _, rfl, by simp [divL], by simpa [divL] using hz, Within.refl _ _ _⟩
  case round =>
    obtain ⟨k, hk, rfl, rfl, hown, hnx⟩ := hrel
    have hr := divL_rest (B := 4294967296) (q := 1000000000) (by decide) (ds.drop k)
    by_cases hlt : 0 < k
    · obtain ⟨j, rfl⟩ : ∃ j, k = j + 1 := ⟨k - 1, by omega⟩
      have hst := divL_step (B := 4294967296) (q := 1000000000) (ds := ds) (k := j) (by omega)
      obtain ⟨x, hx⟩ : ∃ x, x = ds.getD j 0 := ⟨_, rfl⟩
      have hb := hd.at (by decide) j
      rw [← hx] at hst hb
      obtain ⟨r, hrr⟩ : ∃ r, r = (divL 4294967296 1000000000 (ds.drop (j + 1))).2 := ⟨_, rfl⟩
      obtain ⟨qs, hqs⟩ : ∃ qs, qs = (divL 4294967296 1000000000 (ds.drop (j + 1))).1 := ⟨_, rfl⟩
      rw [← hrr] at hst hr ⊢
      rw [← hqs] at hst hown
      obtain ⟨hr0, hr1⟩ := hr
      obtain ⟨hb0, hb1⟩ := hb
      have g2 := hown.cell j (by simp; omega)
      have g3 := hown.free j (by simp; omega)
      have hxe : (ds.take (j + 1) ++ qs).getD j 0 = x := by
        rw [hx, List.getD_eq_getElem?_getD, List.getD_eq_getElem?_getD, List.getElem?_append_left (by simp; omega), List.getElem?_take_of_lt (by omega)]
      rw [hxe] at g2
      have hs := hown.set j ((r * 4294967296 + x) / 1000000000) (by simp; omega)
      rw [set_down (by simp; omega), List.take_take, show min j (j + 1) = j by omega] at hs
      have hbe := hnx.setCell (p := ⟨b, off + j, none⟩) (Nat.le_refl _) (Nat.lt_succ_self _) (.int .u32 ((r * 4294967296 + x) / 1000000000))
      have HS : Hid (Own .u32 (wr.setCell ⟨b, off + j, none⟩ (.int .u32 ((r * 4294967296 + x) / 1000000000))) b off (ds.take j ++ (divL 4294967296 1000000000 (ds.drop j)).1)) := by unfold Hid; rw [hst]; exact hs
      have HR : Hid ((divL 4294967296 1000000000 (ds.drop j)).2 = (r * 4294967296 + x) % 1000000000) := by unfold Hid; rw [hst]
      have HB : Hid (Within b (b + 1) w (wr.setCell ⟨b, off + j, none⟩ (.int .u32 ((r * 4294967296 + x) / 1000000000)))) := hbe
      have ej : ((j + 1 : Nat) : Int) - 1 = j := by omega
      rw [ej]
      have hor := or_low hr0 (by omega) hb0 hb1
      clear hs hbe hst hown hnx hz hrr hqs hx hxe
      go_wp2
      go_roundw
      case rel => exact ⟨j, by omega, by go_num, by rw [HR.out], by simpa using HS.out, by simpa using HB.out⟩
      case measure => simp [intOf]
    · have e : k = 0 := by omega
      subst e
      have hv := (divL_ediv (B := 4294967296) (q := 1000000000) (by decide) ds).2
      rw [List.drop_zero] at hown hr ⊢
      rw [hv] at hr ⊢
      have hq : Own .u32 wr b off (divL 4294967296 1000000000 ds).1 := by simpa using hown
      obtain ⟨r, hr2⟩ : ∃ r, r = val 4294967296 ds % 1000000000 := ⟨_, rfl⟩
      rw [← hr2] at hr ⊢
      have HR : Hid (val 4294967296 ds % 1000000000 = r) := hr2.symm
      have HQ : Hid (Own .u32 wr b off (divL 4294967296 1000000000 ds).1) := hq
      obtain ⟨hr0, hr1⟩ := hr
      clear hown hv hr2 hq hz
      go_wp2
      go_ret
      rw [HR.out]
      exact ⟨rfl, HQ.out, hnx⟩

end Go.Proofs.Ytlbegmepmeimkab
