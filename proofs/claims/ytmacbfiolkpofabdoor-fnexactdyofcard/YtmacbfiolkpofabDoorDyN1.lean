/-
  The program: the zeros below the lowest bit that is set.
-/
import Derived.Test.YtmacbfiolkpofabDoorTz
import Derived.Test.YtmacbfiolkpofabDoorNum
import Derived.Test.YtmacbfiolkpofabDoorSpecD
namespace Go.Proofs.YtmacbfiolkpofabDoor
open Go.RowKit

set_option maxHeartbeats 2000000 in
theorem lowZ_any (a : Option Addr) (c : Nat) (zs : List Int) (w : World) (hn : zs.length ≤ 100000) (hz : RowAt .u32 w a zs) (hcz : Canon 4294967296 zs) (hne : zs ≠ []) (hT : Tab w) :
    Calls Tryd.prog 34 #[.slice a zs.length c] w fun e w' => ∃ t : Nat, e = .returned (.int .i64 t) ∧ t ≤ 32 * zs.length ∧ Twos (val 4294967296 zs) t ∧ Below w.heap.size w w' := by
  have HP : Hid (0 < val 4294967296 zs) := val_pos (B := 4294967296) (by decide) hcz hne
  have HD : Hid (Dig 4294967296 zs) := hcz.1
  obtain ⟨b, off, rfl, hb, hc⟩ := hz.resolve_left hne
  have HC : Hid (∀ j, j < zs.length → w.cell? ⟨b, off + j, none⟩ = some (.int .u32 (zs.getD j 0))) := hc
  have HT : Hid (Tab w) := hT
  have hlen : zs.length ≠ 0 := fun e => hne (List.length_eq_zero_iff.1 e)
  clear hz hcz hne hc hT hb
  go_enter Tryd.func34, Tryd.ntmps34
  go_wp2
  go_loop [3, 4, 7] (fun _ _ i => ∃ j : Nat, j < zs.length ∧ i = .int .i64 j ∧ Hid (anyN (zs.take j) = false)) (fun _ _ i => zs.length - (intOf i).toNat)
  case atStart => exact ⟨0, by omega, rfl, rfl⟩
  case round =>
    obtain ⟨j, hj, rfl, hany⟩ := hrel
    have g1 := HC.out j hj
    have hst := anyN_take hj
    obtain ⟨y, hy⟩ : ∃ y, y = zs.getD j 0 := ⟨_, rfl⟩
    have hyb := HD.out.at (by decide) j
    rw [← hy] at g1 hst hyb
    have hji : (j : Int) < zs.length := by omega
    by_cases hy0 : y = 0
    · have hany2 : anyN (zs.take (j + 1)) = false := by rw [hst, hany.out, hy0]; rfl
      have hj2 : j + 1 < zs.length := by
        by_cases hp : j + 1 < zs.length
        · exact hp
        · have : zs.take (j + 1) = zs := List.take_of_length_le (by omega)
          rw [this, anyN_false (B := 4294967296) (by decide) HD.out] at hany2
          have := HP.out
          omega
      have HA : Hid (anyN (zs.take (j + 1)) = false) := hany2
      subst hy0
      clear hst hany hany2 hy
      go_wp2
      go_round
      case rel => exact ⟨j + 1, hj2, by go_num, HA⟩
      case measure => simp [intOf]; omega
    · have hy1 : (y != 0) = true := by rw [bne_iff_ne]; exact hy0
      have HV0 : Hid (val 4294967296 (zs.take j) = 0) := (anyN_false (B := 4294967296) (by decide) (HD.out.take j)).1 hany.out
      have HY : Hid (y = zs.getD j 0) := hy
      obtain ⟨hyb0, hyb1⟩ := hyb
      clear hst hany hy
      go_wp2_with fail
      refine (tz_any y _ (by omega) hyb1 HT.out).mono ?_
      rintro e w1 ⟨t, rfl, ht, ⟨q, hq, ho⟩, hb1⟩
      have HT2 : Hid (Twos (val 4294967296 zs) (32 * j + t)) := twos_of (b := 32) hj HV0.out (by rw [← HY.out]; exact hq) ho ht
      have HB : Hid (Below w.heap.size w w1) := hb1
      have ht' : (t : Int) < 32 := by omega
      clear hb1 hq ho
      go_wp2
      refine bodyPost_ret (v := .int .i64 (32 * (j : Int) + t)) (by simp [results, Tryd.results34, go_sem]) rfl ?_
      exact ⟨32 * j + t, by simp, by omega, HT2.out, HB.out⟩

end Go.Proofs.YtmacbfiolkpofabDoor
