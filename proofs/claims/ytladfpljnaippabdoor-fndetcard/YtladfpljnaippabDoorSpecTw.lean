/-
  The model: how often 2 divides a number.
-/
import Derived.Test.YtladfpljnaippabDoorSpecD
import Derived.Test.YtladfpljnaippabDoorNumZ
namespace Go.Proofs.YtladfpljnaippabDoor
open Go.RowKit

set_option maxHeartbeats 2000000 in
theorem twos_any (g : Bool) (a : Option Addr) (c : Nat) (ds : List Int) (x : Int) (w : World) (hn : ds.length ≤ 1048576) (h : L1 w g a c ds x) (hne : ds ≠ []) :
    Calls Tryd.prog 106 #[.agg #[.bool g, .slice a ds.length c]] w fun e w' => ∃ t : Nat, e = .returned (.int .i64 t) ∧ t ≤ 16 * ds.length ∧ Twos (val 65536 ds) t ∧ Below w.heap.size w w' := by
  have hpos := val_pos (B := 65536) (by decide) h.can hne
  have hd := h.can.1
  have hz := h.sl.row
  obtain ⟨b, off, rfl, hb, hc⟩ := hz.resolve_left hne
  have HD : Hid (Dig 65536 ds) := hd
  have HP : Hid (0 < val 65536 ds) := hpos
  have hlen : ds.length ≠ 0 := fun e => hne (List.length_eq_zero_iff.1 e)
  clear h hd hz hpos
  have q1 : (w.alloc (.cells #[.bool g, .slice (some ⟨b, off, none⟩) ds.length c] 64)).cell? ⟨w.heap.size, 1, none⟩ = some (.slice (some ⟨b, off, none⟩) ds.length c) := by simp [go_sem]
  have HC : Hid (∀ j, j < ds.length → (w.alloc (.cells #[.bool g, .slice (some ⟨b, off, none⟩) ds.length c] 64)).cell? ⟨b, off + j, none⟩ = some (.int .i64 (ds.getD j 0))) := by
    intro j hj
    rw [World.cell?_alloc_past _ _ _ hb]
    exact hc j hj
  have HB : Hid (Below w.heap.size w (w.alloc (.cells #[.bool g, .slice (some ⟨b, off, none⟩) ds.length c] 64))) := bel0 _ _
  clear hc
  go_enter Tryd.func106, Tryd.ntmps106
  go_wp2
  obtain ⟨W, hW⟩ : ∃ W, W = w.alloc (.cells #[.bool g, .slice (some ⟨b, off, none⟩) ds.length c] 64) := ⟨_, rfl⟩
  rw [← hW] at q1 HC HB ⊢
  clear hW
  go_loop [3] (fun i => ∃ j : Nat, j < ds.length ∧ i = .int .i64 j ∧ Hid (anyN (ds.take j) = false)) (fun i => ds.length - (intOf i).toNat)
  case atStart => exact ⟨0, by omega, rfl, rfl⟩
  case round =>
    obtain ⟨j, hj, rfl, hany⟩ := hrel
    have g1 := HC.out j hj
    have hst := anyN_take hj
    obtain ⟨y, hy⟩ : ∃ y, y = ds.getD j 0 := ⟨_, rfl⟩
    have hyb := HD.out.at (by decide) j
    rw [← hy] at g1 hst hyb
    have hji : (j : Int) < ds.length := by omega
    by_cases hy0 : y = 0
    · have hany2 : anyN (ds.take (j + 1)) = false := by rw [hst, hany.out, hy0]; rfl
      have hj2 : j + 1 < ds.length := by
        by_cases hp : j + 1 < ds.length
        · exact hp
        · have : ds.take (j + 1) = ds := List.take_of_length_le (by omega)
          rw [this, anyN_false (B := 65536) (by decide) HD.out] at hany2
          have := HP.out
          omega
      have HA : Hid (anyN (ds.take (j + 1)) = false) := hany2
      subst hy0
      clear hst hany hany2 hy
      go_wp2
      go_round
      case rel => exact ⟨j + 1, hj2, by go_num, HA⟩
      case measure => simp [intOf]; omega
    · have hy1 : (y == 0) = false := by rw [beq_eq_false_iff_ne]; exact hy0
      have hv0 : val 65536 (ds.take j) = 0 := (anyN_false (B := 65536) (by decide) (HD.out.take j)).1 hany.out
      have HV0 : Hid (val 65536 (ds.take j) = 0) := hv0
      have HY : Hid (y = ds.getD j 0) := hy
      obtain ⟨hyb0, hyb1⟩ := hyb
      clear hst hany hv0 hy
      go_wp2
      go_loop [4, 5] (fun sv sk => ∃ (k : Nat) (v : Int), sv = .int .i64 v ∧ sk = .int .i64 k ∧ 0 < v ∧ v < 65536 ∧ k < 16 ∧ Hid (y = 2 ^ k * v)) (fun sv _ => (intOf sv).toNat)
      case atStart => exact ⟨0, y, rfl, rfl, by omega, by omega, by decide, by unfold Hid; simp⟩
      case round =>
        obtain ⟨k, v, rfl, rfl, hv0, hv1, hk, hyk⟩ := hrel
        have hvm : 0 ≤ v % 2 := by omega
        by_cases hev : v % 2 = 0
        · have hyk2 : y = 2 ^ (k + 1) * (v / 2) := by
            rw [hyk.out, Int.pow_succ, Int.mul_assoc]
            congr 1
            omega
          have hv2 : 0 < v / 2 := by omega
          have hk2 : k + 1 < 16 := pow_lt_of hyk2 hv2 (by omega)
          have HK : Hid (y = 2 ^ (k + 1) * (v / 2)) := hyk2
          clear hyk2 hyk
          go_wp2
          go_round
          case rel => exact ⟨k + 1, v / 2, rfl, by go_num, hv2, by omega, hk2, HK⟩
          case measure => simp [intOf]; omega
        · have hev1 : (v % 2 == 0) = false := by rw [beq_eq_false_iff_ne]; exact hev
          have HT : Hid (Twos (val 65536 ds) (16 * j + k)) := twos_of (b := 16) hj HV0.out (by rw [← HY.out]; exact hyk.out) (by omega) hk
          clear hyk
          go_wp2
          go_ret
          exact ⟨16 * j + k, ret_int (by omega), by omega, HT.out, HB.out⟩

end Go.Proofs.YtladfpljnaippabDoor
