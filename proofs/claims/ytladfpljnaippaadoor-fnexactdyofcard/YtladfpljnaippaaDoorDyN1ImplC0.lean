/-
  The program: the zeros below the lowest bit that is set.
-/
import Derived.Test.YtladfpljnaippaaDoorTz
import Derived.Test.YtladfpljnaippaaDoorNum
import Derived.Test.YtladfpljnaippaaDoorSpecD
import Derived.Test.YtladfpljnaippaaDoorImplB
namespace Go.Proofs.YtladfpljnaippaaDoor
open Go.RowKit

set_option maxHeartbeats 2000000 in
theorem lowZ_any (a : Option Addr) (c : Nat) (zs : List Int) (w : World) (hn : zs.length ≤ 100000) (hz : RowAt .u32 w a zs) (hcz : Canon 4294967296 zs) (hne : zs ≠ []) (hT : Tab w) :
    Calls Tryd.prog 50 #[.slice a zs.length c] w fun e w' => ∃ t : Nat, e = .returned (.int .i64 t) ∧ t ≤ 32 * zs.length ∧ Twos (val 4294967296 zs) t ∧ Below w.heap.size w w' := by
  have HP : Hid (0 < val 4294967296 zs) := val_pos (B := 4294967296) (by decide) hcz hne
  have HD : Hid (Dig 4294967296 zs) := hcz.1
  obtain ⟨b, off, rfl, hb, hc⟩ := hz.resolve_left hne
  have HC : Hid (∀ j, j < zs.length → w.cell? ⟨b, off + j, none⟩ = some (.int .u32 (zs.getD j 0))) := hc
  have HT : Hid (Tab w) := hT
  have hlen : zs.length ≠ 0 := fun e => hne (List.length_eq_zero_iff.1 e)
  clear hz hcz hne hc hT hb
  go_enter Tryd.func50, Tryd.ntmps50
  go_wp2
  go_loop [3, 4, 7] (fun _ _ i => ∃ j : Nat, j < zs.length ∧ i = .int .i64 j ∧ Hid (anyN (zs.take j) = false)) (fun _ _ i => zs.length - (intOf i).toNat)
  case atStart => exact ⟨0, by omega, rfl, rfl⟩
  case round =>
    obtain ⟨j, hj, rfl, hany⟩ := hrel
    have g1 := HC.out j hj
    have hst := anyN_take hj
    obtain ⟨y, hy⟩ : ∃ y, y = zs.getD j 0 := ⟨_, rfl⟩
    have hyb := HD.out.at (by decide) j
    rw [← hy] at g1 hst hyb
    have hji : (j : Int) < zs.length := by omega
    by_cases hy0 : y = 0
    · have hany2 : anyN (zs.take (j + 1)) = false := by rw [hst, hany.out, hy0]; rfl
      have hj2 : j + 1 < zs.length := by
        by_cases hp : j + 1 < zs.length
        · exact hp
        · have : zs.take (j + 1) = zs := List.take_of_length_le (by omega)
          rw [this, anyN_false (B := 4294967296) (by decide) HD.out] at hany2
          have := HP.out
          omega
      have HA : Hid (anyN (zs.take (j + 1)) = false) := hany2
      subst hy0
      clear hst hany hany2 hy
      go_wp2
      go_round
      case rel => exact ⟨j + 1, hj2, by go_num, HA⟩
      case measure => simp [intOf]; omega
    · have hy1 : (y != 0) = true := by rw [bne_iff_ne]; exact hy0
      have HV0 : Hid (val 4294967296 (zs.take j) = 0) := (anyN_false (B := 4294967296) (by decide) (HD.out.take j)).1 hany.out
      have HY : Hid (y = zs.getD j 0) := hy
      obtain ⟨hyb0, hyb1⟩ := hyb
      clear hst hany hy
      go_wp2_with fail
      refine (tz_any y _ (by omega) hyb1 HT.out).mono ?_
      rintro e w1 ⟨t, rfl, ht, ⟨q, hq, ho⟩, hb1⟩
      have HT2 : Hid (Twos (val 4294967296 zs) (32 * j + t)) := twos_of (b := 32) hj HV0.out (by rw [← HY.out]; exact hq) ho ht
      have HB : Hid (Below w.heap.size w w1) := hb1
      have ht' : (t : Int) < 32 := by omega
      clear hb1 hq ho
      go_wp2
      refine bodyPost_ret (v := .int .i64 (32 * (j : Int) + t)) (by simp [results, Tryd.results50, go_sem]) rfl ?_
      exact ⟨32 * j + t, by simp, by omega, HT2.out, HB.out⟩

end Go.Proofs.YtladfpljnaippaaDoor

/-
  Magnitudes that the program hands back.
-/
namespace Go.Proofs.YtladfpljnaippaaDoor
open Go.RowKit

/-- A magnitude in new memory: no zero at its upper end, of the value v, of at most n limbs. -/
def MagOut (w : World) (v : Int) (n : Nat) (e : Ending) (w' : World) : Prop :=
  ∃ (a : Option Addr) (c : Nat) (fs : List Int), e = .returned (.slice a fs.length c) ∧ fs.length ≤ c ∧ c ≤ maxLen ∧ Canon 4294967296 fs ∧ val 4294967296 fs = v ∧ fs.length ≤ n ∧ RowNew .u32 w' w.heap.size a fs ∧ Below w.heap.size w w'

theorem set_mid {l1 l2 : List Int} {z d : Int} {k : Nat} (h : l1.length = k) : (l1 ++ z :: l2).set k d = l1 ++ d :: l2 := by
  subst h
  simp

theorem own_step {out : List Int} {n k : Nat} {d : Int} (h : out.length = k) (hk : k < n) : (out ++ List.replicate (n + 1 - k) 0).set k d = (out ++ [d]) ++ List.replicate (n + 1 - (k + 1)) 0 := by
  rw [show n + 1 - k = (n + 1 - (k + 1)) + 1 by omega, List.replicate_succ, set_mid h]
  simp

theorem own_last {out : List Int} {n : Nat} {d : Int} (h : out.length = n) : (out ++ List.replicate (n + 1 - n) 0).set n d = out ++ [d] := by
  rw [show n + 1 - n = 0 + 1 by omega, List.replicate_succ, set_mid h]
  simp

end Go.Proofs.YtladfpljnaippaaDoor
