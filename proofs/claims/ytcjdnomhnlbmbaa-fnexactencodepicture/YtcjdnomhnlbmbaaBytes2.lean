/-
  Marks in bytes.
-/
import Derived.Test.YtcjdnomhnlbmbaaOpenQBytes
namespace Go.Proofs.Ytcjdnomhnlbmbaa
open Go.RowKit

def marksY (k : Int) (n : Nat) : List Int := (marksL k n).map (· % 256)
theorem marksY_length (n : Nat) (k : Int) : (marksY k n).length = n := by rw [marksY, List.length_map, marks_length]
theorem marksY_get (n : Nat) (k : Int) (j : Nat) (h : j < n) : (marksY k n).getD j 0 = (k + j) % 256 := by
  have := marks_get n k j h
  rw [List.getD_eq_getElem?_getD, List.getElem?_eq_getElem (by rw [marks_length]; exact h)] at this
  rw [marksY, List.getD_eq_getElem?_getD, List.getElem?_map, List.getElem?_eq_getElem (by rw [marks_length]; exact h)]
  simp at this ⊢
  rw [this]

set_option maxHeartbeats 1000000 in
theorem markY2_any (a : Option Addr) (c : Nat) (zs : List Int) (k0 : Int) (w : World) (lo hi : Nat) (hn : zs.length ≤ 1048576) (h0 : 1 ≤ k0) (h1 : k0 ≤ 2097152) (hz : RowIn .u8 w lo hi a zs) :
    Calls Try.prog 13 #[.slice a zs.length c, .int .i64 k0] w fun e w' => e = .returned (.int .i64 (k0 + zs.length)) ∧ RowIn .u8 w' lo hi a (marksY k0 zs.length) ∧ Within lo hi w w' := by
  rcases hz with hz | ⟨b, off, rfl, hlo, hhi, hb, hc, hf⟩
  · subst hz
    go_enter Try.func13, Try.ntmps13
    go_wp2
    go_loop [1, 5] (fun k i => k = .int .i64 k0 ∧ i = .int .i64 0) (fun _ _ => 0)
    case atStart => exact ⟨rfl, rfl⟩
    case round =>
      obtain ⟨rfl, rfl⟩ := hrel
      go_wp2
      go_ret
      exact ⟨ret_intM (by simp), .inl rfl, Within.refl _ _ _⟩
  · go_enter Try.func13, Try.ntmps13
    go_wp2
    go_loopw [1, 5] (fun k i wr => ∃ n : Nat, n ≤ zs.length ∧ i = .int .i64 n ∧ k = .int .i64 (k0 + n) ∧ (∀ j, j < n → wr.cell? ⟨b, off + j, none⟩ = some (.int .u8 ((k0 + j) % 256))) ∧ (∀ j, j < zs.length → ∃ v, wr.cell? ⟨b, off + j, none⟩ = some v) ∧ (∀ j, j < zs.length → wr.frozen? ⟨b, off + j, none⟩ = false) ∧ Within lo hi w wr) (fun _ i _ => zs.length - (intOf i).toNat)
    case atStart => exact ⟨0, Nat.zero_le _, rfl, by simp, fun j hj => absurd hj (by omega), fun j hj => ⟨_, hc j hj⟩, hf, Within.refl _ _ _⟩
    case round =>
      obtain ⟨n, hn', rfl, rfl, hdone, hall, hfz, hwi⟩ := hrel
      by_cases hlt : n < zs.length
      · obtain ⟨v, hv⟩ := hall n hlt
        have hv2 := hfz n hlt
        have HD := hdone
        have HS : Hid ((∀ j, j < n + 1 → (wr.setCell ⟨b, off + n, none⟩ (.int .u8 ((k0 + n) % 256))).cell? ⟨b, off + j, none⟩ = some (.int .u8 ((k0 + j) % 256))) ∧ (∀ j, j < zs.length → ∃ v, (wr.setCell ⟨b, off + n, none⟩ (.int .u8 ((k0 + n) % 256))).cell? ⟨b, off + j, none⟩ = some v) ∧ (∀ j, j < zs.length → (wr.setCell ⟨b, off + n, none⟩ (.int .u8 ((k0 + n) % 256))).frozen? ⟨b, off + j, none⟩ = false) ∧ Within lo hi w (wr.setCell ⟨b, off + n, none⟩ (.int .u8 ((k0 + n) % 256)))) := by
          refine ⟨fun j hj => ?_, fun j hj => ?_, fun j hj => ?_, hwi.setCell hlo hhi _⟩
          · by_cases e : j = n
            · subst e; exact World.cell?_setCell_same _ _ _ hv
            · rw [World.cell?_setCell_other _ _ _ _ (by intro hh; apply e; have := congrArg Addr.off hh; simp at this; omega)]; exact hdone j (by omega)
          · by_cases e : j = n
            · subst e; exact ⟨_, World.cell?_setCell_same _ _ _ hv⟩
            · rw [World.cell?_setCell_other _ _ _ _ (by intro hh; apply e; have := congrArg Addr.off hh; simp at this; omega)]; exact hall j hj
          · rw [World.frozen?_setCell]; exact hfz j hj
        clear hdone hall hfz hwi HD hc hf
        go_wp2
        go_roundw
        case rel => exact ⟨n + 1, by omega, by go_num, by go_num, HS.out.1, HS.out.2⟩
        case measure => simp [intOf]; omega
      · have hnn : n = zs.length := by omega
        subst hnn
        have HR : Hid (RowIn .u8 wr lo hi (some ⟨b, off, none⟩) (marksY k0 zs.length)) := by
          refine .inr ⟨b, off, rfl, hlo, hhi, by rw [hwi.size]; exact hb, fun j hj => ?_, fun j hj => ?_⟩
          · rw [marksY_length] at hj
            rw [marksY_get _ _ _ hj]; exact hdone j hj
          · rw [marksY_length] at hj; exact hfz j hj
        have HW : Hid (Within lo hi w wr) := hwi
        clear hdone hall hfz hc hf hwi
        go_wp2
        go_ret
        exact ⟨rfl, HR.out, HW.out⟩

set_option maxHeartbeats 1000000 in
theorem heldY_any (a : Option Addr) (c : Nat) (n : Nat) (k0 : Int) (w : World) (hn : n ≤ 1048576) (h0 : 1 ≤ k0) (h1 : k0 ≤ 2097152) (hz : RowAt .u8 w a (marksY k0 n)) :
    Calls Try.prog 20 #[.slice a n c, .int .i64 k0] w fun e w' => e = .returned (.int .i64 (k0 + n)) ∧ w' = w := by
  rcases hz with hz | ⟨b, off, rfl, hb, hc⟩
  · have : n = 0 := by rw [← marksY_length n k0, hz]; rfl
    subst this
    go_enter Try.func20, Try.ntmps20
    go_wp2
    go_loop [1, 5] (fun k i => k = .int .i64 k0 ∧ i = .int .i64 0) (fun _ _ => 0)
    case atStart => exact ⟨rfl, rfl⟩
    case round =>
      obtain ⟨rfl, rfl⟩ := hrel
      go_wp2
      go_ret
      exact ⟨ret_intM (by simp), rfl⟩
  · go_enter Try.func20, Try.ntmps20
    go_wp2
    go_loop [1, 5] (fun k i => ∃ m : Nat, m ≤ n ∧ i = .int .i64 m ∧ k = .int .i64 (k0 + m)) (fun _ i => n - (intOf i).toNat)
    case atStart => exact ⟨0, Nat.zero_le _, rfl, by simp⟩
    case round =>
      obtain ⟨m, hm, rfl, rfl⟩ := hrel
      by_cases hlt : m < n
      · have g1 : w.cell? ⟨b, off + m, none⟩ = some (.int .u8 ((k0 + m) % 256)) := by rw [hc m (by rw [marksY_length]; exact hlt), marksY_get _ _ _ hlt]
        have hne : ((k0 + (m : Int)) % 256 != (k0 + (m : Int)) % 256) = false := by simp
        clear hc
        go_wp2
        go_round
        case rel => exact ⟨m + 1, by omega, by go_num, by go_num⟩
        case measure => simp [intOf]; omega
      · have hmn : m = n := by omega
        subst hmn
        go_wp2
        go_ret
        exact ⟨rfl, rfl⟩

end Go.Proofs.Ytcjdnomhnlbmbaa
