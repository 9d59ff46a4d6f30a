/-
  The laws' own helpers over bytes.
-/
import Derived.Test.YtcjdnomhnlbmbaaMarks
namespace Go.Proofs.Ytcjdnomhnlbmbaa
open Go.RowKit

theorem Try.info5 : (Try.prog.info? 5).map (fun i => (i.zero, i.size, i.bytes)) = some (some (.int .u8 0), 1, 1) := by kernel_rfl

set_option maxHeartbeats 400000 in
theorem eqY_any (a a' : Option Addr) (c c' : Nat) (zs ys : List Int) (w : World) (hn : zs.length ≤ maxLen) (hn' : ys.length ≤ maxLen) (hz : RowAt .u8 w a zs) (hy : RowAt .u8 w a' ys) :
    Calls Try.prog 12 #[.slice a zs.length c, .slice a' ys.length c'] w fun e w' => e = .returned (.bool (decide (zs = ys))) ∧ Below w.heap.size w w' := by
  unfold maxLen at hn hn'
  by_cases hl : zs.length = ys.length
  · rcases hz with hz | ⟨b, off, rfl, hb, hc⟩
    · subst hz
      have : ys = [] := List.length_eq_zero_iff.1 hl.symm
      subst this
      go_enter Try.func12, Try.ntmps12
      go_wp2
      go_loop [5] (fun i => i = .int .i64 0) (fun _ => 0)
      case atStart => rfl
      case round =>
        subst hrel
        go_wp2
        go_ret
        exact ⟨by simp, Below.refl _ _⟩
    · rcases hy with hy | ⟨b', off', rfl, hb', hc'⟩
      · subst hy
        have : zs = [] := List.length_eq_zero_iff.1 hl
        subst this
        go_enter Try.func12, Try.ntmps12
        go_wp2
        go_loop [5] (fun i => i = .int .i64 0) (fun _ => 0)
        case atStart => rfl
        case round =>
          subst hrel
          go_wp2
          go_ret
          exact ⟨by simp, Below.refl _ _⟩
      · have hne : ((zs.length : Int) != (ys.length : Int)) = false := by simp; omega
        have HL : Hid (zs.length = ys.length) := hl
        clear hl
        go_enter Try.func12, Try.ntmps12
        go_wp2
        go_loopw [5] (fun i wr => ∃ k : Nat, k ≤ zs.length ∧ i = .int .i64 k ∧ Hid (∀ j, j < k → zs.getD j 0 = ys.getD j 0) ∧ Below w.heap.size w wr) (fun i _ => zs.length - (intOf i).toNat)
        case atStart => exact ⟨0, Nat.zero_le _, rfl, fun j hj => absurd hj (by omega), Below.refl _ _⟩
        case round =>
          obtain ⟨k, hk, rfl, hsame, hnx⟩ := hrel
          by_cases hlt : k < zs.length
          · have hlt' : k < ys.length := by have := HL.out; omega
            have g1 : wr.cell? ⟨b, off + k, none⟩ = some (.int .u8 (zs.getD k 0)) := (hnx.cell (p := ⟨b, off + k, none⟩) hb).trans (hc k hlt)
            have g2 : wr.cell? ⟨b', off' + k, none⟩ = some (.int .u8 (ys.getD k 0)) := (hnx.cell (p := ⟨b', off' + k, none⟩) hb').trans (hc' k hlt')
            clear hc hc'
            go_wp2
            go_quiet (fail)
            go_wp2
            · go_ret
              exact ⟨ret_bool (neq_of hlt hlt' ‹_›).symm, below_drewN hnx _⟩
            · go_roundw
              case rel => exact ⟨k + 1, by omega, by go_num, same_succ hsame.out hlt hlt' ‹_›, below_drewN hnx _⟩
              case measure => simp [intOf]; omega
          · go_wp2
            go_ret
            exact ⟨ret_bool (same_all HL.out (by intro j hj; exact hsame.out j (by omega))).symm, hnx⟩
  · have hne : ((zs.length : Int) != (ys.length : Int)) = true := by simp; omega
    go_enter Try.func12, Try.ntmps12
    go_wp2
    go_ret
    exact ⟨by simp; intro h; exact hl (by rw [h]), Below.refl _ _⟩

set_option maxHeartbeats 400000 in
theorem toY_any (a : Option Addr) (c : Nat) (zs : List Int) (w : World) (hn : zs.length ≤ 1048576) (hz : RowAt .u8 w a zs) :
    Calls Try.prog 9 #[.slice a zs.length c] w fun e w' => ∃ a', e = .returned (.slice a' zs.length zs.length) ∧ RowNew .u8 w' w.heap.size a' zs ∧ Below w.heap.size w w' := by
  have hmk := run_make_row' (P := Try.prog) 22 5 (.int .u8 0) 1 Try.underlying22 Try.info5 rfl .i64 .i64 zs.length (by omega) (by omega)
  go_enter Try.func9, Try.ntmps9
  go_wp2
  go_loopw [4] (fun i wr => ∃ k : Nat, k ≤ zs.length ∧ i = .int .i64 k ∧ Own .u8 wr w.heap.size 0 (zs.take k ++ List.replicate (zs.length - k) 0) ∧ Below w.heap.size w wr) (fun i _ => zs.length - (intOf i).toNat)
  case atStart => exact ⟨0, Nat.zero_le _, rfl, by simpa using Own.made w zs.length _, bel0 _ _⟩
  case round =>
    obtain ⟨k, hk, rfl, hown, hnx⟩ := hrel
    by_cases hlt : k < zs.length
    · obtain ⟨b, off, rfl, hb, hc⟩ := hz.resolve_left (by intro h; subst h; simp at hlt)
      have g1 : wr.cell? ⟨b, off + k, none⟩ = some (.int .u8 (zs.getD k 0)) := (hnx.cell (p := ⟨b, off + k, none⟩) hb).trans (hc k hlt)
      have g2 := hown.cell k (by simp; omega)
      have g3 := hown.free k (by simp; omega)
      have hs := hown.set k (zs.getD k 0) (by simp; omega)
      rw [fill_step zs k hlt] at hs
      have hbe := hnx.setCell (p := ⟨w.heap.size, 0 + k, none⟩) (Nat.le_refl _) (.int .u8 (zs.getD k 0))
      rw [Nat.zero_add] at g2 g3 hs hbe
      have HS : Hid (Own .u8 (wr.setCell ⟨w.heap.size, k, none⟩ (.int .u8 (zs.getD k 0))) w.heap.size 0 (zs.take (k + 1) ++ List.replicate (zs.length - (k + 1)) 0)) := hs
      have HB : Hid (Below w.heap.size w (wr.setCell ⟨w.heap.size, k, none⟩ (.int .u8 (zs.getD k 0)))) := hbe
      clear hs hbe hc hown hnx hz
      go_wp2
      go_roundw
      case rel => exact ⟨k + 1, by omega, by go_num, by simpa [hlt] using HS.out, by simpa [hlt] using HB.out⟩
      case measure => simp [intOf]; omega
    · have e : k = zs.length := by omega
      subst e
      go_wp2
      go_ret
      exact ⟨_, rfl, by simpa using hown.new (Nat.le_refl _), hnx⟩

/-- A store into a row that is being marked. -/
theorem mark_set {wr : World} {b off n L : Nat} (h : ∀ j, j < L → ∃ v, wr.cell? ⟨b, off + j, none⟩ = some v) (hf : ∀ j, j < L → wr.frozen? ⟨b, off + j, none⟩ = false) (hn : n < L) (u : Value) :
    (∀ j, j < L → ∃ v, (wr.setCell ⟨b, off + n, none⟩ u).cell? ⟨b, off + j, none⟩ = some v) ∧ (∀ j, j < L → (wr.setCell ⟨b, off + n, none⟩ u).frozen? ⟨b, off + j, none⟩ = false) := by
  refine ⟨fun j hj => ?_, fun j hj => ?_⟩
  · by_cases e : j = n
    · subst e
      obtain ⟨v, hv⟩ := h j hj
      exact ⟨_, World.cell?_setCell_same _ _ _ hv⟩
    · rw [World.cell?_setCell_other _ _ _ _ (by intro hh; apply e; have := congrArg Addr.off hh; simp at this; omega)]; exact h j hj
  · rw [World.frozen?_setCell]; exact hf j hj

set_option maxHeartbeats 1000000 in
theorem markY_any (a : Option Addr) (c : Nat) (zs : List Int) (k0 : Int) (w : World) (lo hi : Nat) (hn : zs.length ≤ 1048576) (h0 : 1 ≤ k0) (h1 : k0 ≤ 2097152) (hz : RowIn .u8 w lo hi a zs) :
    Calls Try.prog 13 #[.slice a zs.length c, .int .i64 k0] w fun e w' => e = .returned (.int .i64 (k0 + zs.length)) ∧ Within lo hi w w' := by
  rcases hz with hz | ⟨b, off, rfl, hlo, hhi, hb, hc, hf⟩
  · subst hz
    go_enter Try.func13, Try.ntmps13
    go_wp2
    go_loop [1, 5] (fun k i => k = .int .i64 k0 ∧ i = .int .i64 0) (fun _ _ => 0)
    case atStart => exact ⟨rfl, rfl⟩
    case round =>
      obtain ⟨rfl, rfl⟩ := hrel
      go_wp2
      go_ret
      exact ⟨ret_intM (by simp), Within.refl _ _ _⟩
  · go_enter Try.func13, Try.ntmps13
    go_wp2
    go_loopw [1, 5] (fun k i wr => ∃ n : Nat, n ≤ zs.length ∧ i = .int .i64 n ∧ k = .int .i64 (k0 + n) ∧ Hid ((∀ j, j < zs.length → ∃ v, wr.cell? ⟨b, off + j, none⟩ = some v) ∧ (∀ j, j < zs.length → wr.frozen? ⟨b, off + j, none⟩ = false)) ∧ Within lo hi w wr) (fun _ i _ => zs.length - (intOf i).toNat)
    case atStart => exact ⟨0, Nat.zero_le _, rfl, by simp, ⟨fun j hj => ⟨_, hc j hj⟩, hf⟩, Within.refl _ _ _⟩
    case round =>
      obtain ⟨n, hn', rfl, rfl, hall, hwi⟩ := hrel
      clear hc hf
      by_cases hlt : n < zs.length
      · obtain ⟨v, hv⟩ := hall.out.1 n hlt
        have hv2 := hall.out.2 n hlt
        have HW : Hid (Within lo hi w wr) := hwi
        clear hwi
        go_wp2
        go_roundw
        case rel => exact ⟨n + 1, by omega, by go_num, by go_num, mark_set hall.out.1 hall.out.2 hlt _, HW.out.setCell hlo hhi _⟩
        case measure => simp [intOf]; omega
      · have hnn : n = zs.length := by omega
        subst hnn
        have HW : Hid (Within lo hi w wr) := hwi
        clear hall hwi
        go_wp2
        go_ret
        exact ⟨rfl, HW.out⟩

end Go.Proofs.Ytcjdnomhnlbmbaa
