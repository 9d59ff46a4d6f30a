/-
  Lists of bools as the laws copy, compare and mark them.
-/
import Derived.Test.YtcjdnomhnlbmbaaPcAPcI
import Derived.BigQuiet
namespace Go.Proofs.Ytcjdnomhnlbmbaa
open Go.RowKit

theorem info_Bool : (Try.prog.info? 4).map (fun i => (i.zero, i.size, i.bytes)) = some (some (.bool false), 1, 1) := by kernel_rfl

set_option maxHeartbeats 1000000 in
theorem toBoolS_any (a : Option Addr) (n c : Nat) (g : Nat → Bool) (w : World) (hn : n ≤ 1048576) (hz : RowF w a n (fun j => .bool (g j))) :
    Calls Try.prog 47 #[.slice a n c] w fun e w' => ∃ a', e = .returned (.slice a' n n) ∧ RowFIn w' w.heap.size w'.heap.size a' n (fun j => .bool (g j)) ∧ Below w.heap.size w w' := by
  have hmk := run_make_row' (P := Try.prog) 24 4 (.bool false) 1 Try.underlying24 info_Bool rfl .i64 .i64 n (by omega) (by omega)
  have HS : Hid (FillF (w.alloc (.cells (madeCells #[.bool false] n) 4)) w.heap.size 0 n (fun j => .bool (g j)) 0) := FillF.start _ _ _ _ _
  have HZ : Hid (RowF w a n (fun j => .bool (g j))) := hz
  clear hz
  go_enter Try.func47, Try.ntmps47
  go_wp2
  go_loopw [4] (fun si wr => ∃ i : Nat, i ≤ n ∧ si = .int .i64 i ∧ Hid (FillF wr w.heap.size 0 n (fun j => .bool (g j)) i) ∧ Hid (Below w.heap.size w wr)) (fun si _ => n - (intOf si).toNat)
  case atStart => exact ⟨0, Nat.zero_le _, rfl, HS, bel0 _ _⟩
  case round =>
    obtain ⟨i, hi, rfl, hF, hb⟩ := hrel
    clear hmk HS
    by_cases hlt : i < n
    · obtain ⟨b, off, rfl, hbl, hc⟩ := HZ.out.resolve_left (by omega)
      have g1 : wr.cell? ⟨b, off + i, none⟩ = some (.bool (g i)) := ((bcell hb.out).1 _ _ hbl).trans (hc i hlt)
      obtain ⟨u, g2⟩ := hF.out.all i hlt
      have g3 := hF.out.free i hlt
      have hs := hF.out.step hlt
      have hbe := hb.out.setCell (p := ⟨w.heap.size, 0 + i, none⟩) (Nat.le_refl _) (.bool (g i))
      rw [Nat.zero_add] at g2 g3 hs hbe
      have HS : Hid (FillF (wr.setCell ⟨w.heap.size, i, none⟩ (.bool (g i))) w.heap.size 0 n (fun j => .bool (g j)) (i + 1)) := hs
      have HB : Hid (Below w.heap.size w (wr.setCell ⟨w.heap.size, i, none⟩ (.bool (g i)))) := hbe
      have hib : (i : Int) < n := by omega
      clear hs hbe hc hF hb
      go_wp2
      go_roundw
      case rel => exact ⟨i + 1, by omega, by go_num, HS, HB⟩
      case measure => simp [intOf]; omega
    · have e : i = n := by omega
      subst e
      go_wp2
      go_ret
      exact ⟨_, rfl, hF.out.row (Nat.le_refl _) hF.out.lt, hb.out⟩

set_option maxHeartbeats 1000000 in
theorem eqBoolS_same (a a1 : Option Addr) (n c c1 : Nat) (g : Nat → Bool) (w : World) (hn : n ≤ 1048576) (hz : RowF w a n (fun j => .bool (g j))) (hy : RowF w a1 n (fun j => .bool (g j))) :
    Calls Try.prog 39 #[.slice a n c, .slice a1 n c1] w fun e w' => e = .returned (.bool true) ∧ Below w.heap.size w w' := by
  have HZ : Hid (RowF w a n (fun j => .bool (g j))) := hz
  have HY : Hid (RowF w a1 n (fun j => .bool (g j))) := hy
  clear hz hy
  go_enter Try.func39, Try.ntmps39
  go_wp2
  go_loopw [5] (fun si wr => ∃ i : Nat, i ≤ n ∧ si = .int .i64 i ∧ Hid (Below w.heap.size w wr)) (fun si _ => n - (intOf si).toNat)
  case atStart => exact ⟨0, Nat.zero_le _, rfl, Below.refl _ _⟩
  case round =>
    obtain ⟨i, hi, rfl, hb⟩ := hrel
    by_cases hlt : i < n
    · obtain ⟨b, off, rfl, hbl, hc⟩ := HZ.out.resolve_left (by omega)
      obtain ⟨b1, off1, rfl, hbl1, hc1⟩ := HY.out.resolve_left (by omega)
      have g1 : wr.cell? ⟨b, off + i, none⟩ = some (.bool (g i)) := ((bcell hb.out).1 _ _ hbl).trans (hc i hlt)
      have g2 : wr.cell? ⟨b1, off1 + i, none⟩ = some (.bool (g i)) := ((bcell hb.out).1 _ _ hbl1).trans (hc1 i hlt)
      obtain ⟨x, hx⟩ : ∃ x, x = g i := ⟨_, rfl⟩
      rw [← hx] at g1 g2
      have hne : (x != x) = false := by simp
      have hib : (i : Int) < n := by omega
      clear hc hc1 hx
      go_wp2
      go_quiet (fail)
      go_wp2
      go_roundw
      case rel => exact ⟨i + 1, by omega, by go_num, by first | exact hb | exact below_drewN hb.out _⟩
      case measure => simp [intOf]; omega
    · go_wp2
      go_ret
      exact ⟨rfl, hb.out⟩

set_option maxHeartbeats 1000000 in
theorem markBoolS_any (a : Option Addr) (n c : Nat) (g : Nat → Bool) (k0 : Int) (w : World) (lo hi : Nat) (hn : n ≤ 1048576) (h0 : 1 ≤ k0) (h1 : k0 ≤ 33554432) (hz : RowFIn w lo hi a n (fun j => .bool (g j))) :
    Calls Try.prog 41 #[.slice a n c, .int .i64 k0] w fun e w' => e = .returned (.int .i64 (k0 + n)) ∧ RowFIn w' lo hi a n (fun j : Nat => .bool ((k0 + j) % 3 == 0)) ∧ Within lo hi w w' := by
  by_cases hn0 : n = 0
  · subst hn0
    go_enter Try.func41, Try.ntmps41
    go_wp2
    go_loop [1, 5] (fun k i => k = .int .i64 k0 ∧ i = .int .i64 0) (fun _ _ => 0)
    case atStart => exact ⟨rfl, rfl⟩
    case round =>
      obtain ⟨rfl, rfl⟩ := hrel
      go_wp2
      go_ret
      exact ⟨ret_intM (by simp), .inl rfl, Within.refl _ _ _⟩
  · obtain ⟨b, off, rfl, hlo, hhi, hb, hc, hf⟩ := hz.resolve_left hn0
    have HS : Hid (FillF w b off n (fun j : Nat => .bool ((k0 + j) % 3 == 0)) 0) := ⟨hb, fun j hj => absurd hj (by omega), fun j hj => ⟨_, hc j hj⟩, hf⟩
    clear hc hf hz
    go_enter Try.func41, Try.ntmps41
    go_wp2
    go_loopw [1, 5] (fun k si wr => ∃ i : Nat, i ≤ n ∧ si = .int .i64 i ∧ k = .int .i64 (k0 + i) ∧ Hid (FillF wr b off n (fun j : Nat => .bool ((k0 + j) % 3 == 0)) i) ∧ Hid (Within lo hi w wr)) (fun _ si _ => n - (intOf si).toNat)
    case atStart => exact ⟨0, Nat.zero_le _, rfl, by simp, HS, Within.refl _ _ _⟩
    case round =>
      obtain ⟨i, hi', rfl, rfl, hM, hW⟩ := hrel
      clear HS
      by_cases hlt : i < n
      · obtain ⟨v, q⟩ := hM.out.all i hlt
        have f := hM.out.free i hlt
        have HM2 : Hid (FillF (wr.setCell ⟨b, off + i, none⟩ (.bool ((k0 + i) % 3 == 0))) b off n (fun j : Nat => .bool ((k0 + j) % 3 == 0)) (i + 1)) := hM.out.step hlt
        have HW2 : Hid (Within lo hi w (wr.setCell ⟨b, off + i, none⟩ (.bool ((k0 + i) % 3 == 0)))) := hW.out.setCell (p := ⟨b, off + i, none⟩) hlo hhi _
        have hb1 : k0 + (i : Int) ≤ 2000000000 := by omega
        have ht3 : (k0 + (i : Int)).tmod 3 = (k0 + (i : Int)) % 3 := Int.tmod_eq_emod_of_nonneg (by omega)
        have hib : (i : Int) < n := by omega
        clear hM hW
        go_wp2
        go_roundw
        case rel => exact ⟨i + 1, by omega, by go_num, by go_num, HM2, HW2⟩
        case measure => simp [intOf]; omega
      · have hin : i = n := by omega
        subst hin
        have HR : Hid (RowFIn wr lo hi (some ⟨b, off, none⟩) i (fun j : Nat => .bool ((k0 + j) % 3 == 0))) := hM.out.row hlo hhi
        clear hM
        go_wp2
        go_ret
        exact ⟨rfl, HR.out, hW.out⟩

set_option maxHeartbeats 1000000 in
theorem heldBoolS_any (a : Option Addr) (n c : Nat) (k0 : Int) (w : World) (hn : n ≤ 1048576) (h0 : 1 ≤ k0) (h1 : k0 ≤ 33554432) (hz : RowF w a n (fun j : Nat => .bool ((k0 + j) % 3 == 0))) :
    Calls Try.prog 43 #[.slice a n c, .int .i64 k0] w fun e w' => e = .returned (.int .i64 (k0 + n)) ∧ Below w.heap.size w w' := by
  by_cases hn0 : n = 0
  · subst hn0
    go_enter Try.func43, Try.ntmps43
    go_wp2
    go_loop [1, 5] (fun k i => k = .int .i64 k0 ∧ i = .int .i64 0) (fun _ _ => 0)
    case atStart => exact ⟨rfl, rfl⟩
    case round =>
      obtain ⟨rfl, rfl⟩ := hrel
      go_wp2
      go_ret
      exact ⟨ret_intM (by simp), Below.refl _ _⟩
  · obtain ⟨b, off, rfl, hb, hc⟩ := hz.resolve_left hn0
    go_enter Try.func43, Try.ntmps43
    go_wp2
    go_loop [1, 5] (fun k si => ∃ i : Nat, i ≤ n ∧ si = .int .i64 i ∧ k = .int .i64 (k0 + i)) (fun _ si => n - (intOf si).toNat)
    case atStart => exact ⟨0, Nat.zero_le _, rfl, by simp⟩
    case round =>
      obtain ⟨i, hi', rfl, rfl⟩ := hrel
      by_cases hlt : i < n
      · have q : w.cell? ⟨b, off + i, none⟩ = some (.bool ((k0 + i) % 3 == 0)) := hc i hlt
        have hb1 : k0 + (i : Int) ≤ 2000000000 := by omega
        have ht3 : (k0 + (i : Int)).tmod 3 = (k0 + (i : Int)) % 3 := Int.tmod_eq_emod_of_nonneg (by omega)
        have hib : (i : Int) < n := by omega
        clear hc
        go_wp2
        go_round
        case rel => exact ⟨i + 1, by omega, by go_num, by go_num⟩
        case measure => simp [intOf]; omega
      · have hin : i = n := by omega
        subst hin
        go_wp2
        go_ret
        exact ⟨rfl, Below.refl _ _⟩

end Go.Proofs.Ytcjdnomhnlbmbaa
