/-
  The program's order of magnitudes.
-/
import Derived.Test.YtlbegmepmeimkabSpecD
namespace Go.Proofs.Ytlbegmepmeimkab
open Go.RowKit

set_option maxHeartbeats 1000000 in
theorem cmpI_any (x y : Int) (w : World) :
    Calls Try.prog 85 #[.int .i64 x, .int .i64 y] w fun e w' => e = .returned (.int .i64 (sgn (x - y))) ∧ w' = w := by
  have hx : (x != x) = false := by simp
  have hy : (y != y) = false := by simp
  rcases sgn_cases (x - y) with ⟨h1, h2⟩ | ⟨h1, h2⟩ | ⟨h1, h2⟩
  · have HS : Hid (sgn (x - y) = -1) := h2
    have h3 : x < y := by omega
    clear h1 h2
    go_enter Try.func85, Try.ntmps85
    go_wp2
    go_ret
    exact ⟨ret_int HS.out.symm, rfl⟩
  · have HS : Hid (sgn (x - y) = 0) := h2
    have h3 : ¬ x < y := by omega
    have h4 : ¬ y < x := by omega
    clear h1 h2
    go_enter Try.func85, Try.ntmps85
    go_wp2
    go_ret
    exact ⟨ret_int HS.out.symm, rfl⟩
  · have HS : Hid (sgn (x - y) = 1) := h2
    have h3 : ¬ x < y := by omega
    have h4 : y < x := by omega
    clear h1 h2
    go_enter Try.func85, Try.ntmps85
    go_wp2
    go_ret
    exact ⟨ret_int HS.out.symm, rfl⟩

set_option maxHeartbeats 1000000 in
theorem cmpU_any (x y : Int) (w : World) :
    Calls Try.prog 86 #[.int .u32 x, .int .u32 y] w fun e w' => e = .returned (.int .i64 (sgn (x - y))) ∧ w' = w := by
  have hx : (x != x) = false := by simp
  have hy : (y != y) = false := by simp
  rcases sgn_cases (x - y) with ⟨h1, h2⟩ | ⟨h1, h2⟩ | ⟨h1, h2⟩
  · have HS : Hid (sgn (x - y) = -1) := h2
    have h3 : x < y := by omega
    clear h1 h2
    go_enter Try.func86, Try.ntmps86
    go_wp2
    go_ret
    exact ⟨ret_int HS.out.symm, rfl⟩
  · have HS : Hid (sgn (x - y) = 0) := h2
    have h3 : ¬ x < y := by omega
    have h4 : ¬ y < x := by omega
    clear h1 h2
    go_enter Try.func86, Try.ntmps86
    go_wp2
    go_ret
    exact ⟨ret_int HS.out.symm, rfl⟩
  · have HS : Hid (sgn (x - y) = 1) := h2
    have h3 : ¬ x < y := by omega
    have h4 : y < x := by omega
    clear h1 h2
    go_enter Try.func86, Try.ntmps86
    go_wp2
    go_ret
    exact ⟨ret_int HS.out.symm, rfl⟩

set_option maxHeartbeats 1000000 in
theorem order_any (a a' : Option Addr) (c c' : Nat) (zs ys : List Int) (w : World) (hn : zs.length ≤ 1048576) (_hn' : ys.length ≤ 1048576) (hz : RowAt .u32 w a zs) (hy : RowAt .u32 w a' ys) :
    Calls Try.prog 81 #[.slice a zs.length c, .slice a' ys.length c'] w fun e w' => e = .returned (.int .i64 (cmpL zs ys)) ∧ Below w.heap.size w w' := by
  by_cases hl : zs.length = ys.length
  · have HC : Hid (cmpL zs ys = cmpTop zs ys) := by unfold Hid cmpL; rw [if_pos hl]
    have hne : ((zs.length : Int) != (ys.length : Int)) = false := by rw [bne_eq_false_iff_eq]; omega
    have HL : Hid (zs.length = ys.length) := hl
    clear hl
    go_enter Try.func81, Try.ntmps81
    go_wp2
    go_loopw [5] (fun i wr => ∃ k : Nat, k ≤ zs.length ∧ i = .int .i64 ((k : Int) - 1) ∧ Hid (cmpTop zs ys = cmpTop (zs.take k) (ys.take k)) ∧ Below w.heap.size w wr) (fun i _ => (intOf i + 1).toNat)
    case atStart => exact ⟨zs.length, Nat.le_refl _, rfl, by unfold Hid; rw [List.take_length, HL.out, List.take_length], Below.refl _ _⟩
    case round =>
      obtain ⟨k, hk, rfl, hsame, hnx⟩ := hrel
      by_cases h0 : k = 0
      · subst h0
        go_wp2
        go_ret
        exact ⟨ret_int (by rw [HC.out, hsame.out]; simp [cmpTop]), hnx⟩
      · obtain ⟨k, rfl⟩ : ∃ m, k = m + 1 := ⟨k - 1, by omega⟩
        have hlt' : k < ys.length := by have := HL.out; omega
        obtain ⟨b, off, rfl, g1⟩ := row_cell hz hnx (show k < zs.length by omega)
        obtain ⟨b', off', rfl, g2⟩ := row_cell hy hnx hlt'
        have hst := cmpTop_take (show k < zs.length by omega) hlt'
        obtain ⟨x, hx⟩ : ∃ x, x = zs.getD k 0 := ⟨_, rfl⟩
        obtain ⟨y, hyy⟩ : ∃ y, y = ys.getD k 0 := ⟨_, rfl⟩
        rw [← hx] at g1 hst
        rw [← hyy] at g2 hst
        have HST : Hid (cmpL zs ys = if x = y then cmpTop (zs.take k) (ys.take k) else sgn (x - y)) := by unfold Hid; rw [HC.out, hsame.out, hst]
        have HS2 : Hid (cmpTop zs ys = if x = y then cmpTop (zs.take k) (ys.take k) else sgn (x - y)) := by unfold Hid; rw [hsame.out, hst]
        clear hst hx hyy hsame HC hz hy
        by_cases c1 : x = y
        · have hxy : (x != y) = false := by simp [c1]
          have C1 : Hid (x = y) := c1
          clear c1
          go_wp2
          go_quiet (fail)
          go_wp2
          go_roundw
          case rel => exact ⟨k, by omega, by go_num, by unfold Hid; rw [HS2.out, if_pos C1.out], below_drewN hnx _⟩
          case measure => simp [intOf]
        · have hxy : (x != y) = true := by simp [c1]
          have C1 : Hid (¬ x = y) := c1
          clear c1
          go_wp2
          go_quiet (fail)
          have hnx' := below_drewN hnx nq
          have g1' : (wr.drewN nq).cell? ⟨b, off + k, none⟩ = some (.int .u32 x) := by simpa using g1
          have g2' : (wr.drewN nq).cell? ⟨b', off' + k, none⟩ = some (.int .u32 y) := by simpa using g2
          clear hnx g1 g2
          generalize wr.drewN nq = wq at *
          go_wp2
          go_quiet (first | (go_at_call 86; refine Calls.quiet_of_same (cmpU_any _ _ _)))
          go_wp2
          go_ret
          exact ⟨ret_int (by rw [HST.out, if_neg C1.out]), below_drewN hnx' _⟩
  · have hne : ((zs.length : Int) != (ys.length : Int)) = true := by rw [bne_iff_ne]; omega
    have HC : Hid (cmpL zs ys = sgn ((zs.length : Int) - (ys.length : Int))) := by
      unfold Hid cmpL sgn
      rw [if_neg hl]
      by_cases h2 : zs.length < ys.length
      · rw [if_pos h2, if_pos (by omega)]
      · rw [if_neg h2, if_neg (by omega), if_neg (by omega)]
    clear hl
    go_enter Try.func81, Try.ntmps81
    go_wp2_with (go_at_call 85; refine (cmpI_any _ _ _).mono ?_; rintro e w1 ⟨rfl, rfl⟩)
    go_ret
    exact ⟨ret_int HC.out.symm, Below.refl _ _⟩

end Go.Proofs.Ytlbegmepmeimkab
