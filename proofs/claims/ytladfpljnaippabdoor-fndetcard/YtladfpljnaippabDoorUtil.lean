/-
  The laws' own helpers over lists of 32-bit numbers: size, copy, equality.
-/
import Derived.Test.YtladfpljnaippabDoorBase
namespace Go.Proofs.YtladfpljnaippabDoor
open Go.RowKit

set_option maxHeartbeats 400000 in
theorem szU_any (a : Option Addr) (n c : Nat) (l : Int) (w : World) (hn : n ≤ maxLen) (h0 : 0 ≤ l) (h1 : l ≤ 1048576) :
    Calls Tryd.prog 115 #[.slice a n c, .int .i64 l] w fun e w' => e = .returned (.int .i64 (if l < n then -1 else l - n)) ∧ w' = w := by
  unfold maxLen at hn
  by_cases h : l < n
  · rw [if_pos h]
    have h' : l - (n : Int) < 0 := by omega
    go_enter Tryd.func115, Tryd.ntmps115
    go_wp2
    go_ret
    exact ⟨rfl, rfl⟩
  · rw [if_neg h]
    have h' : ¬ l - (n : Int) < 0 := by omega
    go_enter Tryd.func115, Tryd.ntmps115
    go_wp2
    go_ret
    exact ⟨rfl, rfl⟩

theorem ret_bool {a b : Bool} (h : a = b) : Ending.returned (.bool a) = .returned (.bool b) := by rw [h]

theorem neq_of {zs ys : List Int} {k : Nat} (h : k < zs.length) (h' : k < ys.length) (hne : (zs[k] != ys[k]) = true) : decide (zs = ys) = false := by
  simp only [decide_eq_false_iff_not]
  intro e
  subst e
  simp at hne

theorem same_succ {zs ys : List Int} {k : Nat} (hs : ∀ j, j < k → zs.getD j 0 = ys.getD j 0) (h : k < zs.length) (h' : k < ys.length) (he : (zs[k] != ys[k]) = false) : Hid (∀ j, j < k + 1 → zs.getD j 0 = ys.getD j 0) := by
  intro j hj
  by_cases hk : j < k
  · exact hs j hk
  · have : j = k := by omega
    subst this
    simpa [List.getD_eq_getElem?_getD, h, h'] using he

theorem same_all {zs ys : List Int} (hl : zs.length = ys.length) (hs : ∀ j, j < zs.length → zs.getD j 0 = ys.getD j 0) : decide (zs = ys) = true := by
  simp only [decide_eq_true_eq]
  apply List.ext_getElem hl
  intro i h1 h2
  have := hs i h1
  simpa [List.getD_eq_getElem?_getD, h1, h2] using this

set_option maxHeartbeats 400000 in
theorem eqU_any (a a' : Option Addr) (c c' : Nat) (zs ys : List Int) (w : World) (hn : zs.length ≤ maxLen) (hn' : ys.length ≤ maxLen) (hz : RowAt .u32 w a zs) (hy : RowAt .u32 w a' ys) :
    Calls Tryd.prog 102 #[.slice a zs.length c, .slice a' ys.length c'] w fun e w' => e = .returned (.bool (decide (zs = ys))) ∧ Below w.heap.size w w' := by
  unfold maxLen at hn hn'
  by_cases hl : zs.length = ys.length
  · rcases hz with hz | ⟨b, off, rfl, hb, hc⟩
    · subst hz
      have : ys = [] := List.length_eq_zero_iff.1 hl.symm
      subst this
      go_enter Tryd.func102, Tryd.ntmps102
      go_wp2
      go_loop [5] (fun i => i = .int .i64 0) (fun _ => 0)
      case atStart => rfl
      case round =>
        subst hrel
        go_wp2
        go_ret
        exact ⟨by simp, Below.refl _ _⟩
    · rcases hy with hy | ⟨b', off', rfl, hb', hc'⟩
      · subst hy
        have : zs = [] := List.length_eq_zero_iff.1 hl
        subst this
        go_enter Tryd.func102, Tryd.ntmps102
        go_wp2
        go_loop [5] (fun i => i = .int .i64 0) (fun _ => 0)
        case atStart => rfl
        case round =>
          subst hrel
          go_wp2
          go_ret
          exact ⟨by simp, Below.refl _ _⟩
      · have hne : ((zs.length : Int) != (ys.length : Int)) = false := by simp; omega
        have HL : Hid (zs.length = ys.length) := hl
        clear hl
        go_enter Tryd.func102, Tryd.ntmps102
        go_wp2
        go_loopw [5] (fun i wr => ∃ k : Nat, k ≤ zs.length ∧ i = .int .i64 k ∧ Hid (∀ j, j < k → zs.getD j 0 = ys.getD j 0) ∧ Below w.heap.size w wr) (fun i _ => zs.length - (intOf i).toNat)
        case atStart => exact ⟨0, Nat.zero_le _, rfl, fun j hj => absurd hj (by omega), Below.refl _ _⟩
        case round =>
          obtain ⟨k, hk, rfl, hsame, hnx⟩ := hrel
          by_cases hlt : k < zs.length
          · have hlt' : k < ys.length := by have := HL.out; omega
            have g1 : wr.cell? ⟨b, off + k, none⟩ = some (.int .u32 (zs.getD k 0)) := (hnx.cell (p := ⟨b, off + k, none⟩) hb).trans (hc k hlt)
            have g2 : wr.cell? ⟨b', off' + k, none⟩ = some (.int .u32 (ys.getD k 0)) := (hnx.cell (p := ⟨b', off' + k, none⟩) hb').trans (hc' k hlt')
            clear hc hc'
            go_wp2
            go_quiet (fail)
            go_wp2
            · go_ret
              exact ⟨ret_bool (neq_of hlt hlt' ‹_›).symm, below_drewN hnx _⟩
            · go_roundw
              case rel => exact ⟨k + 1, by omega, by go_num, same_succ hsame.out hlt hlt' ‹_›, below_drewN hnx _⟩
              case measure => simp [intOf]; omega
          · go_wp2
            go_ret
            exact ⟨ret_bool (same_all HL.out (by intro j hj; exact hsame.out j (by omega))).symm, hnx⟩
  · have hne : ((zs.length : Int) != (ys.length : Int)) = true := by simp; omega
    go_enter Tryd.func102, Tryd.ntmps102
    go_wp2
    go_ret
    exact ⟨by simp; intro h; exact hl (by rw [h]), Below.refl _ _⟩

theorem fill_step (zs : List Int) (k : Nat) (h : k < zs.length) : (zs.take k ++ List.replicate (zs.length - k) 0).set k (zs.getD k 0) = zs.take (k + 1) ++ List.replicate (zs.length - (k + 1)) 0 := by
  apply List.ext_getElem?
  intro j
  simp only [List.getElem?_set, List.getElem?_append, List.getElem?_take, List.getElem?_replicate, List.length_append, List.length_take, List.length_replicate, List.getD_eq_getElem?_getD]
  by_cases e : k = j
  · subst e
    simp [Nat.min_eq_left (Nat.le_of_lt h), Nat.min_eq_left (show k + 1 ≤ zs.length from h), show k < k + (zs.length - k) from by omega, h]
  · by_cases h1 : j < k
    · simp [e, Nat.min_eq_left (Nat.le_of_lt h), Nat.min_eq_left (show k + 1 ≤ zs.length from h), h1, show j < k + 1 from by omega]
    · simp [e, Nat.min_eq_left (Nat.le_of_lt h), Nat.min_eq_left (show k + 1 ≤ zs.length from h), h1, show ¬ j < k + 1 from by omega, show (j - k < zs.length - k) = (j - (k + 1) < zs.length - (k + 1)) from propext (by omega)]

set_option maxHeartbeats 400000 in
theorem toU_any (a : Option Addr) (c : Nat) (zs : List Int) (w : World) (hn : zs.length ≤ 1048576) (hz : RowAt .u32 w a zs) :
    Calls Tryd.prog 116 #[.slice a zs.length c] w fun e w' => ∃ a', e = .returned (.slice a' zs.length zs.length) ∧ RowNew .u32 w' w.heap.size a' zs ∧ Below w.heap.size w w' := by
  have hmk := run_make_row' (P := Tryd.prog) 25 33 (.int .u32 0) 4 Tryd.underlying25 Tryd.info33 rfl .i64 .i64 zs.length (by omega) (by omega)
  go_enter Tryd.func116, Tryd.ntmps116
  go_wp2
  go_loopw [4] (fun i wr => ∃ k : Nat, k ≤ zs.length ∧ i = .int .i64 k ∧ Own .u32 wr w.heap.size 0 (zs.take k ++ List.replicate (zs.length - k) 0) ∧ Below w.heap.size w wr) (fun i _ => zs.length - (intOf i).toNat)
  case atStart => exact ⟨0, Nat.zero_le _, rfl, by simpa using Own.made w zs.length _, bel0 _ _⟩
  case round =>
    obtain ⟨k, hk, rfl, hown, hnx⟩ := hrel
    by_cases hlt : k < zs.length
    · obtain ⟨b, off, rfl, hb, hc⟩ := hz.resolve_left (by intro h; subst h; simp at hlt)
      have g1 : wr.cell? ⟨b, off + k, none⟩ = some (.int .u32 (zs.getD k 0)) := (hnx.cell (p := ⟨b, off + k, none⟩) hb).trans (hc k hlt)
      have g2 := hown.cell k (by simp; omega)
      have g3 := hown.free k (by simp; omega)
      have hs := hown.set k (zs.getD k 0) (by simp; omega)
      rw [fill_step zs k hlt] at hs
      have hbe := hnx.setCell (p := ⟨w.heap.size, 0 + k, none⟩) (Nat.le_refl _) (.int .u32 (zs.getD k 0))
      rw [Nat.zero_add] at g2 g3 hs hbe
      have HS : Hid (Own .u32 (wr.setCell ⟨w.heap.size, k, none⟩ (.int .u32 (zs.getD k 0))) w.heap.size 0 (zs.take (k + 1) ++ List.replicate (zs.length - (k + 1)) 0)) := hs
      have HB : Hid (Below w.heap.size w (wr.setCell ⟨w.heap.size, k, none⟩ (.int .u32 (zs.getD k 0)))) := hbe
      clear hs hbe hc hown hnx hz
      go_wp2
      go_roundw
      case rel => exact ⟨k + 1, by omega, by go_num, by simpa [hlt] using HS.out, by simpa [hlt] using HB.out⟩
      case measure => simp [intOf]; omega
    · have e : k = zs.length := by omega
      subst e
      go_wp2
      go_ret
      exact ⟨_, rfl, by simpa using hown.new (Nat.le_refl _), hnx⟩

end Go.Proofs.YtladfpljnaippabDoor
