/-
  The program's magnitudes: trimmed, signed, held to the limit.
-/
import Derived.Test.YtladfpljnaippabDoorSpecA
namespace Go.Proofs.YtladfpljnaippabDoor
open Go.RowKit

theorem RowNew.take {k : IntKind} {w : World} {B : Nat} {a : Option Addr} {zs : List Int} (h : RowNew k w B a zs) (m : Nat) : RowNew k w B a (zs.take m) := by
  rcases h with h | ⟨b, off, h1, h0, h2, h3, h4⟩
  · exact .inl (by rw [h]; simp)
  · refine .inr ⟨b, off, h1, h0, h2, fun j hj => ?_, fun j hj => ?_⟩
    · rw [List.length_take] at hj
      rw [h3 j (by omega)]
      simp [List.getD_eq_getElem?_getD, show j < m from by omega]
    · rw [List.length_take] at hj
      exact h4 j (by omega)

/-- What trimmed hands back: a slice of the first m digits, or nil. -/
def TrimOut (ds : List Int) (a : Option Addr) (w : World) (e : Ending) (w' : World) : Prop := ∃ m a' c', m ≤ ds.length ∧ e = .returned (.slice a' m c') ∧ trimL ds = ds.take m ∧ m ≤ c' ∧ c' ≤ maxLen ∧ (m = 0 ∨ a' = a) ∧ w' = w

set_option maxHeartbeats 400000 in
theorem trimmed_any (a : Option Addr) (c : Nat) (ds : List Int) (w : World) (B : Nat) (hn : ds.length ≤ 1048576) (hm : c ≤ maxLen) (hf : ds.length ≤ c) (hnil : a = none → c = 0) (hd : RowNew .u32 w B a ds) :
    Calls Tryd.prog 49 #[.slice a ds.length c] w fun e w' => ∃ a' c', e = .returned (.slice a' (trimL ds).length c') ∧ (trimL ds).length ≤ c' ∧ c' ≤ maxLen ∧ RowNew .u32 w B a' (trimL ds) ∧ w' = w := by
  unfold maxLen at hm
  suffices h : Calls Tryd.prog 49 #[.slice a ds.length c] w fun e w' => TrimOut ds a w e w' by
    refine h.mono ?_
    rintro e w' ⟨m, a', c', hm', rfl, ht, hc1, hc2, ha, rfl⟩
    have hl : (trimL ds).length = m := by rw [ht, List.length_take]; omega
    rw [hl]
    refine ⟨a', c', rfl, hc1, hc2, ?_, rfl⟩
    rcases ha with h0 | h0
    · subst h0
      exact .inl (List.length_eq_zero_iff.1 hl)
    · subst h0
      rw [ht]
      exact hd.take m
  cases a with
  | none =>
    have hc := hnil rfl
    subst hc
    have : ds = [] := List.length_eq_zero_iff.1 (by omega)
    subst this
    go_enter Tryd.func49, Tryd.ntmps49
    go_wp2
    go_loop [3] (fun i => i = .int .i64 0) (fun _ => 0)
    case atStart => rfl
    case round =>
      subst hrel
      go_wp2
      go_ret
      unfold TrimOut
      exact ⟨0, none, 0, by omega, rfl, rfl, by omega, by unfold maxLen; omega, .inl rfl, rfl⟩
  | some x =>
    go_enter Tryd.func49, Tryd.ntmps49
    go_wp2
    go_loop [3] (fun i => ∃ m : Nat, m ≤ ds.length ∧ i = .int .i64 m ∧ Hid (trimL ds = trimL (ds.take m))) (fun i => (intOf i).toNat)
    case atStart => exact ⟨ds.length, by omega, rfl, by unfold Hid; simp⟩
    case round =>
      obtain ⟨m, hk, rfl, ht⟩ := hrel
      by_cases h0 : m = 0
      · subst h0
        go_wp2
        go_ret
        unfold TrimOut
        exact ⟨0, none, 0, by omega, rfl, by rw [ht.out]; simp [trimL], by omega, by unfold maxLen; omega, .inl rfl, rfl⟩
      · obtain ⟨b, off, hx, _, hb, hc, _⟩ := hd.resolve_left (by intro h; subst h; simp at hk; omega)
        obtain ⟨m, rfl⟩ : ∃ m', m = m' + 1 := ⟨m - 1, by omega⟩
        injection hx with hx
        subst hx
        have g := hc m (by omega)
        have hm0 : ((m : Int) + 1 == 0) = false := by rw [beq_eq_false_iff_ne]; omega
        clear hc
        go_wp2
        · have hz : ds.getD m 0 = 0 := by simpa using ‹(ds[m]?.getD 0 == 0) = true›
          go_round
          case rel => exact ⟨m, by omega, by go_num, by unfold Hid; rw [ht.out, trim_take_step hk hz]⟩
          case measure => simp [intOf]
        · have hz : ds.getD m 0 ≠ 0 := by simpa using ‹(ds[m]?.getD 0 == 0) = false›
          go_ret
          unfold TrimOut
          exact ⟨m + 1, _, c, hk, rfl, by rw [ht.out, trim_take_stop hk hz], by omega, by unfold maxLen; omega, .inr rfl, rfl⟩

set_option maxHeartbeats 400000 in
theorem signed_any (g : Bool) (a : Option Addr) (n c : Nat) (w : World) :
    Calls Tryd.prog 50 #[.bool g, .slice a n c] w fun e w' => e = .returned (.agg #[.bool (g && decide (0 < n)), .slice a n c]) ∧ Below w.heap.size w w' := by
  cases g with
  | false =>
    go_enter Tryd.func50, Tryd.ntmps50
    go_wp2
    exact bodyPost_ret (v := .agg #[.bool false, .slice a n c]) (by simp [results, Tryd.results50, go_sem]) rfl ⟨rfl, bel0 _ _⟩
  | true =>
    by_cases h0 : 0 < n
    · have HD : Hid (decide (0 < n) = true) := by unfold Hid; simpa using h0
      go_enter Tryd.func50, Tryd.ntmps50
      go_wp2
      exact bodyPost_ret (v := .agg #[.bool true, .slice a n c]) (by simp [results, Tryd.results50, go_sem]) rfl ⟨by rw [HD.out]; rfl, bel0 _ _⟩
    · have HD : Hid (decide (0 < n) = false) := by unfold Hid; simpa using h0
      go_enter Tryd.func50, Tryd.ntmps50
      go_wp2
      exact bodyPost_ret (v := .agg #[.bool false, .slice a n c]) (by simp [results, Tryd.results50, go_sem]) rfl ⟨by rw [HD.out]; rfl, bel0 _ _⟩

/-- What withinLimit answers. -/
def limOut (g : Bool) (zs : List Int) : Bool × List Int × Int := if zs.length ≤ 512 then (g, zs, 0) else (false, [], 2)

set_option maxHeartbeats 400000 in
theorem within_any (g : Bool) (a : Option Addr) (c : Nat) (zs : List Int) (w : World) (B : Nat) (hn : zs.length ≤ 1048576) (hz : RowNew .u32 w B a zs) :
    Calls Tryd.prog 81 #[.agg #[.bool g, .slice a zs.length c]] w fun e w' => ∃ a' c', e = .returned (.tuple #[.agg #[.bool (limOut g zs).1, .slice a' (limOut g zs).2.1.length c'], .int .i64 (limOut g zs).2.2]) ∧ RowNew .u32 w' B a' (limOut g zs).2.1 ∧ Below w.heap.size w w' := by
  by_cases h5 : zs.length ≤ 512
  · have HO : Hid (limOut g zs = (g, zs, 0)) := by unfold Hid limOut; rw [if_pos h5]
    go_enter Tryd.func81, Tryd.ntmps81
    go_wp2
    refine bodyPost_ret (v := .tuple #[.agg #[.bool g, .slice a zs.length c], .int .i64 0]) (by simp [results, Tryd.results81, go_sem]) rfl ?_
    rw [HO.out]
    exact ⟨a, c, rfl, hz.later (bel2 _ _ _), bel2 _ _ _⟩
  · have HO : Hid (limOut g zs = (false, [], 2)) := by unfold Hid limOut; rw [if_neg h5]
    go_enter Tryd.func81, Tryd.ntmps81
    go_wp2
    refine bodyPost_ret (v := .tuple #[.agg #[.bool false, .slice none 0 0], .int .i64 2]) (by simp [results, Tryd.results81, go_sem]) rfl ?_
    rw [HO.out]
    exact ⟨none, 0, rfl, .inl rfl, bel2 _ _ _⟩

end Go.Proofs.YtladfpljnaippabDoor
