/-
  The model's numbers of at most two digits, with a sign.
-/
import Derived.Test.YtladfpljnaippaaDoorSpecG
namespace Go.Proofs.YtladfpljnaippaaDoor
open Go.RowKit

/-- The digits of a number below 2^32. -/
def sdig (V : Int) : List Int := if V = 0 then [] else if V < 65536 then [V] else [V % 65536, V / 65536]

theorem l1_sdig {w : World} {g : Bool} {a : Option Addr} {c : Nat} {v V : Int} (h0 : 0 ≤ V) (h1 : V < 4294967296) (hv : v = sg g V) (hg : g = true → V ≠ 0) (hc : c ≤ maxLen) (h : Sl .i64 w a c (sdig V)) : L1 w g a c (sdig V) v := by
  by_cases hz : V = 0
  · have e : sdig V = [] := by unfold sdig; rw [if_pos hz]
    rw [e] at h ⊢
    exact ⟨h, ⟨Dig.nil _, rfl⟩, by rw [hv, hz]; rfl, fun h2 => absurd hz (hg h2), hc⟩
  · by_cases hs : V < 65536
    · have e : sdig V = [V] := by unfold sdig; rw [if_neg hz, if_pos hs]
      rw [e] at h ⊢
      exact ⟨h, ⟨Dig.cons h0 hs (Dig.nil _), by simp [trimL, hz]⟩, by rw [hv]; simp [val], by simp, hc⟩
    · have e : sdig V = [V % 65536, V / 65536] := by unfold sdig; rw [if_neg hz, if_neg hs]
      have hq : V / 65536 ≠ 0 := by omega
      rw [e] at h ⊢
      exact ⟨h, ⟨Dig.cons (by omega) (by omega) (Dig.cons (by omega) (by omega) (Dig.nil _)), by simp [trimL, hq]⟩, by rw [hv]; congr 1; simp [val]; omega, by simp, hc⟩

/-- What l1small hands back. -/
def Small2Out (w : World) (v : Int) (e : Ending) (w' : World) : Prop :=
  ∃ (g : Bool) (a : Option Addr) (c : Nat) (ds : List Int), e = .returned (.agg #[.bool g, .slice a ds.length c]) ∧ ds.length ≤ 2 ∧ L1 w' g a c ds v ∧ Far (w.heap.size + 1) a ds ∧ Below w.heap.size w w'

theorem wrap_i64 {n : Int} (h0 : 0 ≤ n) (h1 : n < 9223372036854775808) : IntKind.i64.wrap n = n := by
  simp [IntKind.wrap, IntKind.bits, IntKind.signed]
  omega

set_option maxHeartbeats 4000000 in
theorem small2_pos (v : Int) (w : World) (h0 : 0 ≤ v) (h1 : v < 4294967296) :
    Calls Tryd.prog 43 #[.int .i64 v] w fun e w' => Small2Out w v e w' := by
  obtain ⟨V, hV⟩ : ∃ V, V = v := ⟨_, rfl⟩
  have hV0 : 0 ≤ V := by omega
  have hV1 : V < 4294967296 := by omega
  have HVV : Hid (V = v) := hV
  clear hV
  go_enter Tryd.func43, Tryd.ntmps43
  go_wp2
  go_loopw [4, 5] (fun su sd wr => ∃ (u : Int) (ys : List Int), su = .int .u64 u ∧ ((u = V ∧ ys = []) ∨ (u = V / 65536 ∧ ys = [V % 65536] ∧ 0 < V) ∨ (u = 0 ∧ ys = [V % 65536, V / 65536] ∧ 65536 ≤ V)) ∧ wr.ownsRow (w.heap.size + 1) 3 1 sd ys.length (vals .i64 ys) ∧ Below (w.heap.size + 1) (w.alloc (.cells #[.bool false, .slice none 0 0] 43)) wr ∧ w.heap.size + 1 ≤ wr.heap.size) (fun su _ _ => (intOf su).toNat)
  case atStart => exact ⟨V, [], by rw [HVV.out], .inl ⟨rfl, rfl⟩, own_nil _ _ _ _, Below.refl _ _, by simp⟩
  case round =>
    obtain ⟨u, ys, rfl, hcase, hown, hnx, hsz⟩ := hrel
    have hu0 : 0 ≤ u := by omega
    have hu1 : u < 4294967296 := by omega
    by_cases hu : 0 < u
    · have E1 : Hid (IntKind.i64.wrap (u % 65536) = u % 65536) := wrap_i64 (by omega) (by omega)
      rcases hcase with ⟨hc1, hc2⟩ | ⟨hc1, hc2, hc3⟩ | ⟨hc1, _, _⟩
      · subst hc2
        have HC : Hid (_ = _) := hc1
        clear hc1
        go_wp2_with (at_builtin; refine app1 rfl (.tmp 15) (.tmp 19) 41 rfl (w.heap.size + 1) 3 Tryd.underlying41 Tryd.info3 (by decide) _ _ rfl rfl hown (by simp) hsz ?_; intro a1 n1 c1 w1 hown1 hb1 hs1)
        go_roundw
        case rel => exact ⟨u / 65536, [u % 65536], rfl, .inr (.inl ⟨by rw [HC.out], by rw [HC.out], by have := HC.out; omega⟩), hown1, hnx.trans hb1, by omega⟩
        case measure => simp only [intOf]; omega
      · subst hc2
        have HC : Hid (_ = _) := hc1
        clear hc1
        go_wp2_with (at_builtin; refine app1 rfl (.tmp 15) (.tmp 19) 41 rfl (w.heap.size + 1) 3 Tryd.underlying41 Tryd.info3 (by decide) _ _ rfl rfl hown (by simp) hsz ?_; intro a1 n1 c1 w1 hown1 hb1 hs1)
        go_roundw
        case rel => exact ⟨u / 65536, [V % 65536, u % 65536], rfl, .inr (.inr ⟨by have := HC.out; omega, by have := HC.out; have e : u % 65536 = V / 65536 := (by omega); rw [e], by have := HC.out; omega⟩), hown1, hnx.trans hb1, by omega⟩
        case measure => simp only [intOf]; omega
      · omega
    · have hu00 : u = 0 := by omega
      subst hu00
      have hys : ys = sdig V := by
        unfold sdig
        rcases hcase with ⟨hc1, hc2⟩ | ⟨hc1, hc2, hc3⟩ | ⟨hc1, hc2, hc3⟩
        · rw [hc2, if_pos hc1.symm]
        · rw [hc2, if_neg (by omega), if_pos (by omega), Int.emod_eq_of_lt (by omega) (by omega)]
        · rw [hc2, if_neg (by omega), if_neg (by omega)]
      obtain ⟨a', c', rfl, hcm, hsl, hrn⟩ := own_row hown
      have r1 : wr.cell? ⟨w.heap.size, 0, none⟩ = some (.bool false) := by rw [hnx.cell (by simp)]; simp [go_sem]
      have r2 : wr.cell? ⟨w.heap.size, 1, none⟩ = some (.slice none 0 0) := by rw [hnx.cell (by simp)]; simp [go_sem]
      have r3 : ∀ j, wr.frozen? ⟨w.heap.size, j, none⟩ = false := by intro j; rw [hnx.frozen (by simp)]; simp [go_sem]
      have HF : Hid (Far (w.heap.size + 1) a' ys) := hrn.far (Nat.le_refl _) (Nat.le_refl _)
      have HL : Hid (L1 wr false a' c' ys v) := by unfold Hid; rw [hys] at hsl ⊢; exact l1_sdig hV0 hV1 (by have := HVV.out; simp [sg]; omega) (by intro h; cases h) hcm hsl
      have HB : Hid (Below w.heap.size w wr) := (bel0 _ _).trans (hnx.mono (by omega))
      have hyl : ys.length ≤ 2 := by rw [hys]; unfold sdig; split <;> (try split) <;> simp
      clear hown hnx hsl hrn hcase hys
      go_wp2
      refine bodyPost_ret (v := .agg #[.bool false, .slice a' ys.length c']) (by simp [results, Tryd.results43, go_sem, r1, r2, h0]) rfl ?_
      refine ⟨false, a', c', ys, rfl, hyl, ?_, HF.out, ?_⟩
      · exact (HL.out.setFar HF.out (by simp) _).setFar HF.out (by simp) _
      · exact (HB.out.setCell (by simp) _).setCell (by simp) _

set_option maxHeartbeats 4000000 in
theorem small2_neg (v : Int) (w : World) (h0 : v < 0) (h1 : -4294967296 < v) :
    Calls Tryd.prog 43 #[.int .i64 v] w fun e w' => Small2Out w v e w' := by
  obtain ⟨V, hV⟩ : ∃ V, V = -v := ⟨_, rfl⟩
  have hV0 : 0 ≤ V := by omega
  have hV1 : V < 4294967296 := by omega
  have HVV : Hid (V = -v) := hV
  clear hV
  go_enter Tryd.func43, Tryd.ntmps43
  go_wp2
  go_loopw [4, 5] (fun su sd wr => ∃ (u : Int) (ys : List Int), su = .int .u64 u ∧ ((u = V ∧ ys = []) ∨ (u = V / 65536 ∧ ys = [V % 65536] ∧ 0 < V) ∨ (u = 0 ∧ ys = [V % 65536, V / 65536] ∧ 65536 ≤ V)) ∧ wr.ownsRow (w.heap.size + 1) 3 1 sd ys.length (vals .i64 ys) ∧ Below (w.heap.size + 1) (w.alloc (.cells #[.bool false, .slice none 0 0] 43)) wr ∧ w.heap.size + 1 ≤ wr.heap.size) (fun su _ _ => (intOf su).toNat)
  case atStart => exact ⟨V, [], by rw [HVV.out]; exact congrArg _ (by simp [IntKind.wrap, IntKind.bits, IntKind.signed]; omega), .inl ⟨rfl, rfl⟩, own_nil _ _ _ _, Below.refl _ _, by simp⟩
  case round =>
    obtain ⟨u, ys, rfl, hcase, hown, hnx, hsz⟩ := hrel
    have hu0 : 0 ≤ u := by omega
    have hu1 : u < 4294967296 := by omega
    by_cases hu : 0 < u
    · have E1 : Hid (IntKind.i64.wrap (u % 65536) = u % 65536) := wrap_i64 (by omega) (by omega)
      rcases hcase with ⟨hc1, hc2⟩ | ⟨hc1, hc2, hc3⟩ | ⟨hc1, _, _⟩
      · subst hc2
        have HC : Hid (_ = _) := hc1
        clear hc1
        go_wp2_with (at_builtin; refine app1 rfl (.tmp 15) (.tmp 19) 41 rfl (w.heap.size + 1) 3 Tryd.underlying41 Tryd.info3 (by decide) _ _ rfl rfl hown (by simp) hsz ?_; intro a1 n1 c1 w1 hown1 hb1 hs1)
        go_roundw
        case rel => exact ⟨u / 65536, [u % 65536], rfl, .inr (.inl ⟨by rw [HC.out], by rw [HC.out], by have := HC.out; omega⟩), hown1, hnx.trans hb1, by omega⟩
        case measure => simp only [intOf]; omega
      · subst hc2
        have HC : Hid (_ = _) := hc1
        clear hc1
        go_wp2_with (at_builtin; refine app1 rfl (.tmp 15) (.tmp 19) 41 rfl (w.heap.size + 1) 3 Tryd.underlying41 Tryd.info3 (by decide) _ _ rfl rfl hown (by simp) hsz ?_; intro a1 n1 c1 w1 hown1 hb1 hs1)
        go_roundw
        case rel => exact ⟨u / 65536, [V % 65536, u % 65536], rfl, .inr (.inr ⟨by have := HC.out; omega, by have := HC.out; have e : u % 65536 = V / 65536 := (by omega); rw [e], by have := HC.out; omega⟩), hown1, hnx.trans hb1, by omega⟩
        case measure => simp only [intOf]; omega
      · omega
    · have hu00 : u = 0 := by omega
      subst hu00
      have hys : ys = sdig V := by
        unfold sdig
        rcases hcase with ⟨hc1, hc2⟩ | ⟨hc1, hc2, hc3⟩ | ⟨hc1, hc2, hc3⟩
        · rw [hc2, if_pos hc1.symm]
        · rw [hc2, if_neg (by omega), if_pos (by omega), Int.emod_eq_of_lt (by omega) (by omega)]
        · rw [hc2, if_neg (by omega), if_neg (by omega)]
      obtain ⟨a', c', rfl, hcm, hsl, hrn⟩ := own_row hown
      have r1 : wr.cell? ⟨w.heap.size, 0, none⟩ = some (.bool false) := by rw [hnx.cell (by simp)]; simp [go_sem]
      have r2 : wr.cell? ⟨w.heap.size, 1, none⟩ = some (.slice none 0 0) := by rw [hnx.cell (by simp)]; simp [go_sem]
      have r3 : ∀ j, wr.frozen? ⟨w.heap.size, j, none⟩ = false := by intro j; rw [hnx.frozen (by simp)]; simp [go_sem]
      have HF : Hid (Far (w.heap.size + 1) a' ys) := hrn.far (Nat.le_refl _) (Nat.le_refl _)
      have HL : Hid (L1 wr true a' c' ys v) := by unfold Hid; rw [hys] at hsl ⊢; exact l1_sdig hV0 hV1 (by have := HVV.out; simp [sg]; omega) (by have := HVV.out; intro _; omega) hcm hsl
      have HB : Hid (Below w.heap.size w wr) := (bel0 _ _).trans (hnx.mono (by omega))
      have hyl : ys.length ≤ 2 := by rw [hys]; unfold sdig; split <;> (try split) <;> simp
      clear hown hnx hsl hrn hcase hys
      go_wp2
      refine bodyPost_ret (v := .agg #[.bool true, .slice a' ys.length c']) (by simp [results, Tryd.results43, go_sem, r1, r2]) rfl ?_
      refine ⟨true, a', c', ys, rfl, hyl, ?_, HF.out, ?_⟩
      · exact (HL.out.setFar HF.out (by simp) _).setFar HF.out (by simp) _
      · exact (HB.out.setCell (by simp) _).setCell (by simp) _

theorem small2_any (v : Int) (w : World) (h0 : -4294967296 < v) (h1 : v < 4294967296) :
    Calls Tryd.prog 43 #[.int .i64 v] w fun e w' => Small2Out w v e w' := by
  by_cases h : 0 ≤ v
  · exact small2_pos v w h h1
  · exact small2_neg v w (by omega) h0

end Go.Proofs.YtladfpljnaippaaDoor
