/-
  The model's small numbers.
-/
import Derived.Test.YtlbegmepmeimkabSpecG
namespace Go.Proofs.Ytlbegmepmeimkab
open Go.RowKit

theorem l1_small {w : World} {a : Option Addr} {c : Nat} {v : Int} (h0 : 0 ≤ v) (h1 : v ≤ 65535) (hc : c ≤ maxLen) (h : Sl .i64 w a c (if v = 0 then [] else [v])) : L1 w false a c (if v = 0 then [] else [v]) v := by
  by_cases hv : v = 0
  · subst hv
    rw [if_pos rfl] at h ⊢
    exact ⟨h, ⟨Dig.nil _, rfl⟩, by simp [sg, val], (fun hg => by cases hg), hc⟩
  · rw [if_neg hv] at h ⊢
    exact ⟨h, ⟨Dig.cons h0 (by omega) (Dig.nil _), by simp [trimL, hv]⟩, by simp [sg, val], (fun hg => by cases hg), hc⟩

/-- What l1small hands back. -/
def SmallOut (w : World) (v : Int) (e : Ending) (w' : World) : Prop :=
  ∃ (a : Option Addr) (c : Nat) (ds : List Int), e = .returned (.agg #[.bool false, .slice a ds.length c]) ∧ ds.length ≤ 1 ∧ L1 w' false a c ds v ∧ Far (w.heap.size + 1) a ds ∧ Below w.heap.size w w'

set_option maxHeartbeats 2000000 in
theorem small_any (v : Int) (w : World) (h0 : 0 ≤ v) (h1 : v ≤ 65535) :
    Calls Try.prog 55 #[.int .i64 v] w fun e w' => SmallOut w v e w' := by
  go_enter Try.func55, Try.ntmps55
  go_wp2
  go_loopw [4, 5] (fun su sd wr => ∃ (u : Int) (ys : List Int), su = .int .u64 u ∧ ((u = v ∧ ys = []) ∨ (u = 0 ∧ ys = [v] ∧ 0 < v)) ∧ wr.ownsRow (w.heap.size + 1) 3 1 sd ys.length (vals .i64 ys) ∧ Below (w.heap.size + 1) (w.alloc (.cells #[.bool false, .slice none 0 0] 55)) wr ∧ w.heap.size + 1 ≤ wr.heap.size) (fun su _ _ => (intOf su).toNat)
  case atStart => exact ⟨v, [], rfl, .inl ⟨rfl, rfl⟩, own_nil _ _ _ _, Below.refl _ _, by simp⟩
  case round =>
    obtain ⟨u, ys, rfl, hcase, hown, hnx, hsz⟩ := hrel
    have hu0 : 0 ≤ u := by omega
    have hu1 : u ≤ 65535 := by omega
    by_cases hu : 0 < u
    · have hy : ys = [] ∧ u = v := by
        rcases hcase with ⟨h, h'⟩ | ⟨h, _, _⟩
        · exact ⟨h', h⟩
        · omega
      obtain ⟨hy, huv⟩ := hy
      subst hy huv
      have E1 : Hid (u % 65536 = u) := by unfold Hid; omega
      have E2 : Hid (u / 65536 = 0) := by unfold Hid; omega
      clear hcase
      go_wp2_with (at_builtin; refine app1 rfl (.tmp 15) (.tmp 19) 53 rfl (w.heap.size + 1) 3 Try.underlying53 Try.info3 (by decide) _ _ rfl rfl hown (by simp) hsz ?_; intro a1 n1 c1 w1 hown1 hb1 hs1)
      rw [E1.out] at hown1
      go_roundw
      case rel => exact ⟨0, [u], by rw [E2.out], .inr ⟨rfl, rfl, hu⟩, hown1, hnx.trans hb1, by omega⟩
      case measure => simp only [intOf]; rw [E2.out]; omega
    · have hu00 : u = 0 := by omega
      subst hu00
      have hys : ys = (if v = 0 then [] else [v]) := by
        rcases hcase with ⟨h, h'⟩ | ⟨_, h', h⟩
        · rw [h', if_pos h.symm]
        · rw [h', if_neg (by omega)]
      obtain ⟨a', c', rfl, hcm, hsl, hrn⟩ := own_row hown
      have r1 : wr.cell? ⟨w.heap.size, 0, none⟩ = some (.bool false) := by rw [hnx.cell (by simp)]; simp [go_sem]
      have r2 : wr.cell? ⟨w.heap.size, 1, none⟩ = some (.slice none 0 0) := by rw [hnx.cell (by simp)]; simp [go_sem]
      have r3 : ∀ j, wr.frozen? ⟨w.heap.size, j, none⟩ = false := by intro j; rw [hnx.frozen (by simp)]; simp [go_sem]
      have HF : Hid (Far (w.heap.size + 1) a' ys) := hrn.far (Nat.le_refl _) (Nat.le_refl _)
      have HL : Hid (L1 wr false a' c' ys v) := by unfold Hid; rw [hys] at hsl ⊢; exact l1_small h0 h1 hcm hsl
      have HB : Hid (Below w.heap.size w wr) := (bel0 _ _).trans (hnx.mono (by omega))
      have hyl : ys.length ≤ 1 := by rw [hys]; split <;> simp
      clear hown hnx hsl hrn hcase hys
      go_wp2
      refine bodyPost_ret (v := .agg #[.bool false, .slice a' ys.length c']) (by simp [results, Try.results55, go_sem, r1, r2, h0]) rfl ?_
      refine ⟨a', c', ys, rfl, hyl, ?_, HF.out, ?_⟩
      · exact (HL.out.setFar HF.out (by simp) _).setFar HF.out (by simp) _
      · exact (HB.out.setCell (by simp) _).setCell (by simp) _

end Go.Proofs.Ytlbegmepmeimkab
