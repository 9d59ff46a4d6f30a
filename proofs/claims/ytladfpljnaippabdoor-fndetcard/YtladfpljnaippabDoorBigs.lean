/-
  The laws' own helpers over Bigs, and both BigValid.
-/
import Derived.Test.YtladfpljnaippabDoorUtil
namespace Go.Proofs.YtladfpljnaippabDoor
open Go.RowKit

set_option maxHeartbeats 400000 in
theorem szB_any (g : Bool) (a : Option Addr) (n c : Nat) (l : Int) (w : World) (hn : n ≤ maxLen) (h0 : 0 ≤ l) (h1 : l ≤ 1048576) :
    Calls Tryd.prog 100 #[.agg #[.bool g, .slice a n c], .int .i64 l] w fun e w' => e = .returned (.int .i64 (if l < n then -1 else l - n)) ∧ Below w.heap.size w w' := by
  by_cases h : l < n
  · rw [if_pos h]
    go_enter Tryd.func100, Tryd.ntmps100
    go_wp2_with (go_at_call 115; refine (szU_any _ _ _ _ _ hn h0 h1).mono ?_; rintro e w' ⟨rfl, rfl⟩; rw [if_pos h])
    go_ret
    exact ⟨rfl, bel0 _ _⟩
  · rw [if_neg h]
    have h2 : 0 ≤ l - (n : Int) := by omega
    go_enter Tryd.func100, Tryd.ntmps100
    go_wp2_with (go_at_call 115; refine (szU_any _ _ _ _ _ hn h0 h1).mono ?_; rintro e w' ⟨rfl, rfl⟩; rw [if_neg h])
    go_ret
    exact ⟨rfl, bel0 _ _⟩

set_option maxHeartbeats 400000 in
theorem toB_any (g : Bool) (a : Option Addr) (c : Nat) (zs : List Int) (w : World) (hn : zs.length ≤ 1048576) (hz : RowAt .u32 w a zs) :
    Calls Tryd.prog 101 #[.agg #[.bool g, .slice a zs.length c]] w fun e w' => ∃ a', e = .returned (.agg #[.bool g, .slice a' zs.length zs.length]) ∧ RowNew .u32 w' w.heap.size a' zs ∧ Below w.heap.size w w' := by
  go_enter Tryd.func101, Tryd.ntmps101
  go_wp2_with fail
  refine (toU_any _ _ zs _ hn (hz.later (bel3 _ _ _ _))).mono ?_
  rintro e w1 ⟨a', rfl, hrow, hb⟩
  obtain ⟨hc, hf⟩ := bcell hb
  have hsz := hb.size
  simp at hsz
  have q1 : w1.cell? ⟨w.heap.size + 1, 0, none⟩ = some (.bool false) := by rw [hc _ _ (by simp)]; simp [go_sem]
  have q2 : w1.cell? ⟨w.heap.size + 1, 1, none⟩ = some (.slice none 0 0) := by rw [hc _ _ (by simp)]; simp [go_sem]
  have hB := hb.mono (B' := w.heap.size) (by simp; omega)
  have HB : Hid (Below w.heap.size w w1) := (bel3 _ _ _ _).trans hB
  have HR : Hid (RowNew .u32 w1 (w.heap.size + 1 + 1 + 1) a' zs) := by unfold Hid; simpa using hrow
  clear hB hrow hb
  go_wp2
  refine bodyPost_ret (v := .agg #[.bool g, .slice a' zs.length zs.length]) (by simp [results, Tryd.results101, go_sem, q1, q2]) rfl ⟨a', rfl, ?_, ?_⟩
  · exact (((HR.out.setLow (by simp) _).setLow (by simp) _).setLow (by simp) _).down (by omega)
  · exact ((HB.out.setCell (by simp; omega) _).setCell (by simp) _).setCell (by simp) _

set_option maxHeartbeats 400000 in
theorem eqB_any (g g' : Bool) (a a' : Option Addr) (c c' : Nat) (zs ys : List Int) (w : World) (hn : zs.length ≤ maxLen) (hn' : ys.length ≤ maxLen) (hz : RowAt .u32 w a zs) (hy : RowAt .u32 w a' ys) :
    Calls Tryd.prog 69 #[.agg #[.bool g, .slice a zs.length c], .agg #[.bool g', .slice a' ys.length c']] w fun e w' => e = .returned (.bool (decide (g = g' ∧ zs = ys))) ∧ Below w.heap.size w w' := by
  by_cases hg : g = g'
  · subst hg
    by_cases he : zs = ys
    · subst he
      go_enter Tryd.func69, Tryd.ntmps69
      go_wp2_with fail
      refine (eqU_any _ _ _ _ zs zs _ hn hn' (hz.later (bel2 _ _ _)) (hy.later (bel2 _ _ _))).mono ?_
      rintro e w1 ⟨rfl, hb⟩
      rw [show decide (zs = zs) = true from by simp]
      have HB : Hid (Below w.heap.size w w1) := (bel2 _ _ _).trans (hb.mono (by simp; omega))
      clear hb
      go_wp2
      go_ret
      exact ⟨ret_bool (by simp), HB.out⟩
    · have hd : decide (zs = ys) = false := by simpa using he
      go_enter Tryd.func69, Tryd.ntmps69
      go_wp2_with fail
      refine (eqU_any _ _ _ _ zs ys _ hn hn' (hz.later (bel2 _ _ _)) (hy.later (bel2 _ _ _))).mono ?_
      rintro e w1 ⟨rfl, hb⟩
      rw [hd]
      have HB : Hid (Below w.heap.size w w1) := (bel2 _ _ _).trans (hb.mono (by simp; omega))
      clear hb
      go_wp2
      go_ret
      exact ⟨ret_bool (by simp [he]), HB.out⟩
  · have hg' : g' = !g := by cases g <;> cases g' <;> simp_all
    subst hg'
    clear hg
    cases g
    all_goals
      go_enter Tryd.func69, Tryd.ntmps69
      go_wp2
      go_ret
      exact ⟨ret_bool (by simp), bel2 _ _ _⟩

theorem len_ne {zs : List Int} (h : ¬ zs.length = 0) : ((zs.length : Int) == 0) = false := by
  rw [beq_eq_false_iff_ne]; omega

/-- A Big is valid. -/
def validB (g : Bool) (zs : List Int) : Bool := if zs.length = 0 then !g else (decide (zs.length ≤ 512) && (zs.getD (zs.length - 1) 0 != 0))

set_option maxHeartbeats 400000 in
theorem validI_any (g : Bool) (a : Option Addr) (c : Nat) (zs : List Int) (w : World) (hn : zs.length ≤ maxLen) (hz : RowAt .u32 w a zs) :
    Calls Tryd.prog 78 #[.agg #[.bool g, .slice a zs.length c]] w fun e w' => e = .returned (.bool (validB g zs)) ∧ Below w.heap.size w w' := by
  unfold maxLen at hn
  by_cases h0 : zs.length = 0
  · have hv : validB g zs = !g := by unfold validB; rw [if_pos h0]
    rw [hv]
    have e0 : ((zs.length : Int) == 0) = true := by simp [h0]
    go_enter Tryd.func78, Tryd.ntmps78
    go_wp2
    go_ret
    exact ⟨rfl, bel0 _ _⟩
  · have hv : validB g zs = (decide (zs.length ≤ 512) && (zs.getD (zs.length - 1) 0 != 0)) := by unfold validB; rw [if_neg h0]
    have e0 : ((zs.length : Int) == 0) = false := len_ne h0
    obtain ⟨b, off, rfl, hb, hc⟩ := hz.resolve_left (by intro h; subst h; simp at h0)
    have hlast := hc (zs.length - 1) (by omega)
    by_cases h5 : zs.length ≤ 512
    · go_enter Tryd.func78, Tryd.ntmps78
      go_wp2
      go_ret
      exact ⟨ret_bool (by rw [hv]; simp [h5]), bel0 _ _⟩
    · go_enter Tryd.func78, Tryd.ntmps78
      go_wp2
      go_ret
      exact ⟨ret_bool rfl, bel0 _ _⟩

set_option maxHeartbeats 400000 in
theorem validS_any (g : Bool) (a : Option Addr) (c : Nat) (zs : List Int) (w : World) (hn : zs.length ≤ maxLen) (hz : RowAt .u32 w a zs) :
    Calls Tryd.prog 74 #[.agg #[.bool g, .slice a zs.length c]] w fun e w' => e = .returned (.bool (validB g zs)) ∧ Below w.heap.size w w' := by
  unfold maxLen at hn
  by_cases h0 : zs.length = 0
  · have hv : validB g zs = !g := by unfold validB; rw [if_pos h0]
    rw [hv]
    have e0 : ((zs.length : Int) == 0) = true := by simp [h0]
    go_enter Tryd.func74, Tryd.ntmps74
    go_wp2
    go_ret
    exact ⟨rfl, bel0 _ _⟩
  · have hv : validB g zs = (decide (zs.length ≤ 512) && (zs.getD (zs.length - 1) 0 != 0)) := by unfold validB; rw [if_neg h0]
    have e0 : ((zs.length : Int) == 0) = false := len_ne h0
    obtain ⟨b, off, rfl, hb, hc⟩ := hz.resolve_left (by intro h; subst h; simp at h0)
    have hlast := hc (zs.length - 1) (by omega)
    by_cases h5 : zs.length ≤ 512
    · go_enter Tryd.func74, Tryd.ntmps74
      go_wp2
      go_ret
      exact ⟨ret_bool (by rw [hv]; simp [h5]), bel0 _ _⟩
    · go_enter Tryd.func74, Tryd.ntmps74
      go_wp2
      go_ret
      exact ⟨ret_bool rfl, bel0 _ _⟩

end Go.Proofs.YtladfpljnaippabDoor
