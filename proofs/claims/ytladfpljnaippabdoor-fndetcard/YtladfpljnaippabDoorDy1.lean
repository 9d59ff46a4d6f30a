/-
  The model's dyadic numbers: valid ones, normal forms.
-/
import Derived.Test.YtladfpljnaippabDoorDy1h
import Derived.Test.YtladfpljnaippabDoorRes
namespace Go.Proofs.YtladfpljnaippabDoor
open Go.RowKit

/-- Is the Dyadic valid? -/
def validD (g : Bool) (zs : List Int) (E : Int) : Bool := validB g zs && (decide (-20000 ≤ E) && decide (E ≤ 20000))

set_option maxHeartbeats 1000000 in
theorem valid2S_any (g : Bool) (a : Option Addr) (c : Nat) (zs : List Int) (E : Int) (w : World) (hn : zs.length ≤ 1048576) (hz : RowAt .u32 w a zs) :
    Calls Tryd.prog 32 #[.agg #[.bool g, .slice a zs.length c, .int .i64 E]] w fun e w' => e = .returned (.bool (validD g zs E)) ∧ Below w.heap.size w w' := by
  unfold validD
  cases hv : validB g zs
  · go_enter Tryd.func32, Tryd.ntmps32
    go_wp2_with fail
    refine (validS_any g a c zs _ (by unfold maxLen; omega) (hz.later (bel0 _ _))).mono ?_
    rintro e w1 ⟨rfl, hb1⟩
    rw [hv]
    have HB : Hid (Below w.heap.size w w1) := (bel0 _ _).trans (hb1.mono (by simp))
    clear hb1
    go_wp2
    go_ret
    exact ⟨rfl, HB.out⟩
  · by_cases h1 : -20000 ≤ E
    · by_cases h2 : E ≤ 20000
      · have HR : Hid ((true && (decide (-20000 ≤ E) && decide (E ≤ 20000))) = true) := by unfold Hid; simp [h1, h2]
        rw [HR.out]
        go_enter Tryd.func32, Tryd.ntmps32
        go_wp2_with fail
        refine (validS_any g a c zs _ (by unfold maxLen; omega) (hz.later (bel0 _ _))).mono ?_
        rintro e w1 ⟨rfl, hb1⟩
        rw [hv]
        have HB : Hid (Below w.heap.size w w1) := (bel0 _ _).trans (hb1.mono (by simp))
        have q2 : w1.cell? ⟨w.heap.size, 2, none⟩ = some (.int .i64 E) := by rw [(bcell hb1).1 _ _ (by simp)]; simp [go_sem]
        clear hb1
        go_wp2
        go_ret
        exact ⟨ret_bool (by simp), HB.out⟩
      · have HR : Hid ((true && (decide (-20000 ≤ E) && decide (E ≤ 20000))) = false) := by unfold Hid; simp; omega
        rw [HR.out]
        go_enter Tryd.func32, Tryd.ntmps32
        go_wp2_with fail
        refine (validS_any g a c zs _ (by unfold maxLen; omega) (hz.later (bel0 _ _))).mono ?_
        rintro e w1 ⟨rfl, hb1⟩
        rw [hv]
        have HB : Hid (Below w.heap.size w w1) := (bel0 _ _).trans (hb1.mono (by simp))
        have q2 : w1.cell? ⟨w.heap.size, 2, none⟩ = some (.int .i64 E) := by rw [(bcell hb1).1 _ _ (by simp)]; simp [go_sem]
        clear hb1
        go_wp2
        go_ret
        exact ⟨ret_bool (by simp; omega), HB.out⟩
    · have HR : Hid ((true && (decide (-20000 ≤ E) && decide (E ≤ 20000))) = false) := by unfold Hid; simp; omega
      rw [HR.out]
      go_enter Tryd.func32, Tryd.ntmps32
      go_wp2_with fail
      refine (validS_any g a c zs _ (by unfold maxLen; omega) (hz.later (bel0 _ _))).mono ?_
      rintro e w1 ⟨rfl, hb1⟩
      rw [hv]
      have HB : Hid (Below w.heap.size w w1) := (bel0 _ _).trans (hb1.mono (by simp))
      have q2 : w1.cell? ⟨w.heap.size, 2, none⟩ = some (.int .i64 E) := by rw [(bcell hb1).1 _ _ (by simp)]; simp [go_sem]
      clear hb1
      go_wp2
      go_ret
      exact ⟨rfl, HB.out⟩

set_option maxHeartbeats 4000000 in
theorem of2_any (g : Bool) (a : Option Addr) (c : Nat) (zs : List Int) (E : Int) (w : World) (hn : zs.length ≤ 20000) (he0 : -1000000 ≤ E) (he1 : E ≤ 1000000) (hz : RowAt .u32 w a zs) (hu : U32 zs) :
    Calls Tryd.prog 33 #[.agg #[.bool g, .slice a zs.length c, .int .i64 E]] w fun e w' => NormOut w (2 * zs.length) (sg g (val 4294967296 zs)) E (32 * zs.length) e w' := by
  have B0 : Hid (∀ t t', Bx3 w (.bool g) (.slice a zs.length c) (.int .i64 E) ((w.alloc (.cells #[.bool g, .slice a zs.length c, .int .i64 E] t)).alloc (.cells #[.bool false, .slice none 0 0, .int .i64 0] t'))) := fun t t' => Bx3.start w _ _ _ _ _
  go_enter Tryd.func33, Tryd.ntmps33
  go_wp2
  obtain ⟨W0, hW0⟩ : ∃ W0, W0 = ((w.alloc (.cells #[.bool g, .slice a zs.length c, .int .i64 E] 29)).alloc (.cells #[.bool false, .slice none 0 0, .int .i64 0] 66)) := ⟨_, rfl⟩
  have F : Hid (Bx3 w (.bool g) (.slice a zs.length c) (.int .i64 E) W0) := by unfold Hid; rw [hW0]; exact B0.out _ _
  rw [← hW0]
  clear hW0 B0
  have zz : w.heap.size + 1 < W0.heap.size := F.out.le
  go_region_held3 (fun w' => w'.cell? ⟨w.heap.size, 0, none⟩ = some (.bool g) ∧ w'.cell? ⟨w.heap.size, 1, none⟩ = some (.slice a zs.length c) ∧ w'.cell? ⟨w.heap.size, 2, none⟩ = some (.int .i64 E) ∧ Below (w.heap.size + 1) W0 w')
    (first | exact F.out.held (Below.refl _ _).drew | exact F.out.held (by assumption) | exact F.out.held (Below.setCell (Below.setCell (Below.setCell (by assumption) (by simp) _) (by simp) _) (by simp) _))
    (first
      | (go_at_call 76; refine (of_any g a c zs _ (by omega) (hz.later F.out.bel.drew) hu).mono ?_; rintro e w1 ⟨g1, a1, c1, ds, rfl, hl1, hL1, hb1⟩; have hB1 : Below W0.heap.size W0 w1 := (Below.refl _ _).drew.trans hb1; have hB1' : Below (w.heap.size + 1) W0 w1 := hB1.mono (by omega))
      | (go_at_call 75; refine (norm_any g1 a1 c1 ds _ E _ (by omega) he0 he1 hL1).mono ?_; rintro e w2 ⟨m, e', hnf, g2, a2, c2, fs, rfl, hl2, hL2, hF2, hb2⟩; have hB2 : Below W0.heap.size W0 w2 := hB1.trans (hb2.mono hB1.size); have hB2' : Below (w.heap.size + 1) W0 w2 := hB2.mono (by omega); have F2 : Hid (Bx3 w (.bool g) (.slice a zs.length c) (.int .i64 E) w2) := F.out.later hB2; have r1 := F2.out.r1; have r2 := F2.out.r2; have r3 := F2.out.r3; have r4 := F2.out.r4))
  have HL2 : Hid (L1 w2 g2 a2 c2 fs m) := hL2
  have HF2 : Hid (Far (w.heap.size + 1 + 1) a2 fs) := hF2.down (by have := hB1.size; omega)
  have HN : Hid (NormOf (sg g (val 4294967296 zs)) E m e' (32 * zs.length)) := by
    rcases hnf with h | ⟨h1, t, h2, h3, h4, h5⟩
    · exact .inl h
    · exact .inr ⟨h1, t, h2, h3, h4, by omega⟩
  clear hL2 hF2 hB1 hB1' hB2 hB2' hb1 hb2 hL1 hnf
  go_wp2
  refine bodyPost_ret (v := .agg #[.bool g2, .slice a2 fs.length c2, .int .i64 e']) (by simp [results, Tryd.results33, go_sem, r1, r2, r3]) rfl ?_
  refine ⟨m, e', HN.out, g2, a2, c2, fs, rfl, by omega, ?_, HF2.out.down (by omega), ?_⟩
  · exact ((HL2.out.setFar HF2.out (by simp) _).setFar HF2.out (by simp) _).setFar HF2.out (by simp) _
  · exact ((F2.out.bel.setCell (by simp) _).setCell (by simp) _).setCell (by simp) _

end Go.Proofs.YtladfpljnaippabDoor
