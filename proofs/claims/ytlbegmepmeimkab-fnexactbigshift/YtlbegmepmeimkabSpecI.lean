/-
  The model's differences.
-/
import Derived.Test.YtlbegmepmeimkabSpecH
import Derived.Test.YtlbegmepmeimkabSpecFn
namespace Go.Proofs.Ytlbegmepmeimkab
open Go.RowKit

set_option maxHeartbeats 4000000 in
theorem sub_any (g g' : Bool) (a a' : Option Addr) (c c' : Nat) (ds es : List Int) (x y : Int) (w : World) (hn : ds.length ≤ 100000) (hn' : es.length ≤ 100000) (h : L1 w g a c ds x) (h' : L1 w g' a' c' es y) :
    Calls Try.prog 37 #[.agg #[.bool g, .slice a ds.length c], .agg #[.bool g', .slice a' es.length c']] w fun e w' => ∃ g2 a2 c2 fs, e = .returned (.agg #[.bool g2, .slice a2 fs.length c2]) ∧ fs.length ≤ ds.length + es.length + 1 ∧ L1 w' g2 a2 c2 fs (x - y) ∧ Far w.heap.size a2 fs ∧ Below w.heap.size w w' := by
  go_enter Try.func37, Try.ntmps37
  go_wp2
  obtain ⟨W0, hW0⟩ : ∃ W0, W0 = (((w.alloc (.cells #[.bool g, .slice a ds.length c] 55)).alloc (.cells #[.bool g', .slice a' es.length c'] 55)).alloc (.cells #[.bool false, .slice none 0 0] 55)) := ⟨_, rfl⟩
  rw [← hW0]
  have F : Hid (AddF w g g' (.slice a ds.length c) (.slice a' es.length c') (.slice none 0 0) W0) := by rw [hW0]; exact AddF.start w g g' _ _ _ _ _ _
  clear hW0
  go_region_held3 (fun w' => w'.cell? ⟨w.heap.size, 0, none⟩ = some (.bool g) ∧ w'.cell? ⟨w.heap.size, 1, none⟩ = some (.slice a ds.length c) ∧ w'.cell? ⟨w.heap.size + 1, 0, none⟩ = some (.bool g') ∧ w'.cell? ⟨w.heap.size + 1, 1, none⟩ = some (.slice a' es.length c') ∧ Below (w.heap.size + 1 + 1) W0 w')
    (first | exact addS_of F.out.s (Below.refl _ _).drew | exact addS_of F.out.s (by assumption) | exact addS_of F.out.s (Below.setCell (Below.setCell (by assumption) (by simp) _) (by simp) _))
    (first
      | (go_at_call 67; refine (neg_any g' a' c' es y _ (by omega) (h'.later F.out.bel.drew)).mono ?_; rintro e w1 ⟨g1, fs1, rfl, hf1, hL1, hb1⟩; have hB1 : Below W0.heap.size W0 w1 := (Below.refl _ _).drew.trans hb1; have hB1' : Below (w.heap.size + 1 + 1) W0 w1 := hB1.mono (by have := F.out.le; omega))
      | (go_at_call 56; refine (add_any g g1 a a' c c' ds fs1 x (-y) _ (by omega) (by omega) (h.later (F.out.bel.trans (hB1.mono (by have := F.out.le; omega)))) hL1).mono ?_; rintro e w2 ⟨g2, a2, c2, fs, rfl, hfl, hL2, hfar, hb2⟩; have hB2 : Below W0.heap.size W0 w2 := hB1.trans (hb2.mono hB1.size); have hB2' : Below (w.heap.size + 1 + 1) W0 w2 := hB2.mono (by have := F.out.le; omega); have F2 : Hid (AddF w g g' (.slice a ds.length c) (.slice a' es.length c') (.slice none 0 0) w2) := F.out.later hB2; have r1 := F2.out.r1; have r2 := F2.out.r2; have r3 := F2.out.r3))
  have HF : Hid (Far W0.heap.size a2 fs) := hfar.down hB1.size
  have HL : Hid (L1 w2 g2 a2 c2 fs (x + -y)) := hL2
  clear hfar hL2 hB1 hB1' hB2 hB2' hb1 hb2 hL1
  go_wp2
  refine bodyPost_ret (v := .agg #[.bool g2, .slice a2 fs.length c2]) (by simp [results, Try.results37, go_sem, r1, r2]) rfl ⟨g2, a2, c2, fs, rfl, by omega, ?_, HF.out.down (by have := F.out.le; omega), ?_⟩
  · rw [show x - y = x + -y by omega]
    have hle := F.out.le
    exact (HL.out.setFar HF.out (by simp; omega) _).setFar HF.out (by simp; omega) _
  · exact (F2.out.bel.setCell (by simp; omega) _).setCell (by simp; omega) _

end Go.Proofs.Ytlbegmepmeimkab
