/-
  The program's differences of Bigs, and its sign of a Big.
-/
import Derived.Test.YtlbegmepmeimkabImplE
import Derived.Test.YtlbegmepmeimkabImplNg
namespace Go.Proofs.Ytlbegmepmeimkab
open Go.RowKit

set_option maxHeartbeats 4000000 in
theorem minusB_any (g g' : Bool) (a a' : Option Addr) (c c' : Nat) (zs ys : List Int) (x y : Int) (w : World) (hn : zs.length ≤ 100000) (hn' : ys.length ≤ 100000) (hz : RowAt .u32 w a zs) (hy : RowAt .u32 w a' ys) (h : B1 g zs x) (h' : B1 g' ys y) :
    Calls Try.prog 41 #[.agg #[.bool g, .slice a zs.length c], .agg #[.bool g', .slice a' ys.length c']] w fun e w' => BigOut w (x - y) (zs.length + ys.length + 1) e w' := by
  have HY : Hid (y = sg g' (val 4294967296 ys)) := h'.num
  go_enter Try.func41, Try.ntmps41
  go_wp2
  obtain ⟨W0, hW0⟩ : ∃ V0, V0 = (((w.alloc (.cells #[.bool g, .slice a zs.length c] 26)).alloc (.cells #[.bool g', .slice a' ys.length c'] 26)).alloc (.cells #[.bool false, .slice none 0 0] 26)) := ⟨_, rfl⟩
  rw [← hW0]
  have F : Hid (AddF w g g' (.slice a zs.length c) (.slice a' ys.length c') (.slice none 0 0) W0) := by rw [hW0]; exact AddF.start w g g' _ _ _ _ _ _
  clear hW0
  go_region_held3 (fun w' => w'.cell? ⟨w.heap.size, 0, none⟩ = some (.bool g) ∧ w'.cell? ⟨w.heap.size, 1, none⟩ = some (.slice a zs.length c) ∧ w'.cell? ⟨w.heap.size + 1, 0, none⟩ = some (.bool g') ∧ w'.cell? ⟨w.heap.size + 1, 1, none⟩ = some (.slice a' ys.length c') ∧ Below (w.heap.size + 1 + 1) W0 w')
    (first | exact addS_of F.out.s (Below.refl _ _).drew | exact addS_of F.out.s (by assumption) | exact addS_of F.out.s (Below.setCell (Below.setCell (by assumption) (by simp) _) (by simp) _))
    (first
      | (go_at_call 68; refine (negB_any g' a' ys.length c' _).mono ?_; rintro e w3 ⟨rfl, hb3⟩; have hB3 : Below W0.heap.size W0 w3 := (Below.refl _ _).drew.trans hb3; have hBl3 : Below (w.heap.size + 1 + 1) W0 w3 := hB3.mono (by have := F.out.le; omega); have hN : B1 (!g' && decide (0 < ys.length)) ys (-y) := (by rw [HY.out, ← sg_not]; exact B1.of_signed h'.can rfl))
      | (go_at_call 66; refine (sumOf_any g _ a a' c c' zs ys x (-y) _ (by omega) (by omega) (hz.later (F.out.bel.trans (hB3.mono F.out.bel.size))) (hy.later (F.out.bel.trans (hB3.mono F.out.bel.size))) h hN).mono ?_; rintro e w4 ⟨g4, a4, c4, fs, rfl, hB1, hl4, hr4, hb4⟩; have hB4 : Below W0.heap.size W0 w4 := hB3.trans (hb4.mono hB3.size); have hBl4 : Below (w.heap.size + 1 + 1) W0 w4 := hB4.mono (by have := F.out.le; omega); have F2 : Hid (AddF w g g' (.slice a zs.length c) (.slice a' ys.length c') (.slice none 0 0) w4) := F.out.later hB4; have r1 := F2.out.r1; have r2 := F2.out.r2; have r3 := F2.out.r3))
  have HR : Hid (RowNew .u32 w4 W0.heap.size a4 fs) := hr4.down hB3.size
  have HB : Hid (B1 g4 fs (x - y)) := by unfold Hid; rw [show x - y = x + -y by omega]; exact hB1
  clear hr4 hB3 hBl3 hB4 hBl4 hb3 hb4 hB1 hN
  go_wp2
  refine bodyPost_ret (v := .agg #[.bool g4, .slice a4 fs.length c4]) (by simp [results, Try.results41, go_sem, r1, r2]) rfl ?_
  have hle := F.out.le
  refine ⟨g4, a4, c4, fs, rfl, HB.out, by omega, ?_, ?_⟩
  · exact ((HR.out.setLow (by simp; omega) _).setLow (by simp; omega) _).down (by omega)
  · exact (F2.out.bel.setCell (by simp; omega) _).setCell (by simp; omega) _

end Go.Proofs.Ytlbegmepmeimkab
