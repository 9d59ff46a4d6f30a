/-
  The program's BigAdd.
-/
import Derived.Test.YtlbegmepmeimkabRes
import Derived.Test.YtlbegmepmeimkabImplE
import Derived.Test.YtlbegmepmeimkabImplB
import Derived.Test.YtlbegmepmeimkabBox1
namespace Go.Proofs.Ytlbegmepmeimkab
open Go.RowKit

set_option maxHeartbeats 1000000 in
theorem imAdd_bad1 (g g' : Bool) (a a' : Option Addr) (c c' : Nat) (zs ys : List Int) (x : Int) (w : World) (hn : zs.length ≤ 1048576) (hz : RowAt .u32 w a zs) (v1 : validB g zs = false) :
    Calls Try.prog 33 #[.agg #[.bool g, .slice a zs.length c], .agg #[.bool g', .slice a' ys.length c']] w fun e w' => OutI w false x e w' := by
  go_enter Try.func33, Try.ntmps33
  go_wp2_with fail
  refine (validI_any g a c zs _ (by unfold maxLen; omega) (hz.later (bel3 _ _ _ _))).mono ?_
  rintro e w1 ⟨rfl, hb1⟩
  rw [v1]
  have F1 : Hid (AddF w g g' (.slice a zs.length c) (.slice a' ys.length c') (.slice none 0 0) w1) := (AddF.start w g g' _ _ _ _ _ _).later hb1
  clear hb1
  have r1 := F1.out.r1
  have r2 := F1.out.r2
  have r3 := F1.out.r3
  go_wp2
  refine bodyPost_ret (v := .tuple #[.agg #[.bool false, .slice none 0 0], .int .i64 1]) (by simp [results, Try.results33, go_sem, r1, r2]) rfl ?_
  refine ⟨false, [], 1, none, 0, rfl, .inl ⟨rfl, rfl, rfl, rfl⟩, .inl rfl, ?_⟩
  exact (F1.out.bel.setCell (by simp; omega) _).setCell (by simp; omega) _

set_option maxHeartbeats 1000000 in
theorem imAdd_bad2 (g g' : Bool) (a a' : Option Addr) (c c' : Nat) (zs ys : List Int) (x : Int) (w : World) (hn : zs.length ≤ 1048576) (hn' : ys.length ≤ 1048576) (hz : RowAt .u32 w a zs) (hy : RowAt .u32 w a' ys) (v1 : validB g zs = true) (v2 : validB g' ys = false) :
    Calls Try.prog 33 #[.agg #[.bool g, .slice a zs.length c], .agg #[.bool g', .slice a' ys.length c']] w fun e w' => OutI w false x e w' := by
  go_enter Try.func33, Try.ntmps33
  go_wp2_with fail
  refine (validI_any g a c zs _ (by unfold maxLen; omega) (hz.later (bel3 _ _ _ _))).mono ?_
  rintro e w1 ⟨rfl, hb1⟩
  rw [v1]
  have F0 : Hid (AddF w g g' (.slice a zs.length c) (.slice a' ys.length c') (.slice none 0 0) w1) := (AddF.start w g g' _ _ _ _ _ _).later hb1
  have s0 := F0.out.s.1
  have s1 := F0.out.s.2.1
  have s2 := F0.out.s.2.2.1
  have s3 := F0.out.s.2.2.2.1
  clear hb1
  go_wp2_with fail
  refine (validI_any g' a' c' ys _ (by unfold maxLen; omega) (hy.later F0.out.bel)).mono ?_
  rintro e w2 ⟨rfl, hb2⟩
  rw [v2]
  have F1 : Hid (AddF w g g' (.slice a zs.length c) (.slice a' ys.length c') (.slice none 0 0) w2) := F0.out.later hb2
  clear hb2 s0 s1 s2 s3 F0
  have r1 := F1.out.r1
  have r2 := F1.out.r2
  have r3 := F1.out.r3
  go_wp2
  refine bodyPost_ret (v := .tuple #[.agg #[.bool false, .slice none 0 0], .int .i64 1]) (by simp [results, Try.results33, go_sem, r1, r2]) rfl ?_
  refine ⟨false, [], 1, none, 0, rfl, .inl ⟨rfl, rfl, rfl, rfl⟩, .inl rfl, ?_⟩
  exact (F1.out.bel.setCell (by simp; omega) _).setCell (by simp; omega) _

set_option maxHeartbeats 4000000 in
theorem imAdd_ok (g g' : Bool) (a a' : Option Addr) (c c' : Nat) (zs ys : List Int) (x y : Int) (w : World) (hn : zs.length ≤ 512) (hn' : ys.length ≤ 512) (hz : RowAt .u32 w a zs) (hy : RowAt .u32 w a' ys) (h : B1 g zs x) (h' : B1 g' ys y) (v1 : validB g zs = true) (v2 : validB g' ys = true) :
    Calls Try.prog 33 #[.agg #[.bool g, .slice a zs.length c], .agg #[.bool g', .slice a' ys.length c']] w fun e w' => OutI w true (x + y) e w' := by
  have hu := h.can.1
  have hu' := h'.can.1
  have HX : Hid (x = sg g (val 4294967296 zs)) := h.num
  have HY : Hid (y = sg g' (val 4294967296 ys)) := h'.num
  go_enter Try.func33, Try.ntmps33
  go_wp2_with fail
  refine (validI_any g a c zs _ (by unfold maxLen; omega) (hz.later (bel3 _ _ _ _))).mono ?_
  rintro e w1 ⟨rfl, hb1⟩
  rw [v1]
  have F0 : Hid (AddF w g g' (.slice a zs.length c) (.slice a' ys.length c') (.slice none 0 0) w1) := (AddF.start w g g' _ _ _ _ _ _).later hb1
  have s0 := F0.out.s.1
  have s1 := F0.out.s.2.1
  have s2 := F0.out.s.2.2.1
  have s3 := F0.out.s.2.2.2.1
  clear hb1
  go_wp2_with fail
  refine (validI_any g' a' c' ys _ (by unfold maxLen; omega) (hy.later F0.out.bel)).mono ?_
  rintro e W0 ⟨rfl, hb2⟩
  rw [v2]
  have F : Hid (AddF w g g' (.slice a zs.length c) (.slice a' ys.length c') (.slice none 0 0) W0) := F0.out.later hb2
  clear hb2 s0 s1 s2 s3 F0 v1 v2
  have s0 := F.out.s.1
  have s1 := F.out.s.2.1
  have s2 := F.out.s.2.2.1
  have s3 := F.out.s.2.2.2.1
  go_wp2_with fail
  refine (sumOf_any g g' a a' c c' zs ys x y _ (by omega) (by omega) (hz.later F.out.bel) (hy.later F.out.bel) h h').mono ?_
  rintro e w4 ⟨g4, a4, c4, fs, rfl, hB1, hl4, hr4, hb4⟩
  have hB4 : Below W0.heap.size W0 w4 := hb4
  clear s0 s1 s2 s3
  go_wp2_with fail
  refine (within_any g4 a4 c4 fs _ W0.heap.size (by omega) hr4).mono ?_
  rintro e w5 ⟨a5, c5, rfl, hr5, hb5⟩
  have hB5 : Below W0.heap.size W0 w5 := hB4.trans (hb5.mono hB4.size)
  have hE : Hid (Res true (x + y) (limOut g4 fs).1 (limOut g4 fs).2.1 (limOut g4 fs).2.2) := res_lim hB1
  have hR : Hid (RowNew .u32 w5 W0.heap.size a5 (limOut g4 fs).2.1) := hr5
  have F5 : Hid (AddF w g g' (.slice a zs.length c) (.slice a' ys.length c') (.slice none 0 0) w5) := F.out.later hB5
  have r1 := F5.out.r1
  have r2 := F5.out.r2
  have r3 := F5.out.r3
  clear hr5 hB1 hB5 hB4 hb4 hb5 hr4
  generalize (limOut g4 fs).1 = G at *
  generalize (limOut g4 fs).2.1 = Z at *
  generalize (limOut g4 fs).2.2 = K at *
  go_wp2
  refine bodyPost_ret (v := .tuple #[.agg #[.bool G, .slice a5 Z.length c5], .int .i64 K]) (by simp [results, Try.results33, go_sem, r1, r2]) rfl ?_
  have hle := F.out.le
  refine ⟨G, Z, K, a5, c5, rfl, hE.out, ?_, ?_⟩
  · exact ((hR.out.setLow (by simp; omega) _).setLow (by simp; omega) _).down (by omega)
  · exact (F5.out.bel.setCell (by simp; omega) _).setCell (by simp; omega) _

theorem imAdd_any (g g' : Bool) (a a' : Option Addr) (c c' : Nat) (zs ys : List Int) (w : World) (hn : zs.length ≤ 1048576) (hn' : ys.length ≤ 1048576) (hz : RowAt .u32 w a zs) (hy : RowAt .u32 w a' ys) (hu : U32 zs) (hu' : U32 ys) :
    Calls Try.prog 33 #[.agg #[.bool g, .slice a zs.length c], .agg #[.bool g', .slice a' ys.length c']] w fun e w' => OutI w (validB g zs && validB g' ys) (sg g (val 4294967296 zs) + sg g' (val 4294967296 ys)) e w' := by
  cases v1 : validB g zs
  · exact imAdd_bad1 g g' a a' c c' zs ys _ w hn hz v1
  · cases v2 : validB g' ys
    · exact imAdd_bad2 g g' a a' c c' zs ys _ w hn hn' hz hy v1 v2
    · exact imAdd_ok g g' a a' c c' zs ys _ _ w (valid_canon hu v1).2.1 (valid_canon hu' v2).2.1 hz hy (B1.of_valid hu v1) (B1.of_valid hu' v2) v1 v2

end Go.Proofs.Ytlbegmepmeimkab

/-
  The program's negated Bigs, and its one.
-/
namespace Go.Proofs.Ytlbegmepmeimkab
open Go.RowKit

set_option maxRecDepth 100000 in
set_option maxHeartbeats 4000000 in
theorem negB_any (g : Bool) (a : Option Addr) (n c : Nat) (w : World) :
    Calls Try.prog 68 #[.agg #[.bool g, .slice a n c]] w fun e w' => e = .returned (.agg #[.bool (!g && decide (0 < n)), .slice a n c]) ∧ Below w.heap.size w w' := by
  have B0 : Hid (∀ t t', Bx1 w (.bool g) (.slice a n c) ((w.alloc (.cells #[.bool g, .slice a n c] t)).alloc (.cells #[.bool false, .slice none 0 0] t'))) := fun t t' => Bx1.start w _ _ _ _
  go_enter Try.func68, Try.ntmps68
  go_wp2_with fail
  refine (signed_any (!g) a n c _).mono ?_
  rintro e w2 ⟨rfl, hb2⟩
  have F2 : Hid (Bx1 w (.bool g) (.slice a n c) w2) := (B0.out _ _).later hb2
  have r1 := F2.out.r1
  have r2 := F2.out.r2
  have r3 := F2.out.r3
  have zz : w.heap.size + 1 < w2.heap.size := F2.out.le
  clear hb2 B0
  obtain ⟨G, hG⟩ : ∃ G, G = (!g && decide (0 < n)) := ⟨_, rfl⟩
  rw [← hG]
  have HG : Hid (G = (!g && decide (0 < n))) := hG
  clear hG
  go_wp2
  refine bodyPost_ret (v := .agg #[.bool G, .slice a n c]) (by simp [results, Try.results68, go_sem, r1, r2]) rfl ?_
  exact ⟨by rw [HG.out], (F2.out.bel.setCell (by simp) _).setCell (by simp) _⟩

end Go.Proofs.Ytlbegmepmeimkab

/-
  The program's differences of Bigs, and its sign of a Big.
-/
namespace Go.Proofs.Ytlbegmepmeimkab
open Go.RowKit

set_option maxHeartbeats 4000000 in
theorem minusB_any (g g' : Bool) (a a' : Option Addr) (c c' : Nat) (zs ys : List Int) (x y : Int) (w : World) (hn : zs.length ≤ 100000) (hn' : ys.length ≤ 100000) (hz : RowAt .u32 w a zs) (hy : RowAt .u32 w a' ys) (h : B1 g zs x) (h' : B1 g' ys y) :
    Calls Try.prog 41 #[.agg #[.bool g, .slice a zs.length c], .agg #[.bool g', .slice a' ys.length c']] w fun e w' => BigOut w (x - y) (zs.length + ys.length + 1) e w' := by
  have HY : Hid (y = sg g' (val 4294967296 ys)) := h'.num
  go_enter Try.func41, Try.ntmps41
  go_wp2
  obtain ⟨W0, hW0⟩ : ∃ V0, V0 = (((w.alloc (.cells #[.bool g, .slice a zs.length c] 26)).alloc (.cells #[.bool g', .slice a' ys.length c'] 26)).alloc (.cells #[.bool false, .slice none 0 0] 26)) := ⟨_, rfl⟩
  rw [← hW0]
  have F : Hid (AddF w g g' (.slice a zs.length c) (.slice a' ys.length c') (.slice none 0 0) W0) := by rw [hW0]; exact AddF.start w g g' _ _ _ _ _ _
  clear hW0
  go_region_held3 (fun w' => w'.cell? ⟨w.heap.size, 0, none⟩ = some (.bool g) ∧ w'.cell? ⟨w.heap.size, 1, none⟩ = some (.slice a zs.length c) ∧ w'.cell? ⟨w.heap.size + 1, 0, none⟩ = some (.bool g') ∧ w'.cell? ⟨w.heap.size + 1, 1, none⟩ = some (.slice a' ys.length c') ∧ Below (w.heap.size + 1 + 1) W0 w')
    (first | exact addS_of F.out.s (Below.refl _ _).drew | exact addS_of F.out.s (by assumption) | exact addS_of F.out.s (Below.setCell (Below.setCell (by assumption) (by simp) _) (by simp) _))
    (first
      | (go_at_call 68; refine (negB_any g' a' ys.length c' _).mono ?_; rintro e w3 ⟨rfl, hb3⟩; have hB3 : Below W0.heap.size W0 w3 := (Below.refl _ _).drew.trans hb3; have hBl3 : Below (w.heap.size + 1 + 1) W0 w3 := hB3.mono (by have := F.out.le; omega); have hN : B1 (!g' && decide (0 < ys.length)) ys (-y) := (by rw [HY.out, ← sg_not]; exact B1.of_signed h'.can rfl))
      | (go_at_call 66; refine (sumOf_any g _ a a' c c' zs ys x (-y) _ (by omega) (by omega) (hz.later (F.out.bel.trans (hB3.mono F.out.bel.size))) (hy.later (F.out.bel.trans (hB3.mono F.out.bel.size))) h hN).mono ?_; rintro e w4 ⟨g4, a4, c4, fs, rfl, hB1, hl4, hr4, hb4⟩; have hB4 : Below W0.heap.size W0 w4 := hB3.trans (hb4.mono hB3.size); have hBl4 : Below (w.heap.size + 1 + 1) W0 w4 := hB4.mono (by have := F.out.le; omega); have F2 : Hid (AddF w g g' (.slice a zs.length c) (.slice a' ys.length c') (.slice none 0 0) w4) := F.out.later hB4; have r1 := F2.out.r1; have r2 := F2.out.r2; have r3 := F2.out.r3))
  have HR : Hid (RowNew .u32 w4 W0.heap.size a4 fs) := hr4.down hB3.size
  have HB : Hid (B1 g4 fs (x - y)) := by unfold Hid; rw [show x - y = x + -y by omega]; exact hB1
  clear hr4 hB3 hBl3 hB4 hBl4 hb3 hb4 hB1 hN
  go_wp2
  refine bodyPost_ret (v := .agg #[.bool g4, .slice a4 fs.length c4]) (by simp [results, Try.results41, go_sem, r1, r2]) rfl ?_
  have hle := F.out.le
  refine ⟨g4, a4, c4, fs, rfl, HB.out, by omega, ?_, ?_⟩
  · exact ((HR.out.setLow (by simp; omega) _).setLow (by simp; omega) _).down (by omega)
  · exact (F2.out.bel.setCell (by simp; omega) _).setCell (by simp; omega) _

end Go.Proofs.Ytlbegmepmeimkab
