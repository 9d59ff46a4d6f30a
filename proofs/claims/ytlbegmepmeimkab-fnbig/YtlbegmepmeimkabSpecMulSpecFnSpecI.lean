/-
  The model's BigMul.
-/
import Derived.Test.YtlbegmepmeimkabRes
import Derived.Test.YtlbegmepmeimkabSpecM
import Derived.Test.YtlbegmepmeimkabSpecF
import Derived.Test.YtlbegmepmeimkabSpecH
namespace Go.Proofs.Ytlbegmepmeimkab
open Go.RowKit

set_option maxHeartbeats 1000000 in
theorem spMul_bad1 (g g' : Bool) (a a' : Option Addr) (c c' : Nat) (zs ys : List Int) (x : Int) (w : World) (hn : zs.length ≤ 1048576) (hz : RowAt .u32 w a zs) (v1 : validB g zs = false) :
    Calls Try.prog 32 #[.agg #[.bool g, .slice a zs.length c], .agg #[.bool g', .slice a' ys.length c']] w fun e w' => OutS w false x e w' := by
  go_enter Try.func32, Try.ntmps32
  go_wp2_with fail
  refine (validS_any g a c zs _ (by unfold maxLen; omega) (hz.later (bel3 _ _ _ _))).mono ?_
  rintro e w1 ⟨rfl, hb1⟩
  rw [v1]
  have F1 : Hid (AddF w g g' (.slice a zs.length c) (.slice a' ys.length c') (.slice none 0 0) w1) := (AddF.start w g g' _ _ _ _ _ _).later hb1
  clear hb1
  have r1 := F1.out.r1
  have r2 := F1.out.r2
  have r3 := F1.out.r3
  go_wp2
  refine bodyPost_ret (v := .tuple #[.agg #[.bool false, .slice none 0 0], .int .i64 1]) (by simp [results, Try.results32, go_sem, r1, r2]) rfl ?_
  refine ⟨false, [], 1, none, 0, rfl, .inl ⟨rfl, rfl, rfl, rfl⟩, .inl rfl, .inl rfl, ?_⟩
  exact (F1.out.bel.setCell (by simp; omega) _).setCell (by simp; omega) _

set_option maxHeartbeats 1000000 in
theorem spMul_bad2 (g g' : Bool) (a a' : Option Addr) (c c' : Nat) (zs ys : List Int) (x : Int) (w : World) (hn : zs.length ≤ 1048576) (hn' : ys.length ≤ 1048576) (hz : RowAt .u32 w a zs) (hy : RowAt .u32 w a' ys) (v1 : validB g zs = true) (v2 : validB g' ys = false) :
    Calls Try.prog 32 #[.agg #[.bool g, .slice a zs.length c], .agg #[.bool g', .slice a' ys.length c']] w fun e w' => OutS w false x e w' := by
  go_enter Try.func32, Try.ntmps32
  go_wp2_with fail
  refine (validS_any g a c zs _ (by unfold maxLen; omega) (hz.later (bel3 _ _ _ _))).mono ?_
  rintro e w1 ⟨rfl, hb1⟩
  rw [v1]
  have F0 : Hid (AddF w g g' (.slice a zs.length c) (.slice a' ys.length c') (.slice none 0 0) w1) := (AddF.start w g g' _ _ _ _ _ _).later hb1
  have s0 := F0.out.s.1
  have s1 := F0.out.s.2.1
  have s2 := F0.out.s.2.2.1
  have s3 := F0.out.s.2.2.2.1
  clear hb1
  go_wp2_with fail
  refine (validS_any g' a' c' ys _ (by unfold maxLen; omega) (hy.later F0.out.bel)).mono ?_
  rintro e w2 ⟨rfl, hb2⟩
  rw [v2]
  have F1 : Hid (AddF w g g' (.slice a zs.length c) (.slice a' ys.length c') (.slice none 0 0) w2) := F0.out.later hb2
  clear hb2 s0 s1 s2 s3 F0
  have r1 := F1.out.r1
  have r2 := F1.out.r2
  have r3 := F1.out.r3
  go_wp2
  refine bodyPost_ret (v := .tuple #[.agg #[.bool false, .slice none 0 0], .int .i64 1]) (by simp [results, Try.results32, go_sem, r1, r2]) rfl ?_
  refine ⟨false, [], 1, none, 0, rfl, .inl ⟨rfl, rfl, rfl, rfl⟩, .inl rfl, .inl rfl, ?_⟩
  exact (F1.out.bel.setCell (by simp; omega) _).setCell (by simp; omega) _

set_option maxHeartbeats 4000000 in
theorem spMul_ok (g g' : Bool) (a a' : Option Addr) (c c' : Nat) (zs ys : List Int) (x y : Int) (w : World) (hn : zs.length ≤ 512) (hn' : ys.length ≤ 512) (hz : RowAt .u32 w a zs) (hy : RowAt .u32 w a' ys) (h : B1 g zs x) (h' : B1 g' ys y) (v1 : validB g zs = true) (v2 : validB g' ys = true) :
    Calls Try.prog 32 #[.agg #[.bool g, .slice a zs.length c], .agg #[.bool g', .slice a' ys.length c']] w fun e w' => OutS w true (x * y) e w' := by
  have hu := h.can.1
  have hu' := h'.can.1
  have HX : Hid (x = sg g (val 4294967296 zs)) := h.num
  have HY : Hid (y = sg g' (val 4294967296 ys)) := h'.num
  go_enter Try.func32, Try.ntmps32
  go_wp2_with fail
  refine (validS_any g a c zs _ (by unfold maxLen; omega) (hz.later (bel3 _ _ _ _))).mono ?_
  rintro e w1 ⟨rfl, hb1⟩
  rw [v1]
  have F0 : Hid (AddF w g g' (.slice a zs.length c) (.slice a' ys.length c') (.slice none 0 0) w1) := (AddF.start w g g' _ _ _ _ _ _).later hb1
  have s0 := F0.out.s.1
  have s1 := F0.out.s.2.1
  have s2 := F0.out.s.2.2.1
  have s3 := F0.out.s.2.2.2.1
  clear hb1
  go_wp2_with fail
  refine (validS_any g' a' c' ys _ (by unfold maxLen; omega) (hy.later F0.out.bel)).mono ?_
  rintro e W0 ⟨rfl, hb2⟩
  rw [v2]
  have F : Hid (AddF w g g' (.slice a zs.length c) (.slice a' ys.length c') (.slice none 0 0) W0) := F0.out.later hb2
  clear hb2 s0 s1 s2 s3 F0 v1 v2
  go_wp2
  go_region_held3 (fun w' => w'.cell? ⟨w.heap.size, 0, none⟩ = some (.bool g) ∧ w'.cell? ⟨w.heap.size, 1, none⟩ = some (.slice a zs.length c) ∧ w'.cell? ⟨w.heap.size + 1, 0, none⟩ = some (.bool g') ∧ w'.cell? ⟨w.heap.size + 1, 1, none⟩ = some (.slice a' ys.length c') ∧ Below (w.heap.size + 1 + 1) W0 w')
    (first | exact addS_of F.out.s (Below.refl _ _).drew | exact addS_of F.out.s (by assumption) | exact addS_of F.out.s (Below.setCell (Below.setCell (by assumption) (by simp) _) (by simp) _))
    (first
      | (go_at_call_of 38 a; refine (of_any g a c zs _ (by omega) (hz.later ?_) hu).mono ?_; (first | exact F.out.bel.drew | exact F.out.bel.trans (Below.mono (by assumption) F.out.bel.size)); rintro e w2 ⟨g1, a1, c1, ds, rfl, hl1, hL1, hb1⟩; rw [← HX.out] at hL1; have hB : Below W0.heap.size W0 w2 := (by first | exact (Below.refl _ _).drew.trans hb1 | exact Below.trans (by assumption) (Below.mono hb1 (Below.size (by assumption)))); have hBl : Below (w.heap.size + 1 + 1) W0 w2 := hB.mono (by have := F.out.le; omega); have K1 := fun {g a c ds x} (h : L1 _ g a c ds x) => h.later hb1)
      | (go_at_call_of 38 a'; refine (of_any g' a' c' ys _ (by omega) (hy.later ?_) hu').mono ?_; (first | exact F.out.bel.drew | exact F.out.bel.trans (Below.mono (by assumption) F.out.bel.size)); rintro e w3 ⟨g2, a2, c2, es, rfl, hl2, hL2, hb2⟩; rw [← HY.out] at hL2; have hB' : Below W0.heap.size W0 w3 := (by first | exact (Below.refl _ _).drew.trans hb2 | exact Below.trans (by assumption) (Below.mono hb2 (Below.size (by assumption)))); have hBl' : Below (w.heap.size + 1 + 1) W0 w3 := hB'.mono (by have := F.out.le; omega); have K2 := fun {g a c ds x} (h : L1 _ g a c ds x) => h.later hb2)
      | (go_at_call 57; refine (mul_any g1 g2 a1 a2 c1 c2 ds es x y _ (by omega) (by omega) ?_ ?_).mono ?_; (first | exact hL1 | exact K2 hL1); (first | exact hL2 | exact K1 hL2); rintro e w4 ⟨g4, a4, c4, fs, rfl, hl4, hL4, _, hb4⟩; have hB4 : Below W0.heap.size W0 w4 := (by first | exact hB.trans (hb4.mono hB.size) | exact hB'.trans (hb4.mono hB'.size)); have hBl4 : Below (w.heap.size + 1 + 1) W0 w4 := hB4.mono (by have := F.out.le; omega))
      | (go_at_call 36; refine (big_any g4 a4 c4 fs _ (by omega) hL4.sl.row hL4.can.1).mono ?_; rintro e w5 ⟨a5, c5, rfl, hr5, hf5, hb5⟩; have hB5 : Below W0.heap.size W0 w5 := hB4.trans (hb5.mono hB4.size); have hBl5 : Below (w.heap.size + 1 + 1) W0 w5 := hB5.mono (by have := F.out.le; omega); have F5 : Hid (AddF w g g' (.slice a zs.length c) (.slice a' ys.length c') (.slice none 0 0) w5) := F.out.later hB5; have r1 := F5.out.r1; have r2 := F5.out.r2; have r3 := F5.out.r3; have HRes := res_big hL4; have HF5 : Far W0.heap.size a5 (bigOut g4 fs).2.1 := Far.down hf5 hB4.size))
  all_goals
    have hE : Hid (Res true (x * y) (bigOut g4 fs).1 (bigOut g4 fs).2.1 (bigOut g4 fs).2.2) := HRes
    have hF : Hid (Far W0.heap.size a5 (bigOut g4 fs).2.1) := HF5
    have hR : Hid (RowAt .u32 w5 a5 (bigOut g4 fs).2.1) := hr5
    clear HRes HF5 hr5 hf5 hB hB' hB4 hB5 hBl hBl' hBl4 hBl5 K1 K2 hL1 hL2 hL4 hb1 hb2 hb4 hb5
    generalize (bigOut g4 fs).1 = G at *
    generalize (bigOut g4 fs).2.1 = Z at *
    generalize (bigOut g4 fs).2.2 = K at *
    go_wp2
    refine bodyPost_ret (v := .tuple #[.agg #[.bool G, .slice a5 Z.length c5], .int .i64 K]) (by simp [results, Try.results32, go_sem, r1, r2]) rfl ?_
    have hle := F.out.le
    refine ⟨G, Z, K, a5, c5, rfl, hE.out, ?_, hF.out.down (by omega), ?_⟩
    · exact (hR.out.setAway (hF.out.away (by simp; omega)) _).setAway (hF.out.away (by simp; omega)) _
    · exact (F5.out.bel.setCell (by simp; omega) _).setCell (by simp; omega) _

theorem spMul_any (g g' : Bool) (a a' : Option Addr) (c c' : Nat) (zs ys : List Int) (w : World) (hn : zs.length ≤ 1048576) (hn' : ys.length ≤ 1048576) (hz : RowAt .u32 w a zs) (hy : RowAt .u32 w a' ys) (hu : U32 zs) (hu' : U32 ys) :
    Calls Try.prog 32 #[.agg #[.bool g, .slice a zs.length c], .agg #[.bool g', .slice a' ys.length c']] w fun e w' => OutS w (validB g zs && validB g' ys) (sg g (val 4294967296 zs) * sg g' (val 4294967296 ys)) e w' := by
  cases v1 : validB g zs
  · exact spMul_bad1 g g' a a' c c' zs ys _ w hn hz v1
  · cases v2 : validB g' ys
    · exact spMul_bad2 g g' a a' c c' zs ys _ w hn hn' hz hy v1 v2
    · exact spMul_ok g g' a a' c c' zs ys _ _ w (valid_canon hu v1).2.1 (valid_canon hu' v2).2.1 hz hy (B1.of_valid hu v1) (B1.of_valid hu' v2) v1 v2

end Go.Proofs.Ytlbegmepmeimkab

/-
  The model's negatives.
-/
namespace Go.Proofs.Ytlbegmepmeimkab
open Go.RowKit

set_option maxHeartbeats 1000000 in
theorem neg_any (g : Bool) (a : Option Addr) (c : Nat) (ds : List Int) (x : Int) (w : World) (hn : ds.length ≤ 1048576) (h : L1 w g a c ds x) :
    Calls Try.prog 67 #[.agg #[.bool g, .slice a ds.length c]] w fun e w' => ∃ g' ds', e = .returned (.agg #[.bool g', .slice a ds'.length c]) ∧ ds'.length ≤ ds.length ∧ L1 w' g' a c ds' (-x) ∧ Below w.heap.size w w' := by
  have hx : sg (!g) (val 65536 ds) = -x := by rw [sg_not, h.num]
  have HX : Hid (sg (!g) (val 65536 ds) = -x) := hx
  clear hx
  go_enter Try.func67, Try.ntmps67
  go_wp2_with fail
  refine (make_any (!g) a c ds _ hn h.cap (h.sl.later (bel2 _ _ _)) h.can.1).mono ?_
  rintro e w1 ⟨g', ds', rfl, hle, hL, hb1⟩
  have hb2 := hb1
  simp at hb2
  have r1 : w1.cell? ⟨w.heap.size + 1, 0, none⟩ = some (.bool false) := by rw [(bcell hb1).1 _ _ (by simp)]; simp [go_sem]
  have r2 : w1.cell? ⟨w.heap.size + 1, 1, none⟩ = some (.slice none 0 0) := by rw [(bcell hb1).1 _ _ (by simp)]; simp [go_sem]
  have r3 : ∀ j, w1.frozen? ⟨w.heap.size + 1, j, none⟩ = false := by intro j; rw [(bcell hb1).2 _ _ (by simp)]; simp [go_sem]
  have HB : Hid (Below w.heap.size w w1) := (bel2 _ _ _).trans (hb1.mono (by simp; omega))
  rw [HX.out] at hL
  have HL : Hid (L1 w1 g' a c ds' (-x)) := hL
  clear hL hb1 hb2
  go_wp2
  refine bodyPost_ret (v := .agg #[.bool g', .slice a ds'.length c]) (by simp [results, Try.results67, go_sem, r1, r2]) rfl ⟨g', ds', rfl, hle, ?_, ?_⟩
  · exact (HL.out.setNew h.sl.row hle (by simp) _).setNew h.sl.row hle (by simp) _
  · exact (HB.out.setCell (by simp) _).setCell (by simp) _

end Go.Proofs.Ytlbegmepmeimkab

/-
  The model's differences.
-/
namespace Go.Proofs.Ytlbegmepmeimkab
open Go.RowKit

set_option maxHeartbeats 4000000 in
theorem sub_any (g g' : Bool) (a a' : Option Addr) (c c' : Nat) (ds es : List Int) (x y : Int) (w : World) (hn : ds.length ≤ 100000) (hn' : es.length ≤ 100000) (h : L1 w g a c ds x) (h' : L1 w g' a' c' es y) :
    Calls Try.prog 37 #[.agg #[.bool g, .slice a ds.length c], .agg #[.bool g', .slice a' es.length c']] w fun e w' => ∃ g2 a2 c2 fs, e = .returned (.agg #[.bool g2, .slice a2 fs.length c2]) ∧ fs.length ≤ ds.length + es.length + 1 ∧ L1 w' g2 a2 c2 fs (x - y) ∧ Far w.heap.size a2 fs ∧ Below w.heap.size w w' := by
  go_enter Try.func37, Try.ntmps37
  go_wp2
  obtain ⟨W0, hW0⟩ : ∃ W0, W0 = (((w.alloc (.cells #[.bool g, .slice a ds.length c] 55)).alloc (.cells #[.bool g', .slice a' es.length c'] 55)).alloc (.cells #[.bool false, .slice none 0 0] 55)) := ⟨_, rfl⟩
  rw [← hW0]
  have F : Hid (AddF w g g' (.slice a ds.length c) (.slice a' es.length c') (.slice none 0 0) W0) := by rw [hW0]; exact AddF.start w g g' _ _ _ _ _ _
  clear hW0
  go_region_held3 (fun w' => w'.cell? ⟨w.heap.size, 0, none⟩ = some (.bool g) ∧ w'.cell? ⟨w.heap.size, 1, none⟩ = some (.slice a ds.length c) ∧ w'.cell? ⟨w.heap.size + 1, 0, none⟩ = some (.bool g') ∧ w'.cell? ⟨w.heap.size + 1, 1, none⟩ = some (.slice a' es.length c') ∧ Below (w.heap.size + 1 + 1) W0 w')
    (first | exact addS_of F.out.s (Below.refl _ _).drew | exact addS_of F.out.s (by assumption) | exact addS_of F.out.s (Below.setCell (Below.setCell (by assumption) (by simp) _) (by simp) _))
    (first
      | (go_at_call 67; refine (neg_any g' a' c' es y _ (by omega) (h'.later F.out.bel.drew)).mono ?_; rintro e w1 ⟨g1, fs1, rfl, hf1, hL1, hb1⟩; have hB1 : Below W0.heap.size W0 w1 := (Below.refl _ _).drew.trans hb1; have hB1' : Below (w.heap.size + 1 + 1) W0 w1 := hB1.mono (by have := F.out.le; omega))
      | (go_at_call 56; refine (add_any g g1 a a' c c' ds fs1 x (-y) _ (by omega) (by omega) (h.later (F.out.bel.trans (hB1.mono (by have := F.out.le; omega)))) hL1).mono ?_; rintro e w2 ⟨g2, a2, c2, fs, rfl, hfl, hL2, hfar, hb2⟩; have hB2 : Below W0.heap.size W0 w2 := hB1.trans (hb2.mono hB1.size); have hB2' : Below (w.heap.size + 1 + 1) W0 w2 := hB2.mono (by have := F.out.le; omega); have F2 : Hid (AddF w g g' (.slice a ds.length c) (.slice a' es.length c') (.slice none 0 0) w2) := F.out.later hB2; have r1 := F2.out.r1; have r2 := F2.out.r2; have r3 := F2.out.r3))
  have HF : Hid (Far W0.heap.size a2 fs) := hfar.down hB1.size
  have HL : Hid (L1 w2 g2 a2 c2 fs (x + -y)) := hL2
  clear hfar hL2 hB1 hB1' hB2 hB2' hb1 hb2 hL1
  go_wp2
  refine bodyPost_ret (v := .agg #[.bool g2, .slice a2 fs.length c2]) (by simp [results, Try.results37, go_sem, r1, r2]) rfl ⟨g2, a2, c2, fs, rfl, by omega, ?_, HF.out.down (by have := F.out.le; omega), ?_⟩
  · rw [show x - y = x + -y by omega]
    have hle := F.out.le
    exact (HL.out.setFar HF.out (by simp; omega) _).setFar HF.out (by simp; omega) _
  · exact (F2.out.bel.setCell (by simp; omega) _).setCell (by simp; omega) _

end Go.Proofs.Ytlbegmepmeimkab
