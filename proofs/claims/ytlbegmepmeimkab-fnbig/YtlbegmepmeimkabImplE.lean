/-
  The program's sums of Bigs.
-/
import Derived.Test.YtlbegmepmeimkabImplD
import Derived.Test.YtlbegmepmeimkabImplA
import Derived.Test.YtlbegmepmeimkabRes
namespace Go.Proofs.Ytlbegmepmeimkab
open Go.RowKit

set_option maxHeartbeats 4000000 in
theorem sum_same (g g' : Bool) (a a' : Option Addr) (c c' : Nat) (zs ys : List Int) (x y : Int) (w : World) (hn : zs.length ≤ 100000) (hn' : ys.length ≤ 100000) (hz : RowAt .u32 w a zs) (hy : RowAt .u32 w a' ys) (h : B1 g zs x) (h' : B1 g' ys y) (hg : g = g') :
    Calls Try.prog 66 #[.agg #[.bool g, .slice a zs.length c], .agg #[.bool g', .slice a' ys.length c']] w fun e w' => BigOut w (x + y) (zs.length + ys.length + 1) e w' := by
  have HX : Hid (sg g (val 4294967296 zs + val 4294967296 ys) = x + y) := by
    unfold Hid
    rw [h.num, h'.num, hg]
    cases g' <;> simp [sg]
    omega
  have hgg : (g == g') = true := by rw [hg]; simp
  have hdz := h.can.1
  have hdy := h'.can.1
  clear hg h h'
  go_enter Try.func66, Try.ntmps66
  go_wp2
  obtain ⟨V0, hV0⟩ : ∃ V0, V0 = (((w.alloc (.cells #[.bool g, .slice a zs.length c] 26)).alloc (.cells #[.bool g', .slice a' ys.length c'] 26)).alloc (.cells #[.bool false, .slice none 0 0] 26)) := ⟨_, rfl⟩
  rw [← hV0]
  have F0 : Hid (AddF w g g' (.slice a zs.length c) (.slice a' ys.length c') (.slice none 0 0) V0) := by rw [hV0]; exact AddF.start w g g' _ _ _ _ _ _
  clear hV0
  have s0 := F0.out.s.1
  have s1 := F0.out.s.2.1
  have s2 := F0.out.s.2.2.1
  have s3 := F0.out.s.2.2.2.1
  go_quiet (fail)
  have F1 : Hid (AddF w g g' (.slice a zs.length c) (.slice a' ys.length c') (.slice none 0 0) (V0.drewN nq)) := F0.out.later (below_drewN (Below.refl _ _) _)
  clear s0 s1 s2 s3 F0
  generalize V0.drewN nq = W0 at *
  have s0 := F1.out.s.1
  have s1 := F1.out.s.2.1
  have s2 := F1.out.s.2.2.1
  have s3 := F1.out.s.2.2.2.1
  have F := F1
  clear F1
  go_wp2
  clear s0 s1 s2 s3
  go_region_held3 (fun w' => w'.cell? ⟨w.heap.size, 0, none⟩ = some (.bool g) ∧ w'.cell? ⟨w.heap.size, 1, none⟩ = some (.slice a zs.length c) ∧ w'.cell? ⟨w.heap.size + 1, 0, none⟩ = some (.bool g') ∧ w'.cell? ⟨w.heap.size + 1, 1, none⟩ = some (.slice a' ys.length c') ∧ Below (w.heap.size + 1 + 1) W0 w')
    (first | exact addS_of F.out.s (Below.refl _ _).drew | exact addS_of F.out.s (by assumption) | exact addS_of F.out.s (Below.setCell (Below.setCell (by assumption) (by simp) _) (by simp) _))
    (first
      | (go_at_call 79; refine (plus_any a a' c c' zs ys _ hn hn' (hz.later F.out.bel.drew) (hy.later F.out.bel.drew) hdz hdy).mono ?_; rintro e w1 ⟨a2, c2, fs, rfl, hf2, hm2, hcan, hval, hlen, hrn1, hb1⟩; have hB1 : Below W0.heap.size W0 w1 := (Below.refl _ _).drew.trans hb1; have hB1' : Below (w.heap.size + 1 + 1) W0 w1 := hB1.mono (by have := F.out.le; omega))
      | (go_at_call 50; refine (signed_any g a2 fs.length c2 _).mono ?_; rintro e w2 ⟨rfl, hb2⟩; have hB2 : Below W0.heap.size W0 w2 := hB1.trans (hb2.mono hB1.size); have hB2' : Below (w.heap.size + 1 + 1) W0 w2 := hB2.mono (by have := F.out.le; omega); have hrn2 : RowNew .u32 w2 W0.heap.size a2 fs := RowNew.later hrn1 hb2; have F2 : Hid (AddF w g g' (.slice a zs.length c) (.slice a' ys.length c') (.slice none 0 0) w2) := F.out.later hB2; have r1 := F2.out.r1; have r2 := F2.out.r2; have r3 := F2.out.r3))
  have HR : Hid (RowNew .u32 w2 W0.heap.size a2 fs) := hrn2
  have HB : Hid (B1 (g && decide (0 < fs.length)) fs (x + y)) := by unfold Hid; rw [← HX.out]; exact B1.of_signed hcan hval
  clear hrn1 hrn2 hB1 hB1' hB2 hB2' hb1 hb2 hcan hval
  generalize (g && decide (0 < fs.length)) = g2 at *
  go_wp2
  refine bodyPost_ret (v := .agg #[.bool g2, .slice a2 fs.length c2]) (by simp [results, Try.results66, go_sem, r1, r2]) rfl ?_
  have hle := F.out.le
  refine ⟨g2, a2, c2, fs, rfl, HB.out, by omega, ?_, ?_⟩
  · exact ((HR.out.setLow (by simp; omega) _).setLow (by simp; omega) _).down (by omega)
  · exact (F2.out.bel.setCell (by simp; omega) _).setCell (by simp; omega) _

set_option maxHeartbeats 4000000 in
theorem sum_ge (g g' : Bool) (a a' : Option Addr) (c c' : Nat) (zs ys : List Int) (x y : Int) (w : World) (hn : zs.length ≤ 100000) (hn' : ys.length ≤ 100000) (hz : RowAt .u32 w a zs) (hy : RowAt .u32 w a' ys) (h : B1 g zs x) (h' : B1 g' ys y) (hg : g' = !g) (hcmp : 0 ≤ cmpL zs ys) :
    Calls Try.prog 66 #[.agg #[.bool g, .slice a zs.length c], .agg #[.bool g', .slice a' ys.length c']] w fun e w' => BigOut w (x + y) (zs.length + ys.length + 1) e w' := by
  have hcc := cmpL_ge (B := 4294967296) (by decide) h.can h'.can hcmp
  have HX : Hid (sg g (val 4294967296 zs - val 4294967296 ys) = x + y) := by
    unfold Hid
    rw [h.num, h'.num, hg]
    cases g <;> simp [sg] <;> omega
  have hgg : (g == g') = false := by rw [hg]; cases g <;> rfl
  have hdz := h.can.1
  have hdy := h'.can.1
  have hl1 := hcc.1
  have HV : Hid (val 4294967296 ys ≤ val 4294967296 zs) := hcc.2
  obtain ⟨cv, hcv⟩ : ∃ cv, cv = cmpL zs ys := ⟨_, rfl⟩
  have hcmp' : 0 ≤ cv := by omega
  have HC : Hid (cv = cmpL zs ys) := hcv
  clear hg h h' hcc hcv hcmp
  go_enter Try.func66, Try.ntmps66
  go_wp2
  obtain ⟨V0, hV0⟩ : ∃ V0, V0 = (((w.alloc (.cells #[.bool g, .slice a zs.length c] 26)).alloc (.cells #[.bool g', .slice a' ys.length c'] 26)).alloc (.cells #[.bool false, .slice none 0 0] 26)) := ⟨_, rfl⟩
  rw [← hV0]
  have F0 : Hid (AddF w g g' (.slice a zs.length c) (.slice a' ys.length c') (.slice none 0 0) V0) := by rw [hV0]; exact AddF.start w g g' _ _ _ _ _ _
  clear hV0
  have s0 := F0.out.s.1
  have s1 := F0.out.s.2.1
  have s2 := F0.out.s.2.2.1
  have s3 := F0.out.s.2.2.2.1
  go_quiet (fail)
  have F1 : Hid (AddF w g g' (.slice a zs.length c) (.slice a' ys.length c') (.slice none 0 0) (V0.drewN nq)) := F0.out.later (below_drewN (Below.refl _ _) _)
  clear s0 s1 s2 s3 F0
  generalize V0.drewN nq = W0 at *
  have s0 := F1.out.s.1
  have s1 := F1.out.s.2.1
  have s2 := F1.out.s.2.2.1
  have s3 := F1.out.s.2.2.2.1
  go_wp2_with fail
  refine (order_any a a' c c' zs ys _ (by omega) (by omega) (hz.later F1.out.bel) (hy.later F1.out.bel)).mono ?_
  rintro e W1 ⟨rfl, hb0⟩
  rw [← HC.out]
  have F : Hid (AddF w g g' (.slice a zs.length c) (.slice a' ys.length c') (.slice none 0 0) W1) := F1.out.later hb0
  clear hb0 s0 s1 s2 s3 F1
  go_wp2
  go_region_held3 (fun w' => w'.cell? ⟨w.heap.size, 0, none⟩ = some (.bool g) ∧ w'.cell? ⟨w.heap.size, 1, none⟩ = some (.slice a zs.length c) ∧ w'.cell? ⟨w.heap.size + 1, 0, none⟩ = some (.bool g') ∧ w'.cell? ⟨w.heap.size + 1, 1, none⟩ = some (.slice a' ys.length c') ∧ Below (w.heap.size + 1 + 1) W1 w')
    (first | exact addS_of F.out.s (Below.refl _ _).drew | exact addS_of F.out.s (by assumption) | exact addS_of F.out.s (Below.setCell (Below.setCell (by assumption) (by simp) _) (by simp) _))
    (first
      | (go_at_call 82; refine (minus_any a a' c c' zs ys _ hn (hz.later F.out.bel.drew) (hy.later F.out.bel.drew) hdz hdy hl1 HV.out).mono ?_; rintro e w1 ⟨a2, c2, fs, rfl, hf2, hm2, hcan, hval, hlen, hrn1, hb1⟩; have hB1 : Below W1.heap.size W1 w1 := (Below.refl _ _).drew.trans hb1; have hB1' : Below (w.heap.size + 1 + 1) W1 w1 := hB1.mono (by have := F.out.le; omega))
      | (go_at_call 50; refine (signed_any g a2 fs.length c2 _).mono ?_; rintro e w2 ⟨rfl, hb2⟩; have hB2 : Below W1.heap.size W1 w2 := hB1.trans (hb2.mono hB1.size); have hB2' : Below (w.heap.size + 1 + 1) W1 w2 := hB2.mono (by have := F.out.le; omega); have hrn2 : RowNew .u32 w2 W1.heap.size a2 fs := RowNew.later hrn1 hb2; have F2 : Hid (AddF w g g' (.slice a zs.length c) (.slice a' ys.length c') (.slice none 0 0) w2) := F.out.later hB2; have r1 := F2.out.r1; have r2 := F2.out.r2; have r3 := F2.out.r3))
  have HR : Hid (RowNew .u32 w2 W1.heap.size a2 fs) := hrn2
  have HB : Hid (B1 (g && decide (0 < fs.length)) fs (x + y)) := by unfold Hid; rw [← HX.out]; exact B1.of_signed hcan hval
  clear hrn1 hrn2 hB1 hB1' hB2 hB2' hb1 hb2 hcan hval
  generalize (g && decide (0 < fs.length)) = g2 at *
  go_wp2
  refine bodyPost_ret (v := .agg #[.bool g2, .slice a2 fs.length c2]) (by simp [results, Try.results66, go_sem, r1, r2]) rfl ?_
  have hle := F.out.le
  refine ⟨g2, a2, c2, fs, rfl, HB.out, by omega, ?_, ?_⟩
  · exact ((HR.out.setLow (by simp; omega) _).setLow (by simp; omega) _).down (by omega)
  · exact (F2.out.bel.setCell (by simp; omega) _).setCell (by simp; omega) _

set_option maxHeartbeats 4000000 in
theorem sum_lt (g g' : Bool) (a a' : Option Addr) (c c' : Nat) (zs ys : List Int) (x y : Int) (w : World) (hn : zs.length ≤ 100000) (hn' : ys.length ≤ 100000) (hz : RowAt .u32 w a zs) (hy : RowAt .u32 w a' ys) (h : B1 g zs x) (h' : B1 g' ys y) (hg : g' = !g) (hcmp : cmpL zs ys < 0) :
    Calls Try.prog 66 #[.agg #[.bool g, .slice a zs.length c], .agg #[.bool g', .slice a' ys.length c']] w fun e w' => BigOut w (x + y) (zs.length + ys.length + 1) e w' := by
  have hcc := cmpL_lt (B := 4294967296) (by decide) h.can h'.can hcmp
  have HX : Hid (sg g' (val 4294967296 ys - val 4294967296 zs) = x + y) := by
    unfold Hid
    rw [h.num, h'.num, hg]
    cases g <;> simp [sg] <;> omega
  have hgg : (g == g') = false := by rw [hg]; cases g <;> rfl
  have hdz := h.can.1
  have hdy := h'.can.1
  have hl1 := hcc.1
  have HV : Hid (val 4294967296 zs ≤ val 4294967296 ys) := hcc.2
  obtain ⟨cv, hcv⟩ : ∃ cv, cv = cmpL zs ys := ⟨_, rfl⟩
  have hcmp' : cv < 0 := by omega
  have HC : Hid (cv = cmpL zs ys) := hcv
  clear hg h h' hcc hcv hcmp
  go_enter Try.func66, Try.ntmps66
  go_wp2
  obtain ⟨V0, hV0⟩ : ∃ V0, V0 = (((w.alloc (.cells #[.bool g, .slice a zs.length c] 26)).alloc (.cells #[.bool g', .slice a' ys.length c'] 26)).alloc (.cells #[.bool false, .slice none 0 0] 26)) := ⟨_, rfl⟩
  rw [← hV0]
  have F0 : Hid (AddF w g g' (.slice a zs.length c) (.slice a' ys.length c') (.slice none 0 0) V0) := by rw [hV0]; exact AddF.start w g g' _ _ _ _ _ _
  clear hV0
  have s0 := F0.out.s.1
  have s1 := F0.out.s.2.1
  have s2 := F0.out.s.2.2.1
  have s3 := F0.out.s.2.2.2.1
  go_quiet (fail)
  have F1 : Hid (AddF w g g' (.slice a zs.length c) (.slice a' ys.length c') (.slice none 0 0) (V0.drewN nq)) := F0.out.later (below_drewN (Below.refl _ _) _)
  clear s0 s1 s2 s3 F0
  generalize V0.drewN nq = W0 at *
  have s0 := F1.out.s.1
  have s1 := F1.out.s.2.1
  have s2 := F1.out.s.2.2.1
  have s3 := F1.out.s.2.2.2.1
  go_wp2_with fail
  refine (order_any a a' c c' zs ys _ (by omega) (by omega) (hz.later F1.out.bel) (hy.later F1.out.bel)).mono ?_
  rintro e W1 ⟨rfl, hb0⟩
  rw [← HC.out]
  have F : Hid (AddF w g g' (.slice a zs.length c) (.slice a' ys.length c') (.slice none 0 0) W1) := F1.out.later hb0
  clear hb0 s0 s1 s2 s3 F1
  go_wp2
  go_region_held3 (fun w' => w'.cell? ⟨w.heap.size, 0, none⟩ = some (.bool g) ∧ w'.cell? ⟨w.heap.size, 1, none⟩ = some (.slice a zs.length c) ∧ w'.cell? ⟨w.heap.size + 1, 0, none⟩ = some (.bool g') ∧ w'.cell? ⟨w.heap.size + 1, 1, none⟩ = some (.slice a' ys.length c') ∧ Below (w.heap.size + 1 + 1) W1 w')
    (first | exact addS_of F.out.s (Below.refl _ _).drew | exact addS_of F.out.s (by assumption) | exact addS_of F.out.s (Below.setCell (Below.setCell (by assumption) (by simp) _) (by simp) _))
    (first
      | (go_at_call 82; refine (minus_any a' a c' c ys zs _ hn' (hy.later F.out.bel.drew) (hz.later F.out.bel.drew) hdy hdz hl1 HV.out).mono ?_; rintro e w1 ⟨a2, c2, fs, rfl, hf2, hm2, hcan, hval, hlen, hrn1, hb1⟩; have hB1 : Below W1.heap.size W1 w1 := (Below.refl _ _).drew.trans hb1; have hB1' : Below (w.heap.size + 1 + 1) W1 w1 := hB1.mono (by have := F.out.le; omega))
      | (go_at_call 50; refine (signed_any g' a2 fs.length c2 _).mono ?_; rintro e w2 ⟨rfl, hb2⟩; have hB2 : Below W1.heap.size W1 w2 := hB1.trans (hb2.mono hB1.size); have hB2' : Below (w.heap.size + 1 + 1) W1 w2 := hB2.mono (by have := F.out.le; omega); have hrn2 : RowNew .u32 w2 W1.heap.size a2 fs := RowNew.later hrn1 hb2; have F2 : Hid (AddF w g g' (.slice a zs.length c) (.slice a' ys.length c') (.slice none 0 0) w2) := F.out.later hB2; have r1 := F2.out.r1; have r2 := F2.out.r2; have r3 := F2.out.r3))
  have HR : Hid (RowNew .u32 w2 W1.heap.size a2 fs) := hrn2
  have HB : Hid (B1 (g' && decide (0 < fs.length)) fs (x + y)) := by unfold Hid; rw [← HX.out]; exact B1.of_signed hcan hval
  clear hrn1 hrn2 hB1 hB1' hB2 hB2' hb1 hb2 hcan hval
  generalize (g' && decide (0 < fs.length)) = g2 at *
  go_wp2
  refine bodyPost_ret (v := .agg #[.bool g2, .slice a2 fs.length c2]) (by simp [results, Try.results66, go_sem, r1, r2]) rfl ?_
  have hle := F.out.le
  refine ⟨g2, a2, c2, fs, rfl, HB.out, by omega, ?_, ?_⟩
  · exact ((HR.out.setLow (by simp; omega) _).setLow (by simp; omega) _).down (by omega)
  · exact (F2.out.bel.setCell (by simp; omega) _).setCell (by simp; omega) _

theorem sumOf_any (g g' : Bool) (a a' : Option Addr) (c c' : Nat) (zs ys : List Int) (x y : Int) (w : World) (hn : zs.length ≤ 100000) (hn' : ys.length ≤ 100000) (hz : RowAt .u32 w a zs) (hy : RowAt .u32 w a' ys) (h : B1 g zs x) (h' : B1 g' ys y) :
    Calls Try.prog 66 #[.agg #[.bool g, .slice a zs.length c], .agg #[.bool g', .slice a' ys.length c']] w fun e w' => BigOut w (x + y) (zs.length + ys.length + 1) e w' := by
  by_cases hg : g = g'
  · exact sum_same g g' a a' c c' zs ys x y w hn hn' hz hy h h' hg
  · have hg' : g' = !g := by cases g <;> cases g' <;> simp_all
    by_cases hc : 0 ≤ cmpL zs ys
    · exact sum_ge g g' a a' c c' zs ys x y w hn hn' hz hy h h' hg' hc
    · exact sum_lt g g' a a' c c' zs ys x y w hn hn' hz hy h h' hg' (by omega)

end Go.Proofs.Ytlbegmepmeimkab
