/-
  The program's sums of Bigs.
-/
import Derived.Test.YtladfpljnaippaaDoorImplDImplA
import Derived.Test.YtladfpljnaippaaDoorRes
import Derived.Test.YtladfpljnaippaaDoorNumD
import Derived.Test.YtladfpljnaippaaDoorImplC0NumXImplS
namespace Go.Proofs.YtladfpljnaippaaDoor
open Go.RowKit

set_option maxHeartbeats 4000000 in
theorem sum_same (g g' : Bool) (a a' : Option Addr) (c c' : Nat) (zs ys : List Int) (x y : Int) (w : World) (hn : zs.length ≤ 100000) (hn' : ys.length ≤ 100000) (hz : RowAt .u32 w a zs) (hy : RowAt .u32 w a' ys) (h : B1 g zs x) (h' : B1 g' ys y) (hg : g = g') :
    Calls Tryd.prog 74 #[.agg #[.bool g, .slice a zs.length c], .agg #[.bool g', .slice a' ys.length c']] w fun e w' => BigOut w (x + y) (zs.length + ys.length + 1) e w' := by
  have HX : Hid (sg g (val 4294967296 zs + val 4294967296 ys) = x + y) := by
    unfold Hid
    rw [h.num, h'.num, hg]
    cases g' <;> simp [sg]
    omega
  have hgg : (g == g') = true := by rw [hg]; simp
  have hdz := h.can.1
  have hdy := h'.can.1
  clear hg h h'
  go_enter Tryd.func74, Tryd.ntmps74
  go_wp2
  obtain ⟨V0, hV0⟩ : ∃ V0, V0 = (((w.alloc (.cells #[.bool g, .slice a zs.length c] 25)).alloc (.cells #[.bool g', .slice a' ys.length c'] 25)).alloc (.cells #[.bool false, .slice none 0 0] 25)) := ⟨_, rfl⟩
  rw [← hV0]
  have F0 : Hid (AddF w g g' (.slice a zs.length c) (.slice a' ys.length c') (.slice none 0 0) V0) := by rw [hV0]; exact AddF.start w g g' _ _ _ _ _ _
  clear hV0
  have s0 := F0.out.s.1
  have s1 := F0.out.s.2.1
  have s2 := F0.out.s.2.2.1
  have s3 := F0.out.s.2.2.2.1
  go_quiet (fail)
  have F1 : Hid (AddF w g g' (.slice a zs.length c) (.slice a' ys.length c') (.slice none 0 0) (V0.drewN nq)) := F0.out.later (below_drewN (Below.refl _ _) _)
  clear s0 s1 s2 s3 F0
  generalize V0.drewN nq = W0 at *
  have s0 := F1.out.s.1
  have s1 := F1.out.s.2.1
  have s2 := F1.out.s.2.2.1
  have s3 := F1.out.s.2.2.2.1
  have F := F1
  clear F1
  go_wp2
  clear s0 s1 s2 s3
  go_region_held3 (fun w' => w'.cell? ⟨w.heap.size, 0, none⟩ = some (.bool g) ∧ w'.cell? ⟨w.heap.size, 1, none⟩ = some (.slice a zs.length c) ∧ w'.cell? ⟨w.heap.size + 1, 0, none⟩ = some (.bool g') ∧ w'.cell? ⟨w.heap.size + 1, 1, none⟩ = some (.slice a' ys.length c') ∧ Below (w.heap.size + 1 + 1) W0 w')
    (first | exact addS_of F.out.s (Below.refl _ _).drew | exact addS_of F.out.s (by assumption) | exact addS_of F.out.s (Below.setCell (Below.setCell (by assumption) (by simp) _) (by simp) _))
    (first
      | (go_at_call 82; refine (plus_any a a' c c' zs ys _ hn hn' (hz.later F.out.bel.drew) (hy.later F.out.bel.drew) hdz hdy).mono ?_; rintro e w1 ⟨a2, c2, fs, rfl, hf2, hm2, hcan, hval, hlen, hrn1, hb1⟩; have hB1 : Below W0.heap.size W0 w1 := (Below.refl _ _).drew.trans hb1; have hB1' : Below (w.heap.size + 1 + 1) W0 w1 := hB1.mono (by have := F.out.le; omega))
      | (go_at_call 28; refine (signed_any g a2 fs.length c2 _).mono ?_; rintro e w2 ⟨rfl, hb2⟩; have hB2 : Below W0.heap.size W0 w2 := hB1.trans (hb2.mono hB1.size); have hB2' : Below (w.heap.size + 1 + 1) W0 w2 := hB2.mono (by have := F.out.le; omega); have hrn2 : RowNew .u32 w2 W0.heap.size a2 fs := RowNew.later hrn1 hb2; have F2 : Hid (AddF w g g' (.slice a zs.length c) (.slice a' ys.length c') (.slice none 0 0) w2) := F.out.later hB2; have r1 := F2.out.r1; have r2 := F2.out.r2; have r3 := F2.out.r3))
  have HR : Hid (RowNew .u32 w2 W0.heap.size a2 fs) := hrn2
  have HB : Hid (B1 (g && decide (0 < fs.length)) fs (x + y)) := by unfold Hid; rw [← HX.out]; exact B1.of_signed hcan hval
  clear hrn1 hrn2 hB1 hB1' hB2 hB2' hb1 hb2 hcan hval
  generalize (g && decide (0 < fs.length)) = g2 at *
  go_wp2
  refine bodyPost_ret (v := .agg #[.bool g2, .slice a2 fs.length c2]) (by simp [results, Tryd.results74, go_sem, r1, r2]) rfl ?_
  have hle := F.out.le
  refine ⟨g2, a2, c2, fs, rfl, HB.out, by omega, ?_, ?_⟩
  · exact ((HR.out.setLow (by simp; omega) _).setLow (by simp; omega) _).down (by omega)
  · exact (F2.out.bel.setCell (by simp; omega) _).setCell (by simp; omega) _

set_option maxHeartbeats 4000000 in
theorem sum_ge (g g' : Bool) (a a' : Option Addr) (c c' : Nat) (zs ys : List Int) (x y : Int) (w : World) (hn : zs.length ≤ 100000) (hn' : ys.length ≤ 100000) (hz : RowAt .u32 w a zs) (hy : RowAt .u32 w a' ys) (h : B1 g zs x) (h' : B1 g' ys y) (hg : g' = !g) (hcmp : 0 ≤ cmpL zs ys) :
    Calls Tryd.prog 74 #[.agg #[.bool g, .slice a zs.length c], .agg #[.bool g', .slice a' ys.length c']] w fun e w' => BigOut w (x + y) (zs.length + ys.length + 1) e w' := by
  have hcc := cmpL_ge (B := 4294967296) (by decide) h.can h'.can hcmp
  have HX : Hid (sg g (val 4294967296 zs - val 4294967296 ys) = x + y) := by
    unfold Hid
    rw [h.num, h'.num, hg]
    cases g <;> simp [sg] <;> omega
  have hgg : (g == g') = false := by rw [hg]; cases g <;> rfl
  have hdz := h.can.1
  have hdy := h'.can.1
  have hl1 := hcc.1
  have HV : Hid (val 4294967296 ys ≤ val 4294967296 zs) := hcc.2
  obtain ⟨cv, hcv⟩ : ∃ cv, cv = cmpL zs ys := ⟨_, rfl⟩
  have hcmp' : 0 ≤ cv := by omega
  have HC : Hid (cv = cmpL zs ys) := hcv
  clear hg h h' hcc hcv hcmp
  go_enter Tryd.func74, Tryd.ntmps74
  go_wp2
  obtain ⟨V0, hV0⟩ : ∃ V0, V0 = (((w.alloc (.cells #[.bool g, .slice a zs.length c] 25)).alloc (.cells #[.bool g', .slice a' ys.length c'] 25)).alloc (.cells #[.bool false, .slice none 0 0] 25)) := ⟨_, rfl⟩
  rw [← hV0]
  have F0 : Hid (AddF w g g' (.slice a zs.length c) (.slice a' ys.length c') (.slice none 0 0) V0) := by rw [hV0]; exact AddF.start w g g' _ _ _ _ _ _
  clear hV0
  have s0 := F0.out.s.1
  have s1 := F0.out.s.2.1
  have s2 := F0.out.s.2.2.1
  have s3 := F0.out.s.2.2.2.1
  go_quiet (fail)
  have F1 : Hid (AddF w g g' (.slice a zs.length c) (.slice a' ys.length c') (.slice none 0 0) (V0.drewN nq)) := F0.out.later (below_drewN (Below.refl _ _) _)
  clear s0 s1 s2 s3 F0
  generalize V0.drewN nq = W0 at *
  have s0 := F1.out.s.1
  have s1 := F1.out.s.2.1
  have s2 := F1.out.s.2.2.1
  have s3 := F1.out.s.2.2.2.1
  go_wp2_with fail
  refine (order_any a a' c c' zs ys _ (by omega) (by omega) (hz.later F1.out.bel) (hy.later F1.out.bel)).mono ?_
  rintro e W1 ⟨rfl, hb0⟩
  rw [← HC.out]
  have F : Hid (AddF w g g' (.slice a zs.length c) (.slice a' ys.length c') (.slice none 0 0) W1) := F1.out.later hb0
  clear hb0 s0 s1 s2 s3 F1
  go_wp2
  go_region_held3 (fun w' => w'.cell? ⟨w.heap.size, 0, none⟩ = some (.bool g) ∧ w'.cell? ⟨w.heap.size, 1, none⟩ = some (.slice a zs.length c) ∧ w'.cell? ⟨w.heap.size + 1, 0, none⟩ = some (.bool g') ∧ w'.cell? ⟨w.heap.size + 1, 1, none⟩ = some (.slice a' ys.length c') ∧ Below (w.heap.size + 1 + 1) W1 w')
    (first | exact addS_of F.out.s (Below.refl _ _).drew | exact addS_of F.out.s (by assumption) | exact addS_of F.out.s (Below.setCell (Below.setCell (by assumption) (by simp) _) (by simp) _))
    (first
      | (go_at_call 84; refine (minus_any a a' c c' zs ys _ hn (hz.later F.out.bel.drew) (hy.later F.out.bel.drew) hdz hdy hl1 HV.out).mono ?_; rintro e w1 ⟨a2, c2, fs, rfl, hf2, hm2, hcan, hval, hlen, hrn1, hb1⟩; have hB1 : Below W1.heap.size W1 w1 := (Below.refl _ _).drew.trans hb1; have hB1' : Below (w.heap.size + 1 + 1) W1 w1 := hB1.mono (by have := F.out.le; omega))
      | (go_at_call 28; refine (signed_any g a2 fs.length c2 _).mono ?_; rintro e w2 ⟨rfl, hb2⟩; have hB2 : Below W1.heap.size W1 w2 := hB1.trans (hb2.mono hB1.size); have hB2' : Below (w.heap.size + 1 + 1) W1 w2 := hB2.mono (by have := F.out.le; omega); have hrn2 : RowNew .u32 w2 W1.heap.size a2 fs := RowNew.later hrn1 hb2; have F2 : Hid (AddF w g g' (.slice a zs.length c) (.slice a' ys.length c') (.slice none 0 0) w2) := F.out.later hB2; have r1 := F2.out.r1; have r2 := F2.out.r2; have r3 := F2.out.r3))
  have HR : Hid (RowNew .u32 w2 W1.heap.size a2 fs) := hrn2
  have HB : Hid (B1 (g && decide (0 < fs.length)) fs (x + y)) := by unfold Hid; rw [← HX.out]; exact B1.of_signed hcan hval
  clear hrn1 hrn2 hB1 hB1' hB2 hB2' hb1 hb2 hcan hval
  generalize (g && decide (0 < fs.length)) = g2 at *
  go_wp2
  refine bodyPost_ret (v := .agg #[.bool g2, .slice a2 fs.length c2]) (by simp [results, Tryd.results74, go_sem, r1, r2]) rfl ?_
  have hle := F.out.le
  refine ⟨g2, a2, c2, fs, rfl, HB.out, by omega, ?_, ?_⟩
  · exact ((HR.out.setLow (by simp; omega) _).setLow (by simp; omega) _).down (by omega)
  · exact (F2.out.bel.setCell (by simp; omega) _).setCell (by simp; omega) _

set_option maxHeartbeats 4000000 in
theorem sum_lt (g g' : Bool) (a a' : Option Addr) (c c' : Nat) (zs ys : List Int) (x y : Int) (w : World) (hn : zs.length ≤ 100000) (hn' : ys.length ≤ 100000) (hz : RowAt .u32 w a zs) (hy : RowAt .u32 w a' ys) (h : B1 g zs x) (h' : B1 g' ys y) (hg : g' = !g) (hcmp : cmpL zs ys < 0) :
    Calls Tryd.prog 74 #[.agg #[.bool g, .slice a zs.length c], .agg #[.bool g', .slice a' ys.length c']] w fun e w' => BigOut w (x + y) (zs.length + ys.length + 1) e w' := by
  have hcc := cmpL_lt (B := 4294967296) (by decide) h.can h'.can hcmp
  have HX : Hid (sg g' (val 4294967296 ys - val 4294967296 zs) = x + y) := by
    unfold Hid
    rw [h.num, h'.num, hg]
    cases g <;> simp [sg] <;> omega
  have hgg : (g == g') = false := by rw [hg]; cases g <;> rfl
  have hdz := h.can.1
  have hdy := h'.can.1
  have hl1 := hcc.1
  have HV : Hid (val 4294967296 zs ≤ val 4294967296 ys) := hcc.2
  obtain ⟨cv, hcv⟩ : ∃ cv, cv = cmpL zs ys := ⟨_, rfl⟩
  have hcmp' : cv < 0 := by omega
  have HC : Hid (cv = cmpL zs ys) := hcv
  clear hg h h' hcc hcv hcmp
  go_enter Tryd.func74, Tryd.ntmps74
  go_wp2
  obtain ⟨V0, hV0⟩ : ∃ V0, V0 = (((w.alloc (.cells #[.bool g, .slice a zs.length c] 25)).alloc (.cells #[.bool g', .slice a' ys.length c'] 25)).alloc (.cells #[.bool false, .slice none 0 0] 25)) := ⟨_, rfl⟩
  rw [← hV0]
  have F0 : Hid (AddF w g g' (.slice a zs.length c) (.slice a' ys.length c') (.slice none 0 0) V0) := by rw [hV0]; exact AddF.start w g g' _ _ _ _ _ _
  clear hV0
  have s0 := F0.out.s.1
  have s1 := F0.out.s.2.1
  have s2 := F0.out.s.2.2.1
  have s3 := F0.out.s.2.2.2.1
  go_quiet (fail)
  have F1 : Hid (AddF w g g' (.slice a zs.length c) (.slice a' ys.length c') (.slice none 0 0) (V0.drewN nq)) := F0.out.later (below_drewN (Below.refl _ _) _)
  clear s0 s1 s2 s3 F0
  generalize V0.drewN nq = W0 at *
  have s0 := F1.out.s.1
  have s1 := F1.out.s.2.1
  have s2 := F1.out.s.2.2.1
  have s3 := F1.out.s.2.2.2.1
  go_wp2_with fail
  refine (order_any a a' c c' zs ys _ (by omega) (by omega) (hz.later F1.out.bel) (hy.later F1.out.bel)).mono ?_
  rintro e W1 ⟨rfl, hb0⟩
  rw [← HC.out]
  have F : Hid (AddF w g g' (.slice a zs.length c) (.slice a' ys.length c') (.slice none 0 0) W1) := F1.out.later hb0
  clear hb0 s0 s1 s2 s3 F1
  go_wp2
  go_region_held3 (fun w' => w'.cell? ⟨w.heap.size, 0, none⟩ = some (.bool g) ∧ w'.cell? ⟨w.heap.size, 1, none⟩ = some (.slice a zs.length c) ∧ w'.cell? ⟨w.heap.size + 1, 0, none⟩ = some (.bool g') ∧ w'.cell? ⟨w.heap.size + 1, 1, none⟩ = some (.slice a' ys.length c') ∧ Below (w.heap.size + 1 + 1) W1 w')
    (first | exact addS_of F.out.s (Below.refl _ _).drew | exact addS_of F.out.s (by assumption) | exact addS_of F.out.s (Below.setCell (Below.setCell (by assumption) (by simp) _) (by simp) _))
    (first
      | (go_at_call 84; refine (minus_any a' a c' c ys zs _ hn' (hy.later F.out.bel.drew) (hz.later F.out.bel.drew) hdy hdz hl1 HV.out).mono ?_; rintro e w1 ⟨a2, c2, fs, rfl, hf2, hm2, hcan, hval, hlen, hrn1, hb1⟩; have hB1 : Below W1.heap.size W1 w1 := (Below.refl _ _).drew.trans hb1; have hB1' : Below (w.heap.size + 1 + 1) W1 w1 := hB1.mono (by have := F.out.le; omega))
      | (go_at_call 28; refine (signed_any g' a2 fs.length c2 _).mono ?_; rintro e w2 ⟨rfl, hb2⟩; have hB2 : Below W1.heap.size W1 w2 := hB1.trans (hb2.mono hB1.size); have hB2' : Below (w.heap.size + 1 + 1) W1 w2 := hB2.mono (by have := F.out.le; omega); have hrn2 : RowNew .u32 w2 W1.heap.size a2 fs := RowNew.later hrn1 hb2; have F2 : Hid (AddF w g g' (.slice a zs.length c) (.slice a' ys.length c') (.slice none 0 0) w2) := F.out.later hB2; have r1 := F2.out.r1; have r2 := F2.out.r2; have r3 := F2.out.r3))
  have HR : Hid (RowNew .u32 w2 W1.heap.size a2 fs) := hrn2
  have HB : Hid (B1 (g' && decide (0 < fs.length)) fs (x + y)) := by unfold Hid; rw [← HX.out]; exact B1.of_signed hcan hval
  clear hrn1 hrn2 hB1 hB1' hB2 hB2' hb1 hb2 hcan hval
  generalize (g' && decide (0 < fs.length)) = g2 at *
  go_wp2
  refine bodyPost_ret (v := .agg #[.bool g2, .slice a2 fs.length c2]) (by simp [results, Tryd.results74, go_sem, r1, r2]) rfl ?_
  have hle := F.out.le
  refine ⟨g2, a2, c2, fs, rfl, HB.out, by omega, ?_, ?_⟩
  · exact ((HR.out.setLow (by simp; omega) _).setLow (by simp; omega) _).down (by omega)
  · exact (F2.out.bel.setCell (by simp; omega) _).setCell (by simp; omega) _

theorem sumOf_any (g g' : Bool) (a a' : Option Addr) (c c' : Nat) (zs ys : List Int) (x y : Int) (w : World) (hn : zs.length ≤ 100000) (hn' : ys.length ≤ 100000) (hz : RowAt .u32 w a zs) (hy : RowAt .u32 w a' ys) (h : B1 g zs x) (h' : B1 g' ys y) :
    Calls Tryd.prog 74 #[.agg #[.bool g, .slice a zs.length c], .agg #[.bool g', .slice a' ys.length c']] w fun e w' => BigOut w (x + y) (zs.length + ys.length + 1) e w' := by
  by_cases hg : g = g'
  · exact sum_same g g' a a' c c' zs ys x y w hn hn' hz hy h h' hg
  · have hg' : g' = !g := by cases g <;> cases g' <;> simp_all
    by_cases hc : 0 ≤ cmpL zs ys
    · exact sum_ge g g' a a' c c' zs ys x y w hn hn' hz hy h h' hg' hc
    · exact sum_lt g g' a a' c c' zs ys x y w hn hn' hz hy h h' hg' (by omega)

end Go.Proofs.YtladfpljnaippaaDoor

/-
  The program's dyadic numbers: whole at an exponent, negated.
-/
namespace Go.Proofs.YtladfpljnaippaaDoor
open Go.RowKit

/-- A Dyadic's box behind w, and behind it the box of a Big, still zero. -/
structure Bx5 (w : World) (u v e : Value) (W : World) : Prop where
  q0 : W.cell? ⟨w.heap.size, 0, none⟩ = some u
  q1 : W.cell? ⟨w.heap.size, 1, none⟩ = some v
  q2 : W.cell? ⟨w.heap.size, 2, none⟩ = some e
  r1 : W.cell? ⟨w.heap.size + 1, 0, none⟩ = some (.bool false)
  r2 : W.cell? ⟨w.heap.size + 1, 1, none⟩ = some (.slice none 0 0)
  r4 : ∀ j, W.frozen? ⟨w.heap.size + 1, j, none⟩ = false
  le : w.heap.size + 1 + 1 ≤ W.heap.size
  bel : Below w.heap.size w W

theorem Bx5.start (w : World) (u v e : Value) (t t' : TypeId) : Bx5 w u v e ((w.alloc (.cells #[u, v, e] t)).alloc (.cells #[.bool false, .slice none 0 0] t')) := by
  refine ⟨?_, ?_, ?_, ?_, ?_, ?_, ?_, bel2 _ _ _⟩
  all_goals simp [go_sem]

theorem Bx5.later {w : World} {u v e : Value} {W W' : World} (h : Bx5 w u v e W) (hb : Below W.heap.size W W') : Bx5 w u v e W' := by
  have hl := h.le
  exact ⟨(hb.cell (by simp; omega)).trans h.q0, (hb.cell (by simp; omega)).trans h.q1, (hb.cell (by simp; omega)).trans h.q2, (hb.cell (by simp; omega)).trans h.r1, (hb.cell (by simp; omega)).trans h.r2, fun j => (hb.frozen (by simp; omega)).trans (h.r4 j), Nat.le_trans h.le hb.size, h.bel.trans (hb.mono (by omega))⟩

theorem Bx5.held {w : World} {u v e : Value} {W W' : World} (h : Bx5 w u v e W) (hb : Below (w.heap.size + 1) W W') : W'.cell? ⟨w.heap.size, 0, none⟩ = some u ∧ W'.cell? ⟨w.heap.size, 1, none⟩ = some v ∧ W'.cell? ⟨w.heap.size, 2, none⟩ = some e ∧ Below (w.heap.size + 1) W W' :=
  ⟨(hb.cell (by simp)).trans h.q0, (hb.cell (by simp)).trans h.q1, (hb.cell (by simp)).trans h.q2, hb⟩

set_option maxRecDepth 100000 in
set_option maxHeartbeats 4000000 in
theorem whole_any (g : Bool) (a : Option Addr) (c : Nat) (zs : List Int) (x E' n : Int) (w : World) (hn : zs.length ≤ 60000) (n0 : 0 ≤ n) (n1 : n ≤ 120000) (hz : RowAt .u32 w a zs) (h : B1 g zs x) :
    Calls Tryd.prog 73 #[.agg #[.bool g, .slice a zs.length c, .int .i64 (E' + n)], .int .i64 E'] w fun e w' => BigOut w (x * 2 ^ n.toNat) (zs.length + 3751) e w' := by
  have B0 : Hid (∀ t t', Bx5 w (.bool g) (.slice a zs.length c) (.int .i64 (E' + n)) ((w.alloc (.cells #[.bool g, .slice a zs.length c, .int .i64 (E' + n)] t)).alloc (.cells #[.bool false, .slice none 0 0] t'))) := fun t t' => Bx5.start w _ _ _ _ _
  have HX : Hid (sg g (val 4294967296 zs * 2 ^ n.toNat) = x * 2 ^ n.toNat) := by
    unfold Hid
    rw [h.num]
    cases g
    · rfl
    · simp only [sg, if_true]; rw [Int.neg_mul]
  have hsub : E' + n - E' = n := by omega
  have HW : Hid (IntKind.i64.wrap n = n) := wrap64_id (by omega) (by omega)
  go_enter Tryd.func73, Tryd.ntmps73
  go_wp2
  obtain ⟨W0, hW0⟩ : ∃ W0, W0 = ((w.alloc (.cells #[.bool g, .slice a zs.length c, .int .i64 (E' + n)] 27)).alloc (.cells #[.bool false, .slice none 0 0] 25)) := ⟨_, rfl⟩
  have F : Hid (Bx5 w (.bool g) (.slice a zs.length c) (.int .i64 (E' + n)) W0) := by unfold Hid; rw [hW0]; exact B0.out _ _
  rw [← hW0]
  clear hW0 B0
  have zz : w.heap.size + 1 < W0.heap.size := F.out.le
  go_region_held3 (fun w' => w'.cell? ⟨w.heap.size, 0, none⟩ = some (.bool g) ∧ w'.cell? ⟨w.heap.size, 1, none⟩ = some (.slice a zs.length c) ∧ w'.cell? ⟨w.heap.size, 2, none⟩ = some (.int .i64 (E' + n)) ∧ Below (w.heap.size + 1) W0 w')
    (first | exact F.out.held (Below.refl _ _).drew | exact F.out.held (by assumption) | exact F.out.held (Below.setCell (Below.setCell (by assumption) (by simp) _) (by simp) _))
    (first
      | (go_at_call 81; rw [HW.out]; refine (upI_any a c zs n _ (by omega) n0 (by omega) (hz.later F.out.bel.drew) h.can.1).mono ?_; rintro e w1 ⟨a1, c1, fs, rfl, hf1, hm1, hcan1, hv1, hl1, hr1, hb1⟩; have hB1 : Below W0.heap.size W0 w1 := (Below.refl _ _).drew.trans hb1; have hB1' : Below (w.heap.size + 1) W0 w1 := hB1.mono (by omega))
      | (go_at_call 28; refine (signed_any g a1 fs.length c1 _).mono ?_; rintro e w2 ⟨rfl, hb2⟩; have hB2 : Below W0.heap.size W0 w2 := hB1.trans (hb2.mono hB1.size); have hB2' : Below (w.heap.size + 1) W0 w2 := hB2.mono (by omega); have hr2 := hr1.later hb2; have F2 : Hid (Bx5 w (.bool g) (.slice a zs.length c) (.int .i64 (E' + n)) w2) := F.out.later hB2; have r1 := F2.out.r1; have r2 := F2.out.r2; have r4 := F2.out.r4))
  have HB1 : Hid (B1 (g && decide (0 < fs.length)) fs (x * 2 ^ n.toNat)) := by unfold Hid; rw [← HX.out]; exact B1.of_signed hcan1 hv1
  have HR : Hid (RowNew .u32 w2 (w.heap.size + 1 + 1) a1 fs) := by unfold Hid; exact hr2.down (by simp; omega)
  have hl2 : fs.length ≤ zs.length + 3751 ∧ fs.length ≤ c1 ∧ c1 ≤ maxLen := by omega
  clear hB1 hB1' hB2 hB2' hb1 hb2 hr1 hr2 hcan1 hv1
  generalize (g && decide (0 < fs.length)) = G at *
  go_wp2
  refine bodyPost_ret (v := .agg #[.bool G, .slice a1 fs.length c1]) (by simp [results, Tryd.results73, go_sem, r1, r2]) rfl ?_
  refine ⟨G, a1, c1, fs, rfl, HB1.out, hl2, ?_, ?_⟩
  · exact ((HR.out.setLow (by simp) _).setLow (by simp) _).down (by omega)
  · exact (F2.out.bel.setCell (by simp) _).setCell (by simp) _

theorem B1.neg {g : Bool} {zs : List Int} {x : Int} (h : B1 g zs x) : B1 (!g && decide (0 < zs.length)) zs (-x) := by
  have h1 := B1.of_signed (g := !g) h.can rfl
  rw [sg_not, ← h.num] at h1
  exact h1

end Go.Proofs.YtladfpljnaippaaDoor
