/-
  The program's sums of Bigs.
-/
import Derived.Test.YtladfpljnaippabDoorImplCImplDImplAF
import Derived.Test.YtladfpljnaippabDoorResQF
import Derived.Test.YtladfpljnaippabDoorNumDQF
import Derived.Test.YtladfpljnaippabDoorNumGToImplSF
import Derived.Test.YtladfpljnaippabDoorNumWToNumFlF
namespace Go.Proofs.YtladfpljnaippabDoor
open Go.RowKit

set_option maxHeartbeats 4000000 in
theorem sum_same (g g' : Bool) (a a' : Option Addr) (c c' : Nat) (zs ys : List Int) (x y : Int) (w : World) (hn : zs.length ≤ 100000) (hn' : ys.length ≤ 100000) (hz : RowAt .u32 w a zs) (hy : RowAt .u32 w a' ys) (h : B1 g zs x) (h' : B1 g' ys y) (hg : g = g') :
    Calls Tryd.prog 109 #[.agg #[.bool g, .slice a zs.length c], .agg #[.bool g', .slice a' ys.length c']] w fun e w' => BigOut w (x + y) (zs.length + ys.length + 1) e w' := by
  have HX : Hid (sg g (val 4294967296 zs + val 4294967296 ys) = x + y) := by
    unfold Hid
    rw [h.num, h'.num, hg]
    cases g' <;> simp [sg]
    omega
  have hgg : (g == g') = true := by rw [hg]; simp
  have hdz := h.can.1
  have hdy := h'.can.1
  clear hg h h'
  go_enter Tryd.func109, Tryd.ntmps109
  go_wp2
  obtain ⟨V0, hV0⟩ : ∃ V0, V0 = (((w.alloc (.cells #[.bool g, .slice a zs.length c] 27)).alloc (.cells #[.bool g', .slice a' ys.length c'] 27)).alloc (.cells #[.bool false, .slice none 0 0] 27)) := ⟨_, rfl⟩
  rw [← hV0]
  have F0 : Hid (AddF w g g' (.slice a zs.length c) (.slice a' ys.length c') (.slice none 0 0) V0) := by rw [hV0]; exact AddF.start w g g' _ _ _ _ _ _
  clear hV0
  have s0 := F0.out.s.1
  have s1 := F0.out.s.2.1
  have s2 := F0.out.s.2.2.1
  have s3 := F0.out.s.2.2.2.1
  go_quiet (fail)
  have F1 : Hid (AddF w g g' (.slice a zs.length c) (.slice a' ys.length c') (.slice none 0 0) (V0.drewN nq)) := F0.out.later (below_drewN (Below.refl _ _) _)
  clear s0 s1 s2 s3 F0
  generalize V0.drewN nq = W0 at *
  have s0 := F1.out.s.1
  have s1 := F1.out.s.2.1
  have s2 := F1.out.s.2.2.1
  have s3 := F1.out.s.2.2.2.1
  have F := F1
  clear F1
  go_wp2
  clear s0 s1 s2 s3
  go_region_held3 (fun w' => w'.cell? ⟨w.heap.size, 0, none⟩ = some (.bool g) ∧ w'.cell? ⟨w.heap.size, 1, none⟩ = some (.slice a zs.length c) ∧ w'.cell? ⟨w.heap.size + 1, 0, none⟩ = some (.bool g') ∧ w'.cell? ⟨w.heap.size + 1, 1, none⟩ = some (.slice a' ys.length c') ∧ Below (w.heap.size + 1 + 1) W0 w')
    (first | exact addS_of F.out.s (Below.refl _ _).drew | exact addS_of F.out.s (by assumption) | exact addS_of F.out.s (Below.setCell (Below.setCell (by assumption) (by simp) _) (by simp) _))
    (first
      | (go_at_call 117; refine (plus_any a a' c c' zs ys _ hn hn' (hz.later F.out.bel.drew) (hy.later F.out.bel.drew) hdz hdy).mono ?_; rintro e w1 ⟨a2, c2, fs, rfl, hf2, hm2, hcan, hval, hlen, hrn1, hb1⟩; have hB1 : Below W0.heap.size W0 w1 := (Below.refl _ _).drew.trans hb1; have hB1' : Below (w.heap.size + 1 + 1) W0 w1 := hB1.mono (by have := F.out.le; omega))
      | (go_at_call 50; refine (signed_any g a2 fs.length c2 _).mono ?_; rintro e w2 ⟨rfl, hb2⟩; have hB2 : Below W0.heap.size W0 w2 := hB1.trans (hb2.mono hB1.size); have hB2' : Below (w.heap.size + 1 + 1) W0 w2 := hB2.mono (by have := F.out.le; omega); have hrn2 : RowNew .u32 w2 W0.heap.size a2 fs := RowNew.later hrn1 hb2; have F2 : Hid (AddF w g g' (.slice a zs.length c) (.slice a' ys.length c') (.slice none 0 0) w2) := F.out.later hB2; have r1 := F2.out.r1; have r2 := F2.out.r2; have r3 := F2.out.r3))
  have HR : Hid (RowNew .u32 w2 W0.heap.size a2 fs) := hrn2
  have HB : Hid (B1 (g && decide (0 < fs.length)) fs (x + y)) := by unfold Hid; rw [← HX.out]; exact B1.of_signed hcan hval
  clear hrn1 hrn2 hB1 hB1' hB2 hB2' hb1 hb2 hcan hval
  generalize (g && decide (0 < fs.length)) = g2 at *
  go_wp2
  refine bodyPost_ret (v := .agg #[.bool g2, .slice a2 fs.length c2]) (by simp [results, Tryd.results109, go_sem, r1, r2]) rfl ?_
  have hle := F.out.le
  refine ⟨g2, a2, c2, fs, rfl, HB.out, by omega, ?_, ?_⟩
  · exact ((HR.out.setLow (by simp; omega) _).setLow (by simp; omega) _).down (by omega)
  · exact (F2.out.bel.setCell (by simp; omega) _).setCell (by simp; omega) _

set_option maxHeartbeats 4000000 in
theorem sum_ge (g g' : Bool) (a a' : Option Addr) (c c' : Nat) (zs ys : List Int) (x y : Int) (w : World) (hn : zs.length ≤ 100000) (hn' : ys.length ≤ 100000) (hz : RowAt .u32 w a zs) (hy : RowAt .u32 w a' ys) (h : B1 g zs x) (h' : B1 g' ys y) (hg : g' = !g) (hcmp : 0 ≤ cmpL zs ys) :
    Calls Tryd.prog 109 #[.agg #[.bool g, .slice a zs.length c], .agg #[.bool g', .slice a' ys.length c']] w fun e w' => BigOut w (x + y) (zs.length + ys.length + 1) e w' := by
  have hcc := cmpL_ge (B := 4294967296) (by decide) h.can h'.can hcmp
  have HX : Hid (sg g (val 4294967296 zs - val 4294967296 ys) = x + y) := by
    unfold Hid
    rw [h.num, h'.num, hg]
    cases g <;> simp [sg] <;> omega
  have hgg : (g == g') = false := by rw [hg]; cases g <;> rfl
  have hdz := h.can.1
  have hdy := h'.can.1
  have hl1 := hcc.1
  have HV : Hid (val 4294967296 ys ≤ val 4294967296 zs) := hcc.2
  obtain ⟨cv, hcv⟩ : ∃ cv, cv = cmpL zs ys := ⟨_, rfl⟩
  have hcmp' : 0 ≤ cv := by omega
  have HC : Hid (cv = cmpL zs ys) := hcv
  clear hg h h' hcc hcv hcmp
  go_enter Tryd.func109, Tryd.ntmps109
  go_wp2
  obtain ⟨V0, hV0⟩ : ∃ V0, V0 = (((w.alloc (.cells #[.bool g, .slice a zs.length c] 27)).alloc (.cells #[.bool g', .slice a' ys.length c'] 27)).alloc (.cells #[.bool false, .slice none 0 0] 27)) := ⟨_, rfl⟩
  rw [← hV0]
  have F0 : Hid (AddF w g g' (.slice a zs.length c) (.slice a' ys.length c') (.slice none 0 0) V0) := by rw [hV0]; exact AddF.start w g g' _ _ _ _ _ _
  clear hV0
  have s0 := F0.out.s.1
  have s1 := F0.out.s.2.1
  have s2 := F0.out.s.2.2.1
  have s3 := F0.out.s.2.2.2.1
  go_quiet (fail)
  have F1 : Hid (AddF w g g' (.slice a zs.length c) (.slice a' ys.length c') (.slice none 0 0) (V0.drewN nq)) := F0.out.later (below_drewN (Below.refl _ _) _)
  clear s0 s1 s2 s3 F0
  generalize V0.drewN nq = W0 at *
  have s0 := F1.out.s.1
  have s1 := F1.out.s.2.1
  have s2 := F1.out.s.2.2.1
  have s3 := F1.out.s.2.2.2.1
  go_wp2_with fail
  refine (order_any a a' c c' zs ys _ (by omega) (by omega) (hz.later F1.out.bel) (hy.later F1.out.bel)).mono ?_
  rintro e W1 ⟨rfl, hb0⟩
  rw [← HC.out]
  have F : Hid (AddF w g g' (.slice a zs.length c) (.slice a' ys.length c') (.slice none 0 0) W1) := F1.out.later hb0
  clear hb0 s0 s1 s2 s3 F1
  go_wp2
  go_region_held3 (fun w' => w'.cell? ⟨w.heap.size, 0, none⟩ = some (.bool g) ∧ w'.cell? ⟨w.heap.size, 1, none⟩ = some (.slice a zs.length c) ∧ w'.cell? ⟨w.heap.size + 1, 0, none⟩ = some (.bool g') ∧ w'.cell? ⟨w.heap.size + 1, 1, none⟩ = some (.slice a' ys.length c') ∧ Below (w.heap.size + 1 + 1) W1 w')
    (first | exact addS_of F.out.s (Below.refl _ _).drew | exact addS_of F.out.s (by assumption) | exact addS_of F.out.s (Below.setCell (Below.setCell (by assumption) (by simp) _) (by simp) _))
    (first
      | (go_at_call 118; refine (minus_any a a' c c' zs ys _ hn (hz.later F.out.bel.drew) (hy.later F.out.bel.drew) hdz hdy hl1 HV.out).mono ?_; rintro e w1 ⟨a2, c2, fs, rfl, hf2, hm2, hcan, hval, hlen, hrn1, hb1⟩; have hB1 : Below W1.heap.size W1 w1 := (Below.refl _ _).drew.trans hb1; have hB1' : Below (w.heap.size + 1 + 1) W1 w1 := hB1.mono (by have := F.out.le; omega))
      | (go_at_call 50; refine (signed_any g a2 fs.length c2 _).mono ?_; rintro e w2 ⟨rfl, hb2⟩; have hB2 : Below W1.heap.size W1 w2 := hB1.trans (hb2.mono hB1.size); have hB2' : Below (w.heap.size + 1 + 1) W1 w2 := hB2.mono (by have := F.out.le; omega); have hrn2 : RowNew .u32 w2 W1.heap.size a2 fs := RowNew.later hrn1 hb2; have F2 : Hid (AddF w g g' (.slice a zs.length c) (.slice a' ys.length c') (.slice none 0 0) w2) := F.out.later hB2; have r1 := F2.out.r1; have r2 := F2.out.r2; have r3 := F2.out.r3))
  have HR : Hid (RowNew .u32 w2 W1.heap.size a2 fs) := hrn2
  have HB : Hid (B1 (g && decide (0 < fs.length)) fs (x + y)) := by unfold Hid; rw [← HX.out]; exact B1.of_signed hcan hval
  clear hrn1 hrn2 hB1 hB1' hB2 hB2' hb1 hb2 hcan hval
  generalize (g && decide (0 < fs.length)) = g2 at *
  go_wp2
  refine bodyPost_ret (v := .agg #[.bool g2, .slice a2 fs.length c2]) (by simp [results, Tryd.results109, go_sem, r1, r2]) rfl ?_
  have hle := F.out.le
  refine ⟨g2, a2, c2, fs, rfl, HB.out, by omega, ?_, ?_⟩
  · exact ((HR.out.setLow (by simp; omega) _).setLow (by simp; omega) _).down (by omega)
  · exact (F2.out.bel.setCell (by simp; omega) _).setCell (by simp; omega) _

set_option maxHeartbeats 4000000 in
theorem sum_lt (g g' : Bool) (a a' : Option Addr) (c c' : Nat) (zs ys : List Int) (x y : Int) (w : World) (hn : zs.length ≤ 100000) (hn' : ys.length ≤ 100000) (hz : RowAt .u32 w a zs) (hy : RowAt .u32 w a' ys) (h : B1 g zs x) (h' : B1 g' ys y) (hg : g' = !g) (hcmp : cmpL zs ys < 0) :
    Calls Tryd.prog 109 #[.agg #[.bool g, .slice a zs.length c], .agg #[.bool g', .slice a' ys.length c']] w fun e w' => BigOut w (x + y) (zs.length + ys.length + 1) e w' := by
  have hcc := cmpL_lt (B := 4294967296) (by decide) h.can h'.can hcmp
  have HX : Hid (sg g' (val 4294967296 ys - val 4294967296 zs) = x + y) := by
    unfold Hid
    rw [h.num, h'.num, hg]
    cases g <;> simp [sg] <;> omega
  have hgg : (g == g') = false := by rw [hg]; cases g <;> rfl
  have hdz := h.can.1
  have hdy := h'.can.1
  have hl1 := hcc.1
  have HV : Hid (val 4294967296 zs ≤ val 4294967296 ys) := hcc.2
  obtain ⟨cv, hcv⟩ : ∃ cv, cv = cmpL zs ys := ⟨_, rfl⟩
  have hcmp' : cv < 0 := by omega
  have HC : Hid (cv = cmpL zs ys) := hcv
  clear hg h h' hcc hcv hcmp
  go_enter Tryd.func109, Tryd.ntmps109
  go_wp2
  obtain ⟨V0, hV0⟩ : ∃ V0, V0 = (((w.alloc (.cells #[.bool g, .slice a zs.length c] 27)).alloc (.cells #[.bool g', .slice a' ys.length c'] 27)).alloc (.cells #[.bool false, .slice none 0 0] 27)) := ⟨_, rfl⟩
  rw [← hV0]
  have F0 : Hid (AddF w g g' (.slice a zs.length c) (.slice a' ys.length c') (.slice none 0 0) V0) := by rw [hV0]; exact AddF.start w g g' _ _ _ _ _ _
  clear hV0
  have s0 := F0.out.s.1
  have s1 := F0.out.s.2.1
  have s2 := F0.out.s.2.2.1
  have s3 := F0.out.s.2.2.2.1
  go_quiet (fail)
  have F1 : Hid (AddF w g g' (.slice a zs.length c) (.slice a' ys.length c') (.slice none 0 0) (V0.drewN nq)) := F0.out.later (below_drewN (Below.refl _ _) _)
  clear s0 s1 s2 s3 F0
  generalize V0.drewN nq = W0 at *
  have s0 := F1.out.s.1
  have s1 := F1.out.s.2.1
  have s2 := F1.out.s.2.2.1
  have s3 := F1.out.s.2.2.2.1
  go_wp2_with fail
  refine (order_any a a' c c' zs ys _ (by omega) (by omega) (hz.later F1.out.bel) (hy.later F1.out.bel)).mono ?_
  rintro e W1 ⟨rfl, hb0⟩
  rw [← HC.out]
  have F : Hid (AddF w g g' (.slice a zs.length c) (.slice a' ys.length c') (.slice none 0 0) W1) := F1.out.later hb0
  clear hb0 s0 s1 s2 s3 F1
  go_wp2
  go_region_held3 (fun w' => w'.cell? ⟨w.heap.size, 0, none⟩ = some (.bool g) ∧ w'.cell? ⟨w.heap.size, 1, none⟩ = some (.slice a zs.length c) ∧ w'.cell? ⟨w.heap.size + 1, 0, none⟩ = some (.bool g') ∧ w'.cell? ⟨w.heap.size + 1, 1, none⟩ = some (.slice a' ys.length c') ∧ Below (w.heap.size + 1 + 1) W1 w')
    (first | exact addS_of F.out.s (Below.refl _ _).drew | exact addS_of F.out.s (by assumption) | exact addS_of F.out.s (Below.setCell (Below.setCell (by assumption) (by simp) _) (by simp) _))
    (first
      | (go_at_call 118; refine (minus_any a' a c' c ys zs _ hn' (hy.later F.out.bel.drew) (hz.later F.out.bel.drew) hdy hdz hl1 HV.out).mono ?_; rintro e w1 ⟨a2, c2, fs, rfl, hf2, hm2, hcan, hval, hlen, hrn1, hb1⟩; have hB1 : Below W1.heap.size W1 w1 := (Below.refl _ _).drew.trans hb1; have hB1' : Below (w.heap.size + 1 + 1) W1 w1 := hB1.mono (by have := F.out.le; omega))
      | (go_at_call 50; refine (signed_any g' a2 fs.length c2 _).mono ?_; rintro e w2 ⟨rfl, hb2⟩; have hB2 : Below W1.heap.size W1 w2 := hB1.trans (hb2.mono hB1.size); have hB2' : Below (w.heap.size + 1 + 1) W1 w2 := hB2.mono (by have := F.out.le; omega); have hrn2 : RowNew .u32 w2 W1.heap.size a2 fs := RowNew.later hrn1 hb2; have F2 : Hid (AddF w g g' (.slice a zs.length c) (.slice a' ys.length c') (.slice none 0 0) w2) := F.out.later hB2; have r1 := F2.out.r1; have r2 := F2.out.r2; have r3 := F2.out.r3))
  have HR : Hid (RowNew .u32 w2 W1.heap.size a2 fs) := hrn2
  have HB : Hid (B1 (g' && decide (0 < fs.length)) fs (x + y)) := by unfold Hid; rw [← HX.out]; exact B1.of_signed hcan hval
  clear hrn1 hrn2 hB1 hB1' hB2 hB2' hb1 hb2 hcan hval
  generalize (g' && decide (0 < fs.length)) = g2 at *
  go_wp2
  refine bodyPost_ret (v := .agg #[.bool g2, .slice a2 fs.length c2]) (by simp [results, Tryd.results109, go_sem, r1, r2]) rfl ?_
  have hle := F.out.le
  refine ⟨g2, a2, c2, fs, rfl, HB.out, by omega, ?_, ?_⟩
  · exact ((HR.out.setLow (by simp; omega) _).setLow (by simp; omega) _).down (by omega)
  · exact (F2.out.bel.setCell (by simp; omega) _).setCell (by simp; omega) _

theorem sumOf_any (g g' : Bool) (a a' : Option Addr) (c c' : Nat) (zs ys : List Int) (x y : Int) (w : World) (hn : zs.length ≤ 100000) (hn' : ys.length ≤ 100000) (hz : RowAt .u32 w a zs) (hy : RowAt .u32 w a' ys) (h : B1 g zs x) (h' : B1 g' ys y) :
    Calls Tryd.prog 109 #[.agg #[.bool g, .slice a zs.length c], .agg #[.bool g', .slice a' ys.length c']] w fun e w' => BigOut w (x + y) (zs.length + ys.length + 1) e w' := by
  by_cases hg : g = g'
  · exact sum_same g g' a a' c c' zs ys x y w hn hn' hz hy h h' hg
  · have hg' : g' = !g := by cases g <;> cases g' <;> simp_all
    by_cases hc : 0 ≤ cmpL zs ys
    · exact sum_ge g g' a a' c c' zs ys x y w hn hn' hz hy h h' hg' hc
    · exact sum_lt g g' a a' c c' zs ys x y w hn hn' hz hy h h' hg' (by omega)

end Go.Proofs.YtladfpljnaippabDoor

/-
  The program's dyadic numbers: whole at an exponent, negated.
-/
namespace Go.Proofs.YtladfpljnaippabDoor
open Go.RowKit

/-- A Dyadic's box behind w, and behind it the box of a Big, still zero. -/
structure Bx5 (w : World) (u v e : Value) (W : World) : Prop where
  q0 : W.cell? ⟨w.heap.size, 0, none⟩ = some u
  q1 : W.cell? ⟨w.heap.size, 1, none⟩ = some v
  q2 : W.cell? ⟨w.heap.size, 2, none⟩ = some e
  r1 : W.cell? ⟨w.heap.size + 1, 0, none⟩ = some (.bool false)
  r2 : W.cell? ⟨w.heap.size + 1, 1, none⟩ = some (.slice none 0 0)
  r4 : ∀ j, W.frozen? ⟨w.heap.size + 1, j, none⟩ = false
  le : w.heap.size + 1 + 1 ≤ W.heap.size
  bel : Below w.heap.size w W

theorem Bx5.start (w : World) (u v e : Value) (t t' : TypeId) : Bx5 w u v e ((w.alloc (.cells #[u, v, e] t)).alloc (.cells #[.bool false, .slice none 0 0] t')) := by
  refine ⟨?_, ?_, ?_, ?_, ?_, ?_, ?_, bel2 _ _ _⟩
  all_goals simp [go_sem]

theorem Bx5.later {w : World} {u v e : Value} {W W' : World} (h : Bx5 w u v e W) (hb : Below W.heap.size W W') : Bx5 w u v e W' := by
  have hl := h.le
  exact ⟨(hb.cell (by simp; omega)).trans h.q0, (hb.cell (by simp; omega)).trans h.q1, (hb.cell (by simp; omega)).trans h.q2, (hb.cell (by simp; omega)).trans h.r1, (hb.cell (by simp; omega)).trans h.r2, fun j => (hb.frozen (by simp; omega)).trans (h.r4 j), Nat.le_trans h.le hb.size, h.bel.trans (hb.mono (by omega))⟩

theorem Bx5.held {w : World} {u v e : Value} {W W' : World} (h : Bx5 w u v e W) (hb : Below (w.heap.size + 1) W W') : W'.cell? ⟨w.heap.size, 0, none⟩ = some u ∧ W'.cell? ⟨w.heap.size, 1, none⟩ = some v ∧ W'.cell? ⟨w.heap.size, 2, none⟩ = some e ∧ Below (w.heap.size + 1) W W' :=
  ⟨(hb.cell (by simp)).trans h.q0, (hb.cell (by simp)).trans h.q1, (hb.cell (by simp)).trans h.q2, hb⟩

set_option maxRecDepth 100000 in
set_option maxHeartbeats 4000000 in
theorem whole_any (g : Bool) (a : Option Addr) (c : Nat) (zs : List Int) (x E' n : Int) (w : World) (hn : zs.length ≤ 60000) (n0 : 0 ≤ n) (n1 : n ≤ 120000) (hz : RowAt .u32 w a zs) (h : B1 g zs x) :
    Calls Tryd.prog 108 #[.agg #[.bool g, .slice a zs.length c, .int .i64 (E' + n)], .int .i64 E'] w fun e w' => BigOut w (x * 2 ^ n.toNat) (zs.length + 3751) e w' := by
  have B0 : Hid (∀ t t', Bx5 w (.bool g) (.slice a zs.length c) (.int .i64 (E' + n)) ((w.alloc (.cells #[.bool g, .slice a zs.length c, .int .i64 (E' + n)] t)).alloc (.cells #[.bool false, .slice none 0 0] t'))) := fun t t' => Bx5.start w _ _ _ _ _
  have HX : Hid (sg g (val 4294967296 zs * 2 ^ n.toNat) = x * 2 ^ n.toNat) := by
    unfold Hid
    rw [h.num]
    cases g
    · rfl
    · simp only [sg, if_true]; rw [Int.neg_mul]
  have hsub : E' + n - E' = n := by omega
  have HW : Hid (IntKind.i64.wrap n = n) := wrap64_id (by omega) (by omega)
  go_enter Tryd.func108, Tryd.ntmps108
  go_wp2
  obtain ⟨W0, hW0⟩ : ∃ W0, W0 = ((w.alloc (.cells #[.bool g, .slice a zs.length c, .int .i64 (E' + n)] 29)).alloc (.cells #[.bool false, .slice none 0 0] 27)) := ⟨_, rfl⟩
  have F : Hid (Bx5 w (.bool g) (.slice a zs.length c) (.int .i64 (E' + n)) W0) := by unfold Hid; rw [hW0]; exact B0.out _ _
  rw [← hW0]
  clear hW0 B0
  have zz : w.heap.size + 1 < W0.heap.size := F.out.le
  go_region_held3 (fun w' => w'.cell? ⟨w.heap.size, 0, none⟩ = some (.bool g) ∧ w'.cell? ⟨w.heap.size, 1, none⟩ = some (.slice a zs.length c) ∧ w'.cell? ⟨w.heap.size, 2, none⟩ = some (.int .i64 (E' + n)) ∧ Below (w.heap.size + 1) W0 w')
    (first | exact F.out.held (Below.refl _ _).drew | exact F.out.held (by assumption) | exact F.out.held (Below.setCell (Below.setCell (by assumption) (by simp) _) (by simp) _))
    (first
      | (go_at_call 93; rw [HW.out]; refine (upI_any a c zs n _ (by omega) n0 (by omega) (hz.later F.out.bel.drew) h.can.1).mono ?_; rintro e w1 ⟨a1, c1, fs, rfl, hf1, hm1, hcan1, hv1, hl1, hr1, hb1⟩; have hB1 : Below W0.heap.size W0 w1 := (Below.refl _ _).drew.trans hb1; have hB1' : Below (w.heap.size + 1) W0 w1 := hB1.mono (by omega))
      | (go_at_call 50; refine (signed_any g a1 fs.length c1 _).mono ?_; rintro e w2 ⟨rfl, hb2⟩; have hB2 : Below W0.heap.size W0 w2 := hB1.trans (hb2.mono hB1.size); have hB2' : Below (w.heap.size + 1) W0 w2 := hB2.mono (by omega); have hr2 := hr1.later hb2; have F2 : Hid (Bx5 w (.bool g) (.slice a zs.length c) (.int .i64 (E' + n)) w2) := F.out.later hB2; have r1 := F2.out.r1; have r2 := F2.out.r2; have r4 := F2.out.r4))
  have HB1 : Hid (B1 (g && decide (0 < fs.length)) fs (x * 2 ^ n.toNat)) := by unfold Hid; rw [← HX.out]; exact B1.of_signed hcan1 hv1
  have HR : Hid (RowNew .u32 w2 (w.heap.size + 1 + 1) a1 fs) := by unfold Hid; exact hr2.down (by simp; omega)
  have hl2 : fs.length ≤ zs.length + 3751 ∧ fs.length ≤ c1 ∧ c1 ≤ maxLen := by omega
  clear hB1 hB1' hB2 hB2' hb1 hb2 hr1 hr2 hcan1 hv1
  generalize (g && decide (0 < fs.length)) = G at *
  go_wp2
  refine bodyPost_ret (v := .agg #[.bool G, .slice a1 fs.length c1]) (by simp [results, Tryd.results108, go_sem, r1, r2]) rfl ?_
  refine ⟨G, a1, c1, fs, rfl, HB1.out, hl2, ?_, ?_⟩
  · exact ((HR.out.setLow (by simp) _).setLow (by simp) _).down (by omega)
  · exact (F2.out.bel.setCell (by simp) _).setCell (by simp) _

theorem B1.neg {g : Bool} {zs : List Int} {x : Int} (h : B1 g zs x) : B1 (!g && decide (0 < zs.length)) zs (-x) := by
  have h1 := B1.of_signed (g := !g) h.can rfl
  rw [sg_not, ← h.num] at h1
  exact h1

end Go.Proofs.YtladfpljnaippabDoor

/-
  The program's sums of two dyadic numbers.
-/
namespace Go.Proofs.YtladfpljnaippabDoor
open Go.RowKit

theorem whole_at (g : Bool) (a : Option Addr) (c : Nat) (zs : List Int) (x E e : Int) (w : World) (hn : zs.length ≤ 60000) (n0 : e ≤ E) (n1 : E - e ≤ 120000) (hz : RowAt .u32 w a zs) (h : B1 g zs x) :
    Calls Tryd.prog 108 #[.agg #[.bool g, .slice a zs.length c, .int .i64 E], .int .i64 e] w fun e' w' => BigOut w (x * 2 ^ (E - e).toNat) (zs.length + 3751) e' w' := by
  have := whole_any g a c zs x e (E - e) w hn (by omega) n1 hz h
  rw [show e + (E - e) = E by omega] at this
  exact this

/-- m * 2^e is x * 2^E + y * 2^E'. -/
def SumOf (x E y E' m e : Int) : Prop := (e = E ∨ e = E') ∧ ∀ K, 0 ≤ E + K → 0 ≤ E' + K → atK K m e = atK K x E + atK K y E'

/-- What plus hands back: one of the two, or new memory. -/
def PlusOut (w : World) (a a' : Option Addr) (zs ys : List Int) (x E y E' : Int) (n : Nat) (e : Ending) (w' : World) : Prop :=
  ∃ (G : Bool) (b : Option Addr) (c : Nat) (fs : List Int) (m e' : Int), e = .returned (.agg #[.bool G, .slice b fs.length c, .int .i64 e']) ∧ B1 G fs m ∧ SumOf x E y E' m e' ∧ (fs.length ≤ n ∧ fs.length ≤ c ∧ c ≤ maxLen) ∧ RowAt .u32 w' b fs ∧ (Far w.heap.size b fs ∨ (b = a ∧ fs = zs) ∨ (b = a' ∧ fs = ys)) ∧ Below w.heap.size w w'

theorem SumOf.left {x E y E' : Int} (h : x = 0) : SumOf x E y E' y E' := ⟨.inr rfl, fun K _ _ => by rw [h]; simp [atK]⟩
theorem SumOf.right {x E y E' : Int} (h : y = 0) : SumOf x E y E' x E := ⟨.inl rfl, fun K _ _ => by rw [h]; simp [atK]⟩
theorem SumOf.both (x E y E' : Int) : SumOf x E y E' (sumAt x E y E') (min E E') := by
  refine ⟨by omega, fun K h h' => ?_⟩
  rw [← sumAt_at h h']
  rfl

set_option maxRecDepth 100000 in
set_option maxHeartbeats 4000000 in
theorem plusD_zero (g g' : Bool) (a a' : Option Addr) (c c' : Nat) (zs ys : List Int) (x y E E' : Int) (w : World) (hz : RowAt .u32 w a zs) (hy : RowAt .u32 w a' ys) (h : B1 g zs x) (h' : B1 g' ys y) (h0 : zs.length = 0 ∨ ys.length = 0) (k1 : zs.length ≤ c ∧ c ≤ maxLen) (k2 : ys.length ≤ c' ∧ c' ≤ maxLen) :
    Calls Tryd.prog 82 #[.agg #[.bool g, .slice a zs.length c, .int .i64 E], .agg #[.bool g', .slice a' ys.length c', .int .i64 E']] w fun e w' => PlusOut w a a' zs ys x E y E' (zs.length + ys.length) e w' := by
  by_cases hz0 : zs.length = 0
  · have hx : x = 0 := by rw [h.num, List.length_eq_zero_iff.1 hz0]; simp [sg, val]
    have hzz : ((zs.length : Int) == 0) = true := by rw [beq_iff_eq]; omega
    have HO : Hid (∀ W, Below w.heap.size w W → PlusOut w a a' zs ys x E y E' (zs.length + ys.length) (.returned (.agg #[.bool g', .slice a' ys.length c', .int .i64 E'])) W) :=
      fun W hW => ⟨g', a', c', ys, y, E', rfl, h', SumOf.left hx, by omega, hy.later hW, .inr (.inr ⟨rfl, rfl⟩), hW⟩
    clear hz0 h0 k1 k2
    go_enter Tryd.func82, Tryd.ntmps82
    go_wp2
    refine bodyPost_ret (v := .agg #[.bool g', .slice a' ys.length c', .int .i64 E']) (by simp [results, Tryd.results82, go_sem]) rfl ?_
    exact HO.out _ (bel3 _ _ _ _)
  · have hy0 : ys.length = 0 := by omega
    have hx : y = 0 := by rw [h'.num, List.length_eq_zero_iff.1 hy0]; simp [sg, val]
    have hzz : ((zs.length : Int) == 0) = false := by rw [beq_eq_false_iff_ne]; omega
    have hyy : ((ys.length : Int) == 0) = true := by rw [beq_iff_eq]; omega
    have HO : Hid (∀ W, Below w.heap.size w W → PlusOut w a a' zs ys x E y E' (zs.length + ys.length) (.returned (.agg #[.bool g, .slice a zs.length c, .int .i64 E])) W) :=
      fun W hW => ⟨g, a, c, zs, x, E, rfl, h, SumOf.right hx, by omega, hz.later hW, .inr (.inl ⟨rfl, rfl⟩), hW⟩
    clear hz0 h0 hy0 k1 k2
    go_enter Tryd.func82, Tryd.ntmps82
    go_wp2
    refine bodyPost_ret (v := .agg #[.bool g, .slice a zs.length c, .int .i64 E]) (by simp [results, Tryd.results82, go_sem]) rfl ?_
    exact HO.out _ (bel3 _ _ _ _)

set_option maxRecDepth 100000 in
set_option maxHeartbeats 8000000 in
theorem plusD_ok (g g' : Bool) (a a' : Option Addr) (c c' : Nat) (zs ys : List Int) (x y E E' : Int) (w : World) (hn : zs.length ≤ 60000) (hn' : ys.length ≤ 60000) (he : E - E' ≤ 120000) (he' : E' - E ≤ 120000) (hz : RowAt .u32 w a zs) (hy : RowAt .u32 w a' ys) (h : B1 g zs x) (h' : B1 g' ys y) (hz0 : zs.length ≠ 0) (hy0 : ys.length ≠ 0) :
    Calls Tryd.prog 82 #[.agg #[.bool g, .slice a zs.length c, .int .i64 E], .agg #[.bool g', .slice a' ys.length c', .int .i64 E']] w fun e w' => PlusOut w a a' zs ys x E y E' (zs.length + ys.length + 7503) e w' := by
  have hzz : ((zs.length : Int) == 0) = false := by rw [beq_eq_false_iff_ne]; omega
  have hyy : ((ys.length : Int) == 0) = false := by rw [beq_eq_false_iff_ne]; omega
  have B0 : Hid (∀ t t' t2, Bx7 w (.bool g) (.slice a zs.length c) (.int .i64 E) (.bool g') (.slice a' ys.length c') (.int .i64 E') (((w.alloc (.cells #[.bool g, .slice a zs.length c, .int .i64 E] t)).alloc (.cells #[.bool g', .slice a' ys.length c', .int .i64 E'] t')).alloc (.cells #[.bool false, .slice none 0 0, .int .i64 0] t2))) := fun t t' t2 => Bx7.start w _ _ _ _ _ _ _ _ _
  rcases Int.lt_trichotomy E E' with hlt | hlt | hlt
  · have hlt2 : ¬ E' < E := by omega
    have hlt3 : ¬ E' ≤ E := by omega
    go_enter Tryd.func82, Tryd.ntmps82
    go_wp2
    obtain ⟨W0, hW0⟩ : ∃ W0, W0 = (((w.alloc (.cells #[.bool g, .slice a zs.length c, .int .i64 E] 29)).alloc (.cells #[.bool g', .slice a' ys.length c', .int .i64 E'] 29)).alloc (.cells #[.bool false, .slice none 0 0, .int .i64 0] 29)) := ⟨_, rfl⟩
    have F : Hid (Bx7 w (.bool g) (.slice a zs.length c) (.int .i64 E) (.bool g') (.slice a' ys.length c') (.int .i64 E') W0) := by unfold Hid; rw [hW0]; exact B0.out _ _ _
    rw [← hW0]
    clear hW0 B0
    have zz : w.heap.size + 1 + 1 < W0.heap.size := F.out.le
    go_region_held3 (fun w' => w'.cell? ⟨w.heap.size, 0, none⟩ = some (.bool g) ∧ w'.cell? ⟨w.heap.size, 1, none⟩ = some (.slice a zs.length c) ∧ w'.cell? ⟨w.heap.size, 2, none⟩ = some (.int .i64 E) ∧ w'.cell? ⟨w.heap.size + 1, 0, none⟩ = some (.bool g') ∧ w'.cell? ⟨w.heap.size + 1, 1, none⟩ = some (.slice a' ys.length c') ∧ w'.cell? ⟨w.heap.size + 1, 2, none⟩ = some (.int .i64 E') ∧ Below (w.heap.size + 1 + 1) W0 w')
      (first | exact F.out.held (Below.refl _ _).drew | exact F.out.held (by assumption) | exact F.out.held (Below.setCell (Below.setCell (Below.setCell (by assumption) (by simp) _) (by simp) _) (by simp) _))
      (first
        | (go_at_call_of 108 a; refine (whole_at g a c zs x E E _ (by omega) (by omega) (by omega) (hz.later F.out.bel.drew) h).mono ?_; rintro e w1 ⟨g1, a1, c1, f1, rfl, hB1, hl1, hr1, hb1⟩; have hW1 : Below W0.heap.size W0 w1 := (Below.refl _ _).drew.trans hb1; have hW1' : Below (w.heap.size + 1 + 1) W0 w1 := hW1.mono (by omega))
        | (go_at_call_of 108 a'; refine (whole_at g' a' c' ys y E' E _ (by omega) (by omega) (by omega) (hy.later (F.out.bel.trans (hW1.mono (by omega)))) h').mono ?_; rintro e w2 ⟨g2, a2, c2, f2, rfl, hB2, hl2, hr2, hb2⟩; have hW2 : Below W0.heap.size W0 w2 := hW1.trans (hb2.mono hW1.size); have hW2' : Below (w.heap.size + 1 + 1) W0 w2 := hW2.mono (by omega))
        | (go_at_call 109; refine (sumOf_any g1 g2 a1 a2 c1 c2 f1 f2 _ _ _ (by omega) (by omega) (hr1.row.later hb2) hr2.row hB1 hB2).mono ?_; rintro e w3 ⟨g3, a3, c3, f3, rfl, hB3, hl3, hr3, hb3⟩; have hW3 : Below W0.heap.size W0 w3 := hW2.trans (hb3.mono hW2.size); have hW3' : Below (w.heap.size + 1 + 1) W0 w3 := hW3.mono (by omega); have F3 : Hid (Bx7 w (.bool g) (.slice a zs.length c) (.int .i64 E) (.bool g') (.slice a' ys.length c') (.int .i64 E') w3) := F.out.later hW3; have r1 := F3.out.r1; have r2 := F3.out.r2; have r3 := F3.out.r3; have r4 := F3.out.r4))
    have HB3 : Hid (B1 g3 f3 (sumAt x E y E')) := by
      unfold Hid sumAt
      rw [show min E E' = E by omega]
      exact hB3
    have HR3 : Hid (RowNew .u32 w3 (w.heap.size + 1 + 1 + 1) a3 f3) := hr3.down (by have := hW2.size; have := F.out.le; omega)
    have hl4 : f3.length ≤ zs.length + ys.length + 7503 ∧ f3.length ≤ c3 ∧ c3 ≤ maxLen := by omega
    clear hW1 hW1' hW2 hW2' hW3 hW3' hb1 hb2 hb3 hr1 hr2 hr3 hB1 hB2 hB3
    go_wp2
    refine bodyPost_ret (v := .agg #[.bool g3, .slice a3 f3.length c3, .int .i64 E]) (by simp [results, Tryd.results82, go_sem, r1, r2, r3]) rfl ?_
    have HS := SumOf.both x E y E'
    rw [show min E E' = E by omega] at HS
    have HR4 := ((HR3.out.setLow (p := ⟨w.heap.size + 1 + 1, 0, none⟩) (by simp) (.bool g3)).setLow (p := ⟨w.heap.size + 1 + 1, 1, none⟩) (by simp) (.slice a3 f3.length c3)).setLow (p := ⟨w.heap.size + 1 + 1, 2, none⟩) (by simp) (.int .i64 E)
    refine ⟨g3, a3, c3, f3, _, E, rfl, HB3.out, HS, hl4, HR4.row, .inl (HR4.far (Nat.le_refl _) (by omega)), ?_⟩
    exact ((F3.out.bel.setCell (by simp; omega) _).setCell (by simp; omega) _).setCell (by simp; omega) _
  · subst hlt
    go_enter Tryd.func82, Tryd.ntmps82
    go_wp2
    obtain ⟨W0, hW0⟩ : ∃ W0, W0 = (((w.alloc (.cells #[.bool g, .slice a zs.length c, .int .i64 E] 29)).alloc (.cells #[.bool g', .slice a' ys.length c', .int .i64 E] 29)).alloc (.cells #[.bool false, .slice none 0 0, .int .i64 0] 29)) := ⟨_, rfl⟩
    have F : Hid (Bx7 w (.bool g) (.slice a zs.length c) (.int .i64 E) (.bool g') (.slice a' ys.length c') (.int .i64 E) W0) := by unfold Hid; rw [hW0]; exact B0.out _ _ _
    rw [← hW0]
    clear hW0 B0
    have zz : w.heap.size + 1 + 1 < W0.heap.size := F.out.le
    go_region_held3 (fun w' => w'.cell? ⟨w.heap.size, 0, none⟩ = some (.bool g) ∧ w'.cell? ⟨w.heap.size, 1, none⟩ = some (.slice a zs.length c) ∧ w'.cell? ⟨w.heap.size, 2, none⟩ = some (.int .i64 E) ∧ w'.cell? ⟨w.heap.size + 1, 0, none⟩ = some (.bool g') ∧ w'.cell? ⟨w.heap.size + 1, 1, none⟩ = some (.slice a' ys.length c') ∧ w'.cell? ⟨w.heap.size + 1, 2, none⟩ = some (.int .i64 E) ∧ Below (w.heap.size + 1 + 1) W0 w')
      (first | exact F.out.held (Below.refl _ _).drew | exact F.out.held (by assumption) | exact F.out.held (Below.setCell (Below.setCell (Below.setCell (by assumption) (by simp) _) (by simp) _) (by simp) _))
      (first
        | (go_at_call_of 108 a; refine (whole_at g a c zs x E E _ (by omega) (by omega) (by omega) (hz.later F.out.bel.drew) h).mono ?_; rintro e w1 ⟨g1, a1, c1, f1, rfl, hB1, hl1, hr1, hb1⟩; have hW1 : Below W0.heap.size W0 w1 := (Below.refl _ _).drew.trans hb1; have hW1' : Below (w.heap.size + 1 + 1) W0 w1 := hW1.mono (by omega))
        | (go_at_call_of 108 a'; refine (whole_at g' a' c' ys y E E _ (by omega) (by omega) (by omega) (hy.later (F.out.bel.trans (hW1.mono (by omega)))) h').mono ?_; rintro e w2 ⟨g2, a2, c2, f2, rfl, hB2, hl2, hr2, hb2⟩; have hW2 : Below W0.heap.size W0 w2 := hW1.trans (hb2.mono hW1.size); have hW2' : Below (w.heap.size + 1 + 1) W0 w2 := hW2.mono (by omega))
        | (go_at_call 109; refine (sumOf_any g1 g2 a1 a2 c1 c2 f1 f2 _ _ _ (by omega) (by omega) (hr1.row.later hb2) hr2.row hB1 hB2).mono ?_; rintro e w3 ⟨g3, a3, c3, f3, rfl, hB3, hl3, hr3, hb3⟩; have hW3 : Below W0.heap.size W0 w3 := hW2.trans (hb3.mono hW2.size); have hW3' : Below (w.heap.size + 1 + 1) W0 w3 := hW3.mono (by omega); have F3 : Hid (Bx7 w (.bool g) (.slice a zs.length c) (.int .i64 E) (.bool g') (.slice a' ys.length c') (.int .i64 E) w3) := F.out.later hW3; have r1 := F3.out.r1; have r2 := F3.out.r2; have r3 := F3.out.r3; have r4 := F3.out.r4))
    have HB3 : Hid (B1 g3 f3 (sumAt x E y E)) := by
      unfold Hid sumAt
      rw [show min E E = E by omega]
      exact hB3
    have HR3 : Hid (RowNew .u32 w3 (w.heap.size + 1 + 1 + 1) a3 f3) := hr3.down (by have := hW2.size; have := F.out.le; omega)
    have hl4 : f3.length ≤ zs.length + ys.length + 7503 ∧ f3.length ≤ c3 ∧ c3 ≤ maxLen := by omega
    clear hW1 hW1' hW2 hW2' hW3 hW3' hb1 hb2 hb3 hr1 hr2 hr3 hB1 hB2 hB3
    go_wp2
    refine bodyPost_ret (v := .agg #[.bool g3, .slice a3 f3.length c3, .int .i64 E]) (by simp [results, Tryd.results82, go_sem, r1, r2, r3]) rfl ?_
    have HS := SumOf.both x E y E
    rw [show min E E = E by omega] at HS
    have HR4 := ((HR3.out.setLow (p := ⟨w.heap.size + 1 + 1, 0, none⟩) (by simp) (.bool g3)).setLow (p := ⟨w.heap.size + 1 + 1, 1, none⟩) (by simp) (.slice a3 f3.length c3)).setLow (p := ⟨w.heap.size + 1 + 1, 2, none⟩) (by simp) (.int .i64 E)
    refine ⟨g3, a3, c3, f3, _, E, rfl, HB3.out, HS, hl4, HR4.row, .inl (HR4.far (Nat.le_refl _) (by omega)), ?_⟩
    exact ((F3.out.bel.setCell (by simp; omega) _).setCell (by simp; omega) _).setCell (by simp; omega) _
  · have hlt2 : ¬ E < E' := by omega
    have hlt3 : ¬ E ≤ E' := by omega
    go_enter Tryd.func82, Tryd.ntmps82
    go_wp2
    obtain ⟨W0, hW0⟩ : ∃ W0, W0 = (((w.alloc (.cells #[.bool g, .slice a zs.length c, .int .i64 E] 29)).alloc (.cells #[.bool g', .slice a' ys.length c', .int .i64 E'] 29)).alloc (.cells #[.bool false, .slice none 0 0, .int .i64 0] 29)) := ⟨_, rfl⟩
    have F : Hid (Bx7 w (.bool g) (.slice a zs.length c) (.int .i64 E) (.bool g') (.slice a' ys.length c') (.int .i64 E') W0) := by unfold Hid; rw [hW0]; exact B0.out _ _ _
    rw [← hW0]
    clear hW0 B0
    have zz : w.heap.size + 1 + 1 < W0.heap.size := F.out.le
    go_region_held3 (fun w' => w'.cell? ⟨w.heap.size, 0, none⟩ = some (.bool g) ∧ w'.cell? ⟨w.heap.size, 1, none⟩ = some (.slice a zs.length c) ∧ w'.cell? ⟨w.heap.size, 2, none⟩ = some (.int .i64 E) ∧ w'.cell? ⟨w.heap.size + 1, 0, none⟩ = some (.bool g') ∧ w'.cell? ⟨w.heap.size + 1, 1, none⟩ = some (.slice a' ys.length c') ∧ w'.cell? ⟨w.heap.size + 1, 2, none⟩ = some (.int .i64 E') ∧ Below (w.heap.size + 1 + 1) W0 w')
      (first | exact F.out.held (Below.refl _ _).drew | exact F.out.held (by assumption) | exact F.out.held (Below.setCell (Below.setCell (Below.setCell (by assumption) (by simp) _) (by simp) _) (by simp) _))
      (first
        | (go_at_call_of 108 a; refine (whole_at g a c zs x E E' _ (by omega) (by omega) (by omega) (hz.later F.out.bel.drew) h).mono ?_; rintro e w1 ⟨g1, a1, c1, f1, rfl, hB1, hl1, hr1, hb1⟩; have hW1 : Below W0.heap.size W0 w1 := (Below.refl _ _).drew.trans hb1; have hW1' : Below (w.heap.size + 1 + 1) W0 w1 := hW1.mono (by omega))
        | (go_at_call_of 108 a'; refine (whole_at g' a' c' ys y E' E' _ (by omega) (by omega) (by omega) (hy.later (F.out.bel.trans (hW1.mono (by omega)))) h').mono ?_; rintro e w2 ⟨g2, a2, c2, f2, rfl, hB2, hl2, hr2, hb2⟩; have hW2 : Below W0.heap.size W0 w2 := hW1.trans (hb2.mono hW1.size); have hW2' : Below (w.heap.size + 1 + 1) W0 w2 := hW2.mono (by omega))
        | (go_at_call 109; refine (sumOf_any g1 g2 a1 a2 c1 c2 f1 f2 _ _ _ (by omega) (by omega) (hr1.row.later hb2) hr2.row hB1 hB2).mono ?_; rintro e w3 ⟨g3, a3, c3, f3, rfl, hB3, hl3, hr3, hb3⟩; have hW3 : Below W0.heap.size W0 w3 := hW2.trans (hb3.mono hW2.size); have hW3' : Below (w.heap.size + 1 + 1) W0 w3 := hW3.mono (by omega); have F3 : Hid (Bx7 w (.bool g) (.slice a zs.length c) (.int .i64 E) (.bool g') (.slice a' ys.length c') (.int .i64 E') w3) := F.out.later hW3; have r1 := F3.out.r1; have r2 := F3.out.r2; have r3 := F3.out.r3; have r4 := F3.out.r4))
    have HB3 : Hid (B1 g3 f3 (sumAt x E y E')) := by
      unfold Hid sumAt
      rw [show min E E' = E' by omega]
      exact hB3
    have HR3 : Hid (RowNew .u32 w3 (w.heap.size + 1 + 1 + 1) a3 f3) := hr3.down (by have := hW2.size; have := F.out.le; omega)
    have hl4 : f3.length ≤ zs.length + ys.length + 7503 ∧ f3.length ≤ c3 ∧ c3 ≤ maxLen := by omega
    clear hW1 hW1' hW2 hW2' hW3 hW3' hb1 hb2 hb3 hr1 hr2 hr3 hB1 hB2 hB3
    go_wp2
    refine bodyPost_ret (v := .agg #[.bool g3, .slice a3 f3.length c3, .int .i64 E']) (by simp [results, Tryd.results82, go_sem, r1, r2, r3]) rfl ?_
    have HS := SumOf.both x E y E'
    rw [show min E E' = E' by omega] at HS
    have HR4 := ((HR3.out.setLow (p := ⟨w.heap.size + 1 + 1, 0, none⟩) (by simp) (.bool g3)).setLow (p := ⟨w.heap.size + 1 + 1, 1, none⟩) (by simp) (.slice a3 f3.length c3)).setLow (p := ⟨w.heap.size + 1 + 1, 2, none⟩) (by simp) (.int .i64 E')
    refine ⟨g3, a3, c3, f3, _, E', rfl, HB3.out, HS, hl4, HR4.row, .inl (HR4.far (Nat.le_refl _) (by omega)), ?_⟩
    exact ((F3.out.bel.setCell (by simp; omega) _).setCell (by simp; omega) _).setCell (by simp; omega) _

theorem plusD_any (g g' : Bool) (a a' : Option Addr) (c c' : Nat) (zs ys : List Int) (x y E E' : Int) (w : World) (hn : zs.length ≤ 60000) (hn' : ys.length ≤ 60000) (he : E - E' ≤ 120000) (he' : E' - E ≤ 120000) (hz : RowAt .u32 w a zs) (hy : RowAt .u32 w a' ys) (h : B1 g zs x) (h' : B1 g' ys y) (k1 : zs.length ≤ c ∧ c ≤ maxLen) (k2 : ys.length ≤ c' ∧ c' ≤ maxLen) :
    Calls Tryd.prog 82 #[.agg #[.bool g, .slice a zs.length c, .int .i64 E], .agg #[.bool g', .slice a' ys.length c', .int .i64 E']] w fun e w' => PlusOut w a a' zs ys x E y E' (zs.length + ys.length + 7503) e w' := by
  by_cases h0 : zs.length = 0 ∨ ys.length = 0
  · refine (plusD_zero g g' a a' c c' zs ys x y E E' w hz hy h h' h0 k1 k2).mono ?_
    rintro e w' ⟨G, b, c, fs, m, e', h1, h2, h3, h4, h5⟩
    exact ⟨G, b, c, fs, m, e', h1, h2, h3, by omega, h5⟩
  · exact plusD_ok g g' a a' c c' zs ys x y E E' w hn hn' he he' hz hy h h' (by omega) (by omega)

end Go.Proofs.YtladfpljnaippabDoor

/-
  Lists of dyadic numbers in the program: are all valid?
-/
namespace Go.Proofs.YtladfpljnaippabDoor
open Go.RowKit

/-- A Dyadic's parts. -/
structure DV where
  g : Bool
  a : Option Addr
  c : Nat
  zs : List Int
  E : Int

instance : Inhabited DV := ⟨⟨false, none, 0, [], 0⟩⟩

/-- Block b from off on holds the Dyadics ds. -/
structure RowD (w : World) (b off : Nat) (ds : List DV) : Prop where
  lt : b < w.heap.size
  c0 : ∀ i, i < ds.length → w.cell? ⟨b, off + i * 3, none⟩ = some (.bool (ds.getD i default).g)
  c1 : ∀ i, i < ds.length → w.cell? ⟨b, off + i * 3 + 1, none⟩ = some (.slice (ds.getD i default).a (ds.getD i default).zs.length (ds.getD i default).c)
  c2 : ∀ i, i < ds.length → w.cell? ⟨b, off + i * 3 + 2, none⟩ = some (.int .i64 (ds.getD i default).E)
  row : ∀ i, i < ds.length → RowAt .u32 w (ds.getD i default).a (ds.getD i default).zs

theorem RowD.later {w w' : World} {b off : Nat} {ds : List DV} (h : RowD w b off ds) (hb : Below w.heap.size w w') : RowD w' b off ds :=
  ⟨Nat.lt_of_lt_of_le h.lt hb.size, fun i hi => (hb.cell (p := ⟨b, off + i * 3, none⟩) h.lt).trans (h.c0 i hi), fun i hi => (hb.cell (p := ⟨b, off + i * 3 + 1, none⟩) h.lt).trans (h.c1 i hi), fun i hi => (hb.cell (p := ⟨b, off + i * 3 + 2, none⟩) h.lt).trans (h.c2 i hi), fun i hi => (h.row i hi).later hb⟩

def DV.ok (d : DV) : Bool := validD d.g d.zs d.E

set_option maxRecDepth 100000 in
set_option maxHeartbeats 4000000 in
theorem validsI_any (b off c : Nat) (ds : List DV) (w : World) (hn : ds.length ≤ 1000) (hl : ∀ d, d ∈ ds → d.zs.length ≤ 1048576) (hd : RowD w b off ds) :
    Calls Tryd.prog 38 #[.slice (some ⟨b, off, none⟩) ds.length c] w fun e w' => e = .returned (.bool (ds.all DV.ok)) ∧ Below w.heap.size w w' := by
  go_enter Tryd.func38, Tryd.ntmps38
  go_wp2
  go_loopw [4, 7] (fun _ si wr => ∃ i : Nat, i ≤ ds.length ∧ si = .int .i64 i ∧ Hid ((ds.take i).all DV.ok = true) ∧ Below w.heap.size w wr) (fun _ si _ => ds.length - (intOf si).toNat)
  case atStart => exact ⟨0, Nat.zero_le _, rfl, rfl, Below.refl _ _⟩
  case round =>
    obtain ⟨i, hi, rfl, hall, hnx⟩ := hrel
    have hd2 := hd.later hnx
    by_cases hlt : i < ds.length
    · have g0 := hd2.c0 i hlt
      have g1 := hd2.c1 i hlt
      have g2 := hd2.c2 i hlt
      have g3 := hd2.row i hlt
      obtain ⟨d, hdd⟩ : ∃ d, d = ds.getD i default := ⟨_, rfl⟩
      rw [← hdd] at g0 g1 g2 g3
      have hib : (i : Int) < ds.length := by omega
      have hmem : d ∈ ds := by rw [hdd, List.getD_eq_getElem?_getD, List.getElem?_eq_getElem hlt]; exact List.getElem_mem hlt
      have hdl := hl d hmem
      have HTK : Hid ((ds.take (i + 1)).all DV.ok = d.ok) := by
        unfold Hid
        rw [List.take_succ_eq_append_getElem hlt, List.all_append, hall.out, hdd]
        simp [List.getD_eq_getElem?_getD, hlt]
      have HBAD : Hid (d.ok = false → ds.all DV.ok = false) := by
        intro hf
        cases hall2 : ds.all DV.ok
        · rfl
        · have := List.all_eq_true.1 hall2 d hmem
          rw [hf] at this
          cases this
      have G3 : Hid (RowAt .u32 wr d.a d.zs) := g3
      have HN : Hid (Below w.heap.size w wr) := hnx
      clear hdd hmem g3 hd2 hall hnx
      cases hv : validB d.g d.zs
      · have hbad := HBAD.out (by unfold DV.ok validD; rw [hv]; rfl)
        have HF : Hid (ds.all DV.ok = false) := hbad
        clear hbad
        go_wp2_with fail
        refine (validI_any d.g d.a d.c d.zs _ (by unfold maxLen; omega) (G3.out.later (bel0 _ _))).mono ?_
        rintro e w2 ⟨rfl, hb2⟩
        rw [hv]
        have HB2 : Hid (Below w.heap.size w w2) := (HN.out.alloc HN.out.size _).trans (hb2.mono (by have := HN.out.size; simp; omega))
        have q2 : w2.cell? ⟨wr.heap.size, 2, none⟩ = some (.int .i64 d.E) := by rw [(bcell hb2).1 _ _ (by simp)]; simp [go_sem]
        clear hb2
        go_wp2
        go_ret
        rw [HF.out]
        exact ⟨rfl, HB2.out⟩
      · by_cases h1 : d.E < -20000
        · have hbad := HBAD.out (by unfold DV.ok validD; rw [hv]; simp; omega)
          have HF : Hid (ds.all DV.ok = false) := hbad
          clear hbad
          go_wp2_with fail
          refine (validI_any d.g d.a d.c d.zs _ (by unfold maxLen; omega) (G3.out.later (bel0 _ _))).mono ?_
          rintro e w2 ⟨rfl, hb2⟩
          rw [hv]
          have HB2 : Hid (Below w.heap.size w w2) := (HN.out.alloc HN.out.size _).trans (hb2.mono (by have := HN.out.size; simp; omega))
          have q2 : w2.cell? ⟨wr.heap.size, 2, none⟩ = some (.int .i64 d.E) := by rw [(bcell hb2).1 _ _ (by simp)]; simp [go_sem]
          clear hb2
          go_wp2
          go_ret
          rw [HF.out]
          exact ⟨rfl, HB2.out⟩
        · by_cases h2 : 20000 < d.E
          · have hbad := HBAD.out (by unfold DV.ok validD; rw [hv]; simp; omega)
            have HF : Hid (ds.all DV.ok = false) := hbad
            clear hbad
            go_wp2_with fail
            refine (validI_any d.g d.a d.c d.zs _ (by unfold maxLen; omega) (G3.out.later (bel0 _ _))).mono ?_
            rintro e w2 ⟨rfl, hb2⟩
            rw [hv]
            have HB2 : Hid (Below w.heap.size w w2) := (HN.out.alloc HN.out.size _).trans (hb2.mono (by have := HN.out.size; simp; omega))
            have q2 : w2.cell? ⟨wr.heap.size, 2, none⟩ = some (.int .i64 d.E) := by rw [(bcell hb2).1 _ _ (by simp)]; simp [go_sem]
            clear hb2
            go_wp2
            go_ret
            rw [HF.out]
            exact ⟨rfl, HB2.out⟩
          · have HG : Hid ((ds.take (i + 1)).all DV.ok = true) := by
              unfold Hid
              rw [HTK.out]
              unfold DV.ok validD
              rw [hv]
              simp
              omega
            go_wp2_with fail
            refine (validI_any d.g d.a d.c d.zs _ (by unfold maxLen; omega) (G3.out.later (bel0 _ _))).mono ?_
            rintro e w2 ⟨rfl, hb2⟩
            rw [hv]
            have HB2 : Hid (Below w.heap.size w w2) := (HN.out.alloc HN.out.size _).trans (hb2.mono (by have := HN.out.size; simp; omega))
            have q2 : w2.cell? ⟨wr.heap.size, 2, none⟩ = some (.int .i64 d.E) := by rw [(bcell hb2).1 _ _ (by simp)]; simp [go_sem]
            clear hb2
            go_wp2
            go_roundw
            case rel => exact ⟨i + 1, by omega, by go_num, HG, HB2.out⟩
            case measure => simp [intOf]; omega
    · have hin : i = ds.length := by omega
      subst hin
      have HA : Hid (ds.all DV.ok = true) := by unfold Hid; have := hall.out; rw [List.take_length] at this; exact this
      have HN : Hid (Below w.heap.size w wr) := hnx
      clear hall hnx hd2 hd
      go_wp2
      go_ret
      rw [HA.out]
      exact ⟨rfl, HN.out⟩

end Go.Proofs.YtladfpljnaippabDoor

/-
  The program's products of dyadic numbers.
-/
namespace Go.Proofs.YtladfpljnaippabDoor
open Go.RowKit

/-- The product of the first numbers, and the sum of their exponents. -/
def prodM (ds : List DV) : Int := (ds.map fun d => sg d.g (val 4294967296 d.zs)).foldl (· * ·) 1
def sumE (ds : List DV) : Int := (ds.map fun d => d.E).foldl (· + ·) 0

theorem prodM_snoc (ds : List DV) (d : DV) : prodM (ds ++ [d]) = prodM ds * sg d.g (val 4294967296 d.zs) := by simp [prodM]
theorem sumE_snoc (ds : List DV) (d : DV) : sumE (ds ++ [d]) = sumE ds + d.E := by simp [sumE]

/-- While a product grows: the answer's box (R, still zero), the product's own (A). -/
structure PD (w : World) (R A : Nat) (G : Bool) (a : Option Addr) (c : Nat) (fs : List Int) (m e : Int) (W : World) : Prop where
  r1 : W.cell? ⟨R, 0, none⟩ = some (.bool false)
  r2 : W.cell? ⟨R, 1, none⟩ = some (.slice none 0 0)
  r3 : W.cell? ⟨R, 2, none⟩ = some (.int .i64 0)
  r4 : ∀ j, W.frozen? ⟨R, j, none⟩ = false
  a1 : W.cell? ⟨A, 0, none⟩ = some (.bool G)
  a2 : W.cell? ⟨A, 1, none⟩ = some (.slice a fs.length c)
  a3 : W.cell? ⟨A, 2, none⟩ = some (.int .i64 e)
  a4 : ∀ j, W.frozen? ⟨A, j, none⟩ = false
  b1 : B1 G fs m
  row : RowAt .u32 W a fs
  off : ∀ b o, a = some ⟨b, o, none⟩ → fs ≠ [] → b ≠ A ∧ b ≠ R
  far : Far (w.heap.size + 1) a fs
  ord : w.heap.size ≤ R ∧ R < A ∧ A < W.heap.size
  bel : Below w.heap.size w W
  cap : fs.length ≤ c ∧ c ≤ maxLen

section
variable {w : World} {R A : Nat} {G : Bool} {a : Option Addr} {c : Nat} {fs : List Int} {m e : Int} {W W' : World}

theorem PD.later (h : PD w R A G a c fs m e W) (hb : Below W.heap.size W W') : PD w R A G a c fs m e W' := by
  obtain ⟨o1, o2, o3⟩ := h.ord
  have hs := hb.size
  exact ⟨(hb.cell (by simp; omega)).trans h.r1, (hb.cell (by simp; omega)).trans h.r2, (hb.cell (by simp; omega)).trans h.r3, fun j => (hb.frozen (by simp; omega)).trans (h.r4 j), (hb.cell (by simp; omega)).trans h.a1, (hb.cell (by simp; omega)).trans h.a2, (hb.cell (by simp; omega)).trans h.a3, fun j => (hb.frozen (by simp; omega)).trans (h.a4 j), h.b1, h.row.later hb, h.off, h.far, ⟨o1, o2, by omega⟩, h.bel.trans (hb.mono (by omega)), h.cap⟩

/-- Another number, its row in no box, is laid into the box. -/
theorem PD.lay {G' : Bool} {a' : Option Addr} {c' : Nat} {fs' : List Int} {m' e' : Int} (h : PD w R A G a c fs m e W) (hb : B1 G' fs' m') (hr : RowAt .u32 W a' fs') (ho : ∀ b o, a' = some ⟨b, o, none⟩ → fs' ≠ [] → b ≠ A ∧ b ≠ R) (hf : Far (w.heap.size + 1) a' fs') (hcap : fs'.length ≤ c' ∧ c' ≤ maxLen) : PD w R A G' a' c' fs' m' e' (((W.setCell ⟨A, 0, none⟩ (.bool G')).setCell ⟨A, 1, none⟩ (.slice a' fs'.length c')).setCell ⟨A, 2, none⟩ (.int .i64 e')) := by
  obtain ⟨o1, o2, o3⟩ := h.ord
  have hbel : Below A W (((W.setCell ⟨A, 0, none⟩ (.bool G')).setCell ⟨A, 1, none⟩ (.slice a' fs'.length c')).setCell ⟨A, 2, none⟩ (.int .i64 e')) := (((Below.refl _ _).setCell (by simp) _).setCell (by simp) _).setCell (by simp) _
  refine ⟨(hbel.cell (by simp; omega)).trans h.r1, (hbel.cell (by simp; omega)).trans h.r2, (hbel.cell (by simp; omega)).trans h.r3, fun j => (hbel.frozen (by simp; omega)).trans (h.r4 j), ?_, ?_, ?_, ?_, hb, ?_, ho, hf, ⟨o1, o2, by simpa using o3⟩, h.bel.trans (hbel.mono (by omega)), hcap⟩
  · rw [World.cell?_setCell_other _ _ _ _ (by simp), World.cell?_setCell_other _ _ _ _ (by simp)]
    exact World.cell?_setCell_same _ _ _ h.a1
  · rw [World.cell?_setCell_other _ _ _ _ (by simp)]
    refine World.cell?_setCell_same _ _ _ (u := .slice a fs.length c) ?_
    rw [World.cell?_setCell_other _ _ _ _ (by simp)]
    exact h.a2
  · refine World.cell?_setCell_same _ _ _ (u := .int .i64 e) ?_
    rw [World.cell?_setCell_other _ _ _ _ (by simp), World.cell?_setCell_other _ _ _ _ (by simp)]
    exact h.a3
  · intro j; rw [World.frozen?_setCell, World.frozen?_setCell, World.frozen?_setCell]; exact h.a4 j
  · exact ((hr.setAway (fun b o e1 hne => (ho b o e1 hne).1) _).setAway (fun b o e1 hne => (ho b o e1 hne).1) _).setAway (fun b o e1 hne => (ho b o e1 hne).1) _

theorem Far.offs {B : Nat} {a' : Option Addr} {fs' : List Int} (hf : Far B a' fs') (hR : R < B) (hA : A < B) : ∀ b o, a' = some ⟨b, o, none⟩ → fs' ≠ [] → b ≠ A ∧ b ≠ R := by
  intro b o e1 hne
  exact ⟨hf.away (p := ⟨A, 0, none⟩) (by simpa using hA) b o e1 hne, hf.away (p := ⟨R, 0, none⟩) (by simpa using hR) b o e1 hne⟩

/-- The next product, in memory behind, is laid into the box. -/
theorem PD.put {G' : Bool} {a' : Option Addr} {c' : Nat} {fs' : List Int} {m' e' : Int} {B : Nat} (h : PD w R A G a c fs m e W) (hb : B1 G' fs' m') (hr : RowAt .u32 W a' fs') (hf : Far B a' fs') (hB : A < B) (hcap : fs'.length ≤ c' ∧ c' ≤ maxLen) : PD w R A G' a' c' fs' m' e' (((W.setCell ⟨A, 0, none⟩ (.bool G')).setCell ⟨A, 1, none⟩ (.slice a' fs'.length c')).setCell ⟨A, 2, none⟩ (.int .i64 e')) := by
  obtain ⟨o1, o2, o3⟩ := h.ord
  exact h.lay hb hr (hf.offs (by omega) hB) (hf.down (by omega)) hcap

end

/-- What product hands back. -/
def ProdOut (w : World) (m e' : Int) (n : Nat) (e : Ending) (w' : World) : Prop :=
  ∃ (G : Bool) (a : Option Addr) (c : Nat) (fs : List Int), e = .returned (.agg #[.bool G, .slice a fs.length c, .int .i64 e']) ∧ B1 G fs m ∧ (fs.length ≤ n ∧ fs.length ≤ c ∧ c ≤ maxLen) ∧ RowAt .u32 w' a fs ∧ Far w.heap.size a fs ∧ Below w.heap.size w w'

/-- What a call of product answers. -/
def ProdSays : Prop := ∀ (b off c : Nat) (ds : List DV) (w : World), ds.length ≤ 3 → (∀ d, d ∈ ds → d.zs.length ≤ 512 ∧ -20000 ≤ d.E ∧ d.E ≤ 20000 ∧ B1 d.g d.zs (sg d.g (val 4294967296 d.zs))) → RowD w b off ds →
    Calls Tryd.prog 83 #[.slice (some ⟨b, off, none⟩) ds.length c] w fun e w' => ProdOut w (prodM ds) (sumE ds) (513 * ds.length + 1) e w'

end Go.Proofs.YtladfpljnaippabDoor
