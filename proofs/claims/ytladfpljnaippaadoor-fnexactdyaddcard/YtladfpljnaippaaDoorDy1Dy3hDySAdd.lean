/-
  The model's dyadic numbers: valid ones, normal forms.
-/
import Derived.Test.YtladfpljnaippaaDoorDy1h
import Derived.Test.YtladfpljnaippaaDoorRes
import Derived.Test.YtladfpljnaippaaDoorNumNDyO
import Derived.Test.YtladfpljnaippaaDoorDy2
namespace Go.Proofs.YtladfpljnaippaaDoor
open Go.RowKit

/-- Is the Dyadic valid? -/
def validD (g : Bool) (zs : List Int) (E : Int) : Bool := validB g zs && (decide (-20000 ≤ E) && decide (E ≤ 20000))

set_option maxHeartbeats 1000000 in
theorem valid2S_any (g : Bool) (a : Option Addr) (c : Nat) (zs : List Int) (E : Int) (w : World) (hn : zs.length ≤ 1048576) (hz : RowAt .u32 w a zs) :
    Calls Tryd.prog 34 #[.agg #[.bool g, .slice a zs.length c, .int .i64 E]] w fun e w' => e = .returned (.bool (validD g zs E)) ∧ Below w.heap.size w w' := by
  unfold validD
  cases hv : validB g zs
  · go_enter Tryd.func34, Tryd.ntmps34
    go_wp2_with fail
    refine (validS_any g a c zs _ (by unfold maxLen; omega) (hz.later (bel0 _ _))).mono ?_
    rintro e w1 ⟨rfl, hb1⟩
    rw [hv]
    have HB : Hid (Below w.heap.size w w1) := (bel0 _ _).trans (hb1.mono (by simp))
    clear hb1
    go_wp2
    go_ret
    exact ⟨rfl, HB.out⟩
  · by_cases h1 : -20000 ≤ E
    · by_cases h2 : E ≤ 20000
      · have HR : Hid ((true && (decide (-20000 ≤ E) && decide (E ≤ 20000))) = true) := by unfold Hid; simp [h1, h2]
        rw [HR.out]
        go_enter Tryd.func34, Tryd.ntmps34
        go_wp2_with fail
        refine (validS_any g a c zs _ (by unfold maxLen; omega) (hz.later (bel0 _ _))).mono ?_
        rintro e w1 ⟨rfl, hb1⟩
        rw [hv]
        have HB : Hid (Below w.heap.size w w1) := (bel0 _ _).trans (hb1.mono (by simp))
        have q2 : w1.cell? ⟨w.heap.size, 2, none⟩ = some (.int .i64 E) := by rw [(bcell hb1).1 _ _ (by simp)]; simp [go_sem]
        clear hb1
        go_wp2
        go_ret
        exact ⟨ret_bool (by simp), HB.out⟩
      · have HR : Hid ((true && (decide (-20000 ≤ E) && decide (E ≤ 20000))) = false) := by unfold Hid; simp; omega
        rw [HR.out]
        go_enter Tryd.func34, Tryd.ntmps34
        go_wp2_with fail
        refine (validS_any g a c zs _ (by unfold maxLen; omega) (hz.later (bel0 _ _))).mono ?_
        rintro e w1 ⟨rfl, hb1⟩
        rw [hv]
        have HB : Hid (Below w.heap.size w w1) := (bel0 _ _).trans (hb1.mono (by simp))
        have q2 : w1.cell? ⟨w.heap.size, 2, none⟩ = some (.int .i64 E) := by rw [(bcell hb1).1 _ _ (by simp)]; simp [go_sem]
        clear hb1
        go_wp2
        go_ret
        exact ⟨ret_bool (by simp; omega), HB.out⟩
    · have HR : Hid ((true && (decide (-20000 ≤ E) && decide (E ≤ 20000))) = false) := by unfold Hid; simp; omega
      rw [HR.out]
      go_enter Tryd.func34, Tryd.ntmps34
      go_wp2_with fail
      refine (validS_any g a c zs _ (by unfold maxLen; omega) (hz.later (bel0 _ _))).mono ?_
      rintro e w1 ⟨rfl, hb1⟩
      rw [hv]
      have HB : Hid (Below w.heap.size w w1) := (bel0 _ _).trans (hb1.mono (by simp))
      have q2 : w1.cell? ⟨w.heap.size, 2, none⟩ = some (.int .i64 E) := by rw [(bcell hb1).1 _ _ (by simp)]; simp [go_sem]
      clear hb1
      go_wp2
      go_ret
      exact ⟨rfl, HB.out⟩

set_option maxHeartbeats 4000000 in
theorem of2_any (g : Bool) (a : Option Addr) (c : Nat) (zs : List Int) (E : Int) (w : World) (hn : zs.length ≤ 20000) (he0 : -1000000 ≤ E) (he1 : E ≤ 1000000) (hz : RowAt .u32 w a zs) (hu : U32 zs) :
    Calls Tryd.prog 36 #[.agg #[.bool g, .slice a zs.length c, .int .i64 E]] w fun e w' => NormOut w (2 * zs.length) (sg g (val 4294967296 zs)) E (32 * zs.length) e w' := by
  have B0 : Hid (∀ t t', Bx3 w (.bool g) (.slice a zs.length c) (.int .i64 E) ((w.alloc (.cells #[.bool g, .slice a zs.length c, .int .i64 E] t)).alloc (.cells #[.bool false, .slice none 0 0, .int .i64 0] t'))) := fun t t' => Bx3.start w _ _ _ _ _
  go_enter Tryd.func36, Tryd.ntmps36
  go_wp2
  obtain ⟨W0, hW0⟩ : ∃ W0, W0 = ((w.alloc (.cells #[.bool g, .slice a zs.length c, .int .i64 E] 27)).alloc (.cells #[.bool false, .slice none 0 0, .int .i64 0] 45)) := ⟨_, rfl⟩
  have F : Hid (Bx3 w (.bool g) (.slice a zs.length c) (.int .i64 E) W0) := by unfold Hid; rw [hW0]; exact B0.out _ _
  rw [← hW0]
  clear hW0 B0
  have zz : w.heap.size + 1 < W0.heap.size := F.out.le
  go_region_held3 (fun w' => w'.cell? ⟨w.heap.size, 0, none⟩ = some (.bool g) ∧ w'.cell? ⟨w.heap.size, 1, none⟩ = some (.slice a zs.length c) ∧ w'.cell? ⟨w.heap.size, 2, none⟩ = some (.int .i64 E) ∧ Below (w.heap.size + 1) W0 w')
    (first | exact F.out.held (Below.refl _ _).drew | exact F.out.held (by assumption) | exact F.out.held (Below.setCell (Below.setCell (Below.setCell (by assumption) (by simp) _) (by simp) _) (by simp) _))
    (first
      | (go_at_call 59; refine (of_any g a c zs _ (by omega) (hz.later F.out.bel.drew) hu).mono ?_; rintro e w1 ⟨g1, a1, c1, ds, rfl, hl1, hL1, hb1⟩; have hB1 : Below W0.heap.size W0 w1 := (Below.refl _ _).drew.trans hb1; have hB1' : Below (w.heap.size + 1) W0 w1 := hB1.mono (by omega))
      | (go_at_call 41; refine (norm_any g1 a1 c1 ds _ E _ (by omega) he0 he1 hL1).mono ?_; rintro e w2 ⟨m, e', hnf, g2, a2, c2, fs, rfl, hl2, hL2, hF2, hb2⟩; have hB2 : Below W0.heap.size W0 w2 := hB1.trans (hb2.mono hB1.size); have hB2' : Below (w.heap.size + 1) W0 w2 := hB2.mono (by omega); have F2 : Hid (Bx3 w (.bool g) (.slice a zs.length c) (.int .i64 E) w2) := F.out.later hB2; have r1 := F2.out.r1; have r2 := F2.out.r2; have r3 := F2.out.r3; have r4 := F2.out.r4))
  have HL2 : Hid (L1 w2 g2 a2 c2 fs m) := hL2
  have HF2 : Hid (Far (w.heap.size + 1 + 1) a2 fs) := hF2.down (by have := hB1.size; omega)
  have HN : Hid (NormOf (sg g (val 4294967296 zs)) E m e' (32 * zs.length)) := by
    rcases hnf with h | ⟨h1, t, h2, h3, h4, h5⟩
    · exact .inl h
    · exact .inr ⟨h1, t, h2, h3, h4, by omega⟩
  clear hL2 hF2 hB1 hB1' hB2 hB2' hb1 hb2 hL1 hnf
  go_wp2
  refine bodyPost_ret (v := .agg #[.bool g2, .slice a2 fs.length c2, .int .i64 e']) (by simp [results, Tryd.results36, go_sem, r1, r2, r3]) rfl ?_
  refine ⟨m, e', HN.out, g2, a2, c2, fs, rfl, by omega, ?_, HF2.out.down (by omega), ?_⟩
  · exact ((HL2.out.setFar HF2.out (by simp) _).setFar HF2.out (by simp) _).setFar HF2.out (by simp) _
  · exact ((F2.out.bel.setCell (by simp) _).setCell (by simp) _).setCell (by simp) _

end Go.Proofs.YtladfpljnaippaaDoor

/-
  The parts of a valid Dyadic.
-/
namespace Go.Proofs.YtladfpljnaippaaDoor
open Go.RowKit

theorem validD_parts {g : Bool} {zs : List Int} {E : Int} (h : validD g zs E = true) : validB g zs = true ∧ -20000 ≤ E ∧ E ≤ 20000 := by
  unfold validD at h
  simp only [Bool.and_eq_true, decide_eq_true_eq] at h
  exact ⟨h.1, h.2.1, h.2.2⟩

end Go.Proofs.YtladfpljnaippaaDoor

/-
  The model's DyAdd.
-/
namespace Go.Proofs.YtladfpljnaippaaDoor
open Go.RowKit

theorem badAdd_fin {w : World} {v : Int} : ∀ W, Below w.heap.size w W → OutDS w false v (.returned (.tuple #[.agg #[.bool false, .slice none 0 0, .int .i64 0], .int .i64 1])) W :=
  fun _ hW => ⟨false, [], 0, 1, none, 0, rfl, .inl ⟨rfl, rfl, rfl, rfl, rfl⟩, .inl rfl, .inl rfl, hW⟩

set_option maxHeartbeats 1000000 in
theorem addDS_bad1 (g g' : Bool) (a a' : Option Addr) (c c' : Nat) (zs ys : List Int) (E E' v : Int) (w : World) (hn : zs.length ≤ 1048576) (hz : RowAt .u32 w a zs) (v1 : validD g zs E = false) :
    Calls Tryd.prog 15 #[.agg #[.bool g, .slice a zs.length c, .int .i64 E], .agg #[.bool g', .slice a' ys.length c', .int .i64 E']] w fun e w' => OutDS w false v e w' := by
  have B0 : Hid (∀ t t' t2, Bx7 w (.bool g) (.slice a zs.length c) (.int .i64 E) (.bool g') (.slice a' ys.length c') (.int .i64 E') (((w.alloc (.cells #[.bool g, .slice a zs.length c, .int .i64 E] t)).alloc (.cells #[.bool g', .slice a' ys.length c', .int .i64 E'] t')).alloc (.cells #[.bool false, .slice none 0 0, .int .i64 0] t2))) := fun t t' t2 => Bx7.start w _ _ _ _ _ _ _ _ _
  go_enter Tryd.func15, Tryd.ntmps15
  go_wp2_with fail
  refine (valid2S_any g a c zs E _ (by omega) (hz.later (B0.out _ _ _).bel)).mono ?_
  rintro e w1 ⟨rfl, hb1⟩
  rw [v1]
  have F1 : Hid (Bx7 w (.bool g) (.slice a zs.length c) (.int .i64 E) (.bool g') (.slice a' ys.length c') (.int .i64 E') w1) := (B0.out _ _ _).later hb1
  have r1 := F1.out.r1
  have r2 := F1.out.r2
  have r3 := F1.out.r3
  have r4 := F1.out.r4
  clear hb1 B0
  go_wp2
  refine bodyPost_ret (v := .tuple #[.agg #[.bool false, .slice none 0 0, .int .i64 0], .int .i64 1]) (by simp [results, Tryd.results15, go_sem, r1, r2, r3]) rfl ?_
  exact badAdd_fin _ (((F1.out.bel.setCell (by simp; omega) _).setCell (by simp; omega) _).setCell (by simp; omega) _)

set_option maxHeartbeats 1000000 in
theorem addDS_bad2 (g g' : Bool) (a a' : Option Addr) (c c' : Nat) (zs ys : List Int) (E E' v : Int) (w : World) (hn : zs.length ≤ 1048576) (hn' : ys.length ≤ 1048576) (hz : RowAt .u32 w a zs) (hy : RowAt .u32 w a' ys) (v1 : validD g zs E = true) (v2 : validD g' ys E' = false) :
    Calls Tryd.prog 15 #[.agg #[.bool g, .slice a zs.length c, .int .i64 E], .agg #[.bool g', .slice a' ys.length c', .int .i64 E']] w fun e w' => OutDS w false v e w' := by
  have B0 : Hid (∀ t t' t2, Bx7 w (.bool g) (.slice a zs.length c) (.int .i64 E) (.bool g') (.slice a' ys.length c') (.int .i64 E') (((w.alloc (.cells #[.bool g, .slice a zs.length c, .int .i64 E] t)).alloc (.cells #[.bool g', .slice a' ys.length c', .int .i64 E'] t')).alloc (.cells #[.bool false, .slice none 0 0, .int .i64 0] t2))) := fun t t' t2 => Bx7.start w _ _ _ _ _ _ _ _ _
  go_enter Tryd.func15, Tryd.ntmps15
  go_wp2_with fail
  refine (valid2S_any g a c zs E _ (by omega) (hz.later (B0.out _ _ _).bel)).mono ?_
  rintro e w1 ⟨rfl, hb1⟩
  rw [v1]
  have F1 : Hid (Bx7 w (.bool g) (.slice a zs.length c) (.int .i64 E) (.bool g') (.slice a' ys.length c') (.int .i64 E') w1) := (B0.out _ _ _).later hb1
  have s0 := F1.out.p0
  have s1 := F1.out.p1
  have s2 := F1.out.p2
  clear hb1 B0
  go_wp2_with fail
  refine (valid2S_any g' a' c' ys E' _ (by omega) (hy.later F1.out.bel)).mono ?_
  rintro e w2 ⟨rfl, hb2⟩
  rw [v2]
  have F2 : Hid (Bx7 w (.bool g) (.slice a zs.length c) (.int .i64 E) (.bool g') (.slice a' ys.length c') (.int .i64 E') w2) := F1.out.later hb2
  have r1 := F2.out.r1
  have r2 := F2.out.r2
  have r3 := F2.out.r3
  have r4 := F2.out.r4
  clear hb2 F1 s0 s1 s2
  go_wp2
  refine bodyPost_ret (v := .tuple #[.agg #[.bool false, .slice none 0 0, .int .i64 0], .int .i64 1]) (by simp [results, Tryd.results15, go_sem, r1, r2, r3]) rfl ?_
  exact badAdd_fin _ (((F2.out.bel.setCell (by simp; omega) _).setCell (by simp; omega) _).setCell (by simp; omega) _)

set_option maxRecDepth 100000 in
set_option maxHeartbeats 8000000 in
theorem addDS_ok (g g' : Bool) (a a' : Option Addr) (c c' : Nat) (zs ys : List Int) (E E' v : Int) (w : World) (hz : RowAt .u32 w a zs) (hy : RowAt .u32 w a' ys) (hu : U32 zs) (hu' : U32 ys) (v1 : validD g zs E = true) (v2 : validD g' ys E' = true) (hv : v = atK 100000 (sg g (val 4294967296 zs)) E + atK 100000 (sg g' (val 4294967296 ys)) E') :
    Calls Tryd.prog 15 #[.agg #[.bool g, .slice a zs.length c, .int .i64 E], .agg #[.bool g', .slice a' ys.length c', .int .i64 E']] w fun e w' => OutDS w true v e w' := by
  obtain ⟨vb1, hE0, hE1⟩ := validD_parts v1
  obtain ⟨vb2, hE2, hE3⟩ := validD_parts v2
  have hn := (valid_canon hu vb1).2.1
  have hn' := (valid_canon hu' vb2).2.1
  have HV : Hid (v = atK 100000 (sg g (val 4294967296 zs)) E + atK 100000 (sg g' (val 4294967296 ys)) E') := hv
  clear hv
  have B0 : Hid (∀ t t' t2, Bx7 w (.bool g) (.slice a zs.length c) (.int .i64 E) (.bool g') (.slice a' ys.length c') (.int .i64 E') (((w.alloc (.cells #[.bool g, .slice a zs.length c, .int .i64 E] t)).alloc (.cells #[.bool g', .slice a' ys.length c', .int .i64 E'] t')).alloc (.cells #[.bool false, .slice none 0 0, .int .i64 0] t2))) := fun t t' t2 => Bx7.start w _ _ _ _ _ _ _ _ _
  go_enter Tryd.func15, Tryd.ntmps15
  go_wp2_with fail
  refine (valid2S_any g a c zs E _ (by omega) (hz.later (B0.out _ _ _).bel)).mono ?_
  rintro e w1 ⟨rfl, hb1⟩
  rw [v1]
  have F1 : Hid (Bx7 w (.bool g) (.slice a zs.length c) (.int .i64 E) (.bool g') (.slice a' ys.length c') (.int .i64 E') w1) := (B0.out _ _ _).later hb1
  have s0 := F1.out.p0
  have s1 := F1.out.p1
  have s2 := F1.out.p2
  clear hb1 B0
  go_wp2_with fail
  refine (valid2S_any g' a' c' ys E' _ (by omega) (hy.later F1.out.bel)).mono ?_
  rintro e W0 ⟨rfl, hb2⟩
  rw [v2]
  have F : Hid (Bx7 w (.bool g) (.slice a zs.length c) (.int .i64 E) (.bool g') (.slice a' ys.length c') (.int .i64 E') W0) := F1.out.later hb2
  clear hb2 F1 s0 s1 s2
  have zz : w.heap.size + 1 + 1 < W0.heap.size := F.out.le
  go_wp2
  go_region_held3 (fun w' => w'.cell? ⟨w.heap.size, 0, none⟩ = some (.bool g) ∧ w'.cell? ⟨w.heap.size, 1, none⟩ = some (.slice a zs.length c) ∧ w'.cell? ⟨w.heap.size, 2, none⟩ = some (.int .i64 E) ∧ w'.cell? ⟨w.heap.size + 1, 0, none⟩ = some (.bool g') ∧ w'.cell? ⟨w.heap.size + 1, 1, none⟩ = some (.slice a' ys.length c') ∧ w'.cell? ⟨w.heap.size + 1, 2, none⟩ = some (.int .i64 E') ∧ Below (w.heap.size + 1 + 1) W0 w')
    (first | exact F.out.held (Below.refl _ _).drew | exact F.out.held (by assumption) | exact F.out.held (Below.setCell (Below.setCell (Below.setCell (by assumption) (by simp) _) (by simp) _) (by simp) _))
      (first
        | (go_at_call_of 36 a; refine (of2_any g a c zs E _ (by omega) (by omega) (by omega) (hz.later F.out.bel.drew) hu).mono ?_; rintro e w2 ⟨m1, e1, hn1, g1, a1, c1, f1, rfl, hl1, hL1, hF1, hb1⟩; have hB1 : Below W0.heap.size W0 w2 := (Below.refl _ _).drew.trans hb1; have hB1' : Below (w.heap.size + 1 + 1) W0 w2 := hB1.mono (by omega))
        | (go_at_call_of 36 a'; refine (of2_any g' a' c' ys E' _ (by omega) (by omega) (by omega) (hy.later (F.out.bel.trans (hB1.mono (by omega)))) hu').mono ?_; rintro e w3 ⟨m2, e2, hn2, g2, a2, c2, f2, rfl, hl2, hL2, hF2, hb2⟩; have hB2 : Below W0.heap.size W0 w3 := hB1.trans (hb2.mono hB1.size); have hB2' : Below (w.heap.size + 1 + 1) W0 w3 := hB2.mono (by omega); have hL1b : L1 w3 g1 a1 c1 f1 m1 := hL1.later hb2)
        | (go_at_call 40; refine (add2_any g1 g2 a1 a2 c1 c2 f1 f2 m1 m2 e1 e2 _ (by omega) (by omega) (by have := hn1.bound; have := hn2.bound; omega) (by have := hn1.bound; have := hn2.bound; omega) (by first | exact hL1b | exact hL1b.later (bel0 _ _)) (by first | exact hL2 | exact hL2.later (bel0 _ _))).mono ?_; rintro e w4 ⟨g3, a3, c3, f3, rfl, hl3, hL3, hF3, hb3⟩; have hB3 : Below W0.heap.size W0 w4 := hB2.trans (hb3.mono hB2.size); have hB3' : Below (w.heap.size + 1 + 1) W0 w4 := hB3.mono (by omega); have hbd3 : -100000 ≤ min e1 e2 ∧ min e1 e2 ≤ 1000000 := (by have := hn1.bound; have := hn2.bound; omega); have HVV : atK 100000 (sumAt m1 e1 m2 e2) (min e1 e2) = v := (by rw [HV.out, ← hn1.at (K := 100000) (by omega), ← hn2.at (K := 100000) (by omega), ← sumAt_at (by have := hn1.bound; omega) (by have := hn2.bound; omega)]; rfl))
        | (go_at_call 18; refine (out2_any g3 a3 c3 f3 (sumAt m1 e1 m2 e2) (min e1 e2) _ (by omega) hbd3.1 hbd3.2 hL3).mono ?_; rintro e w5 ⟨G, Z, E5, K, a5, c5, rfl, hres, hr5, hf5, hb5⟩; rw [HVV] at hres; have hB5 : Below W0.heap.size W0 w5 := hB3.trans (hb5.mono hB3.size); have hB5' : Below (w.heap.size + 1 + 1) W0 w5 := hB5.mono (by omega); have F5 : Hid (Bx7 w (.bool g) (.slice a zs.length c) (.int .i64 E) (.bool g') (.slice a' ys.length c') (.int .i64 E') w5) := F.out.later hB5; have r1 := F5.out.r1; have r2 := F5.out.r2; have r3 := F5.out.r3; have r4 := F5.out.r4; have HF5 : Far W0.heap.size a5 Z := Far.down hf5 hB3.size))
  all_goals
    have HR : Hid (ResD true v G Z E5 K) := hres
    have HA : Hid (RowAt .u32 w5 a5 Z) := hr5
    have HF : Hid (Far (w.heap.size + 1 + 1 + 1) a5 Z) := HF5.down zz
    clear hres hr5 hf5 HF5 hB1 hB1' hB2 hB2' hB3 hB3' hB5 hB5' hb1 hb2 hb3 hb5 hL1 hL1b hL2 hL3 hF1 hF2 hF3
    go_wp2
    refine bodyPost_ret (v := .tuple #[.agg #[.bool G, .slice a5 Z.length c5, .int .i64 E5], .int .i64 K]) (by simp [results, Tryd.results15, go_sem, r1, r2, r3]) rfl ?_
    refine ⟨G, Z, E5, K, a5, c5, rfl, HR.out, ?_, HF.out.down (by omega), ?_⟩
    · exact ((HA.out.setAway (HF.out.away (by simp)) _).setAway (HF.out.away (by simp)) _).setAway (HF.out.away (by simp)) _
    · exact ((F5.out.bel.setCell (by simp; omega) _).setCell (by simp; omega) _).setCell (by simp; omega) _

theorem addDS_any (g g' : Bool) (a a' : Option Addr) (c c' : Nat) (zs ys : List Int) (E E' : Int) (w : World) (hn : zs.length ≤ 1048576) (hn' : ys.length ≤ 1048576) (hz : RowAt .u32 w a zs) (hy : RowAt .u32 w a' ys) (hu : U32 zs) (hu' : U32 ys) :
    Calls Tryd.prog 15 #[.agg #[.bool g, .slice a zs.length c, .int .i64 E], .agg #[.bool g', .slice a' ys.length c', .int .i64 E']] w fun e w' => OutDS w (validD g zs E && validD g' ys E') (atK 100000 (sg g (val 4294967296 zs)) E + atK 100000 (sg g' (val 4294967296 ys)) E') e w' := by
  cases v1 : validD g zs E
  · exact addDS_bad1 g g' a a' c c' zs ys E E' _ w hn hz v1
  · cases v2 : validD g' ys E'
    · exact addDS_bad2 g g' a a' c c' zs ys E E' _ w hn hn' hz hy v1 v2
    · exact addDS_ok g g' a a' c c' zs ys E E' _ w hz hy hu hu' v1 v2 rfl

end Go.Proofs.YtladfpljnaippaaDoor
