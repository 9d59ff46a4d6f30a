/-
  The model's DyMul.
-/
import Derived.Test.YtladfpljnaippabDoorSpecFlToDrawH
import Derived.Test.YtladfpljnaippabDoorDy1
import Derived.Test.YtladfpljnaippabDoorDy2
import Derived.Test.YtladfpljnaippabDoorDrawOToDetO
import Derived.Test.YtladfpljnaippabDoorDetUToDetK
import Derived.Test.YtladfpljnaippabDoorDyI5ImplNgDyI1nDyN1ImplU
import Derived.Test.YtladfpljnaippabDoorDyN2ToDetT
namespace Go.Proofs.YtladfpljnaippabDoor
open Go.RowKit

theorem atK_prod {K x y E E' m1 e1 m2 e2 : Int} {T T' : Nat} (h1 : NormOf x E m1 e1 T) (h2 : NormOf y E' m2 e2 T') (hK : 0 ≤ E + E' + K) : atK K (m1 * m2) (e1 + e2) = atK K (x * y) (E + E') := by
  unfold atK
  rcases h1 with ⟨a1, a2, _⟩ | ⟨_, t, a2, a3, _⟩
  · rw [a1, a2]; simp
  · rcases h2 with ⟨b1, b2, _⟩ | ⟨_, s, b2, b3, _⟩
    · rw [b1, b2]; simp
    · rw [a2, b2, a3, b3, show (E + ↑t + (E' + ↑s) + K).toNat = t + (s + (E + E' + K).toNat) by omega, Int.pow_add, Int.pow_add]
      simp only [Int.mul_assoc, Int.mul_left_comm]

theorem badMul_fin {w : World} {v : Int} : ∀ W, Below w.heap.size w W → OutDS w false v (.returned (.tuple #[.agg #[.bool false, .slice none 0 0, .int .i64 0], .int .i64 1])) W :=
  fun _ hW => ⟨false, [], 0, 1, none, 0, rfl, .inl ⟨rfl, rfl, rfl, rfl, rfl⟩, .inl rfl, .inl rfl, hW⟩

set_option maxHeartbeats 1000000 in
theorem mulDS_bad1 (g g' : Bool) (a a' : Option Addr) (c c' : Nat) (zs ys : List Int) (E E' v : Int) (w : World) (hn : zs.length ≤ 1048576) (hz : RowAt .u32 w a zs) (v1 : validD g zs E = false) :
    Calls Tryd.prog 12 #[.agg #[.bool g, .slice a zs.length c, .int .i64 E], .agg #[.bool g', .slice a' ys.length c', .int .i64 E']] w fun e w' => OutDS w false v e w' := by
  have B0 : Hid (∀ t t' t2, Bx7 w (.bool g) (.slice a zs.length c) (.int .i64 E) (.bool g') (.slice a' ys.length c') (.int .i64 E') (((w.alloc (.cells #[.bool g, .slice a zs.length c, .int .i64 E] t)).alloc (.cells #[.bool g', .slice a' ys.length c', .int .i64 E'] t')).alloc (.cells #[.bool false, .slice none 0 0, .int .i64 0] t2))) := fun t t' t2 => Bx7.start w _ _ _ _ _ _ _ _ _
  go_enter Tryd.func12, Tryd.ntmps12
  go_wp2_with fail
  refine (valid2S_any g a c zs E _ (by omega) (hz.later (B0.out _ _ _).bel)).mono ?_
  rintro e w1 ⟨rfl, hb1⟩
  rw [v1]
  have F1 : Hid (Bx7 w (.bool g) (.slice a zs.length c) (.int .i64 E) (.bool g') (.slice a' ys.length c') (.int .i64 E') w1) := (B0.out _ _ _).later hb1
  have r1 := F1.out.r1
  have r2 := F1.out.r2
  have r3 := F1.out.r3
  have r4 := F1.out.r4
  clear hb1 B0
  go_wp2
  refine bodyPost_ret (v := .tuple #[.agg #[.bool false, .slice none 0 0, .int .i64 0], .int .i64 1]) (by simp [results, Tryd.results12, go_sem, r1, r2, r3]) rfl ?_
  exact badMul_fin _ (((F1.out.bel.setCell (by simp; omega) _).setCell (by simp; omega) _).setCell (by simp; omega) _)

set_option maxHeartbeats 1000000 in
theorem mulDS_bad2 (g g' : Bool) (a a' : Option Addr) (c c' : Nat) (zs ys : List Int) (E E' v : Int) (w : World) (hn : zs.length ≤ 1048576) (hn' : ys.length ≤ 1048576) (hz : RowAt .u32 w a zs) (hy : RowAt .u32 w a' ys) (v1 : validD g zs E = true) (v2 : validD g' ys E' = false) :
    Calls Tryd.prog 12 #[.agg #[.bool g, .slice a zs.length c, .int .i64 E], .agg #[.bool g', .slice a' ys.length c', .int .i64 E']] w fun e w' => OutDS w false v e w' := by
  have B0 : Hid (∀ t t' t2, Bx7 w (.bool g) (.slice a zs.length c) (.int .i64 E) (.bool g') (.slice a' ys.length c') (.int .i64 E') (((w.alloc (.cells #[.bool g, .slice a zs.length c, .int .i64 E] t)).alloc (.cells #[.bool g', .slice a' ys.length c', .int .i64 E'] t')).alloc (.cells #[.bool false, .slice none 0 0, .int .i64 0] t2))) := fun t t' t2 => Bx7.start w _ _ _ _ _ _ _ _ _
  go_enter Tryd.func12, Tryd.ntmps12
  go_wp2_with fail
  refine (valid2S_any g a c zs E _ (by omega) (hz.later (B0.out _ _ _).bel)).mono ?_
  rintro e w1 ⟨rfl, hb1⟩
  rw [v1]
  have F1 : Hid (Bx7 w (.bool g) (.slice a zs.length c) (.int .i64 E) (.bool g') (.slice a' ys.length c') (.int .i64 E') w1) := (B0.out _ _ _).later hb1
  have s0 := F1.out.p0
  have s1 := F1.out.p1
  have s2 := F1.out.p2
  clear hb1 B0
  go_wp2_with fail
  refine (valid2S_any g' a' c' ys E' _ (by omega) (hy.later F1.out.bel)).mono ?_
  rintro e w2 ⟨rfl, hb2⟩
  rw [v2]
  have F2 : Hid (Bx7 w (.bool g) (.slice a zs.length c) (.int .i64 E) (.bool g') (.slice a' ys.length c') (.int .i64 E') w2) := F1.out.later hb2
  have r1 := F2.out.r1
  have r2 := F2.out.r2
  have r3 := F2.out.r3
  have r4 := F2.out.r4
  clear hb2 F1 s0 s1 s2
  go_wp2
  refine bodyPost_ret (v := .tuple #[.agg #[.bool false, .slice none 0 0, .int .i64 0], .int .i64 1]) (by simp [results, Tryd.results12, go_sem, r1, r2, r3]) rfl ?_
  exact badMul_fin _ (((F2.out.bel.setCell (by simp; omega) _).setCell (by simp; omega) _).setCell (by simp; omega) _)

set_option maxRecDepth 100000 in
set_option maxHeartbeats 8000000 in
theorem mulDS_ok (g g' : Bool) (a a' : Option Addr) (c c' : Nat) (zs ys : List Int) (E E' v : Int) (w : World) (hz : RowAt .u32 w a zs) (hy : RowAt .u32 w a' ys) (hu : U32 zs) (hu' : U32 ys) (v1 : validD g zs E = true) (v2 : validD g' ys E' = true) (hv : v = atK 100000 ((sg g (val 4294967296 zs)) * (sg g' (val 4294967296 ys))) (E + E')) :
    Calls Tryd.prog 12 #[.agg #[.bool g, .slice a zs.length c, .int .i64 E], .agg #[.bool g', .slice a' ys.length c', .int .i64 E']] w fun e w' => OutDS w true v e w' := by
  obtain ⟨vb1, hE0, hE1⟩ := validD_parts v1
  obtain ⟨vb2, hE2, hE3⟩ := validD_parts v2
  have hn := (valid_canon hu vb1).2.1
  have hn' := (valid_canon hu' vb2).2.1
  have HV : Hid (v = atK 100000 ((sg g (val 4294967296 zs)) * (sg g' (val 4294967296 ys))) (E + E')) := hv
  clear hv
  have B0 : Hid (∀ t t' t2, Bx7 w (.bool g) (.slice a zs.length c) (.int .i64 E) (.bool g') (.slice a' ys.length c') (.int .i64 E') (((w.alloc (.cells #[.bool g, .slice a zs.length c, .int .i64 E] t)).alloc (.cells #[.bool g', .slice a' ys.length c', .int .i64 E'] t')).alloc (.cells #[.bool false, .slice none 0 0, .int .i64 0] t2))) := fun t t' t2 => Bx7.start w _ _ _ _ _ _ _ _ _
  go_enter Tryd.func12, Tryd.ntmps12
  go_wp2_with fail
  refine (valid2S_any g a c zs E _ (by omega) (hz.later (B0.out _ _ _).bel)).mono ?_
  rintro e w1 ⟨rfl, hb1⟩
  rw [v1]
  have F1 : Hid (Bx7 w (.bool g) (.slice a zs.length c) (.int .i64 E) (.bool g') (.slice a' ys.length c') (.int .i64 E') w1) := (B0.out _ _ _).later hb1
  have s0 := F1.out.p0
  have s1 := F1.out.p1
  have s2 := F1.out.p2
  clear hb1 B0
  go_wp2_with fail
  refine (valid2S_any g' a' c' ys E' _ (by omega) (hy.later F1.out.bel)).mono ?_
  rintro e W0 ⟨rfl, hb2⟩
  rw [v2]
  have F : Hid (Bx7 w (.bool g) (.slice a zs.length c) (.int .i64 E) (.bool g') (.slice a' ys.length c') (.int .i64 E') W0) := F1.out.later hb2
  clear hb2 F1 s0 s1 s2
  have zz : w.heap.size + 1 + 1 < W0.heap.size := F.out.le
  go_wp2
  go_region_held3 (fun w' => w'.cell? ⟨w.heap.size, 0, none⟩ = some (.bool g) ∧ w'.cell? ⟨w.heap.size, 1, none⟩ = some (.slice a zs.length c) ∧ w'.cell? ⟨w.heap.size, 2, none⟩ = some (.int .i64 E) ∧ w'.cell? ⟨w.heap.size + 1, 0, none⟩ = some (.bool g') ∧ w'.cell? ⟨w.heap.size + 1, 1, none⟩ = some (.slice a' ys.length c') ∧ w'.cell? ⟨w.heap.size + 1, 2, none⟩ = some (.int .i64 E') ∧ Below (w.heap.size + 1 + 1) W0 w')
    (first | exact F.out.held (Below.refl _ _).drew | exact F.out.held (by assumption) | exact F.out.held (Below.setCell (Below.setCell (Below.setCell (by assumption) (by simp) _) (by simp) _) (by simp) _))
      (first
        | (go_at_call_of 33 a; refine (of2_any g a c zs E _ (by omega) (by omega) (by omega) (hz.later F.out.bel.drew) hu).mono ?_; rintro e w2 ⟨m1, e1, hn1, g1, a1, c1, f1, rfl, hl1, hL1, hF1, hb1⟩; have hB1 : Below W0.heap.size W0 w2 := (Below.refl _ _).drew.trans hb1; have hB1' : Below (w.heap.size + 1 + 1) W0 w2 := hB1.mono (by omega))
        | (go_at_call_of 33 a'; refine (of2_any g' a' c' ys E' _ (by omega) (by omega) (by omega) (hy.later (F.out.bel.trans (hB1.mono (by omega)))) hu').mono ?_; rintro e w3 ⟨m2, e2, hn2, g2, a2, c2, f2, rfl, hl2, hL2, hF2, hb2⟩; have hB2 : Below W0.heap.size W0 w3 := hB1.trans (hb2.mono hB1.size); have hB2' : Below (w.heap.size + 1 + 1) W0 w3 := hB2.mono (by omega); have hL1b : L1 w3 g1 a1 c1 f1 m1 := hL1.later hb2)
        | (go_at_call 42; refine (mul2_any g1 g2 a1 a2 c1 c2 f1 f2 m1 m2 e1 e2 _ (by omega) (by omega) (by have := hn1.bound; have := hn2.bound; omega) (by have := hn1.bound; have := hn2.bound; omega) (by first | exact hL1b | exact hL1b.later (bel0 _ _)) (by first | exact hL2 | exact hL2.later (bel0 _ _))).mono ?_; rintro e w4 ⟨m3, e3, hn3, g3, a3, c3, f3, rfl, hl3, hL3, hF3, hb3⟩; have hB3 : Below W0.heap.size W0 w4 := hB2.trans (hb3.mono hB2.size); have hB3' : Below (w.heap.size + 1 + 1) W0 w4 := hB3.mono (by omega); have hbd3 : -100000 ≤ e3 ∧ e3 ≤ 1000000 := (by have := hn1.bound; have := hn2.bound; have := hn3.bound; omega); have HVV : atK 100000 m3 e3 = v := (by rw [HV.out, ← atK_prod hn1 hn2 (by omega)]; exact hn3.at (by have := hn1.bound; have := hn2.bound; omega)))
        | (go_at_call 34; refine (out2_any g3 a3 c3 f3 m3 e3 _ (by omega) hbd3.1 hbd3.2 hL3).mono ?_; rintro e w5 ⟨G, Z, E5, K, a5, c5, rfl, hres, hr5, hf5, hb5⟩; rw [HVV] at hres; have hB5 : Below W0.heap.size W0 w5 := hB3.trans (hb5.mono hB3.size); have hB5' : Below (w.heap.size + 1 + 1) W0 w5 := hB5.mono (by omega); have F5 : Hid (Bx7 w (.bool g) (.slice a zs.length c) (.int .i64 E) (.bool g') (.slice a' ys.length c') (.int .i64 E') w5) := F.out.later hB5; have r1 := F5.out.r1; have r2 := F5.out.r2; have r3 := F5.out.r3; have r4 := F5.out.r4; have HF5 : Far W0.heap.size a5 Z := Far.down hf5 hB3.size))
  all_goals
    have HR : Hid (ResD true v G Z E5 K) := hres
    have HA : Hid (RowAt .u32 w5 a5 Z) := hr5
    have HF : Hid (Far (w.heap.size + 1 + 1 + 1) a5 Z) := HF5.down zz
    clear hres hr5 hf5 HF5 hB1 hB1' hB2 hB2' hB3 hB3' hB5 hB5' hb1 hb2 hb3 hb5 hL1 hL1b hL2 hL3 hF1 hF2 hF3
    go_wp2
    refine bodyPost_ret (v := .tuple #[.agg #[.bool G, .slice a5 Z.length c5, .int .i64 E5], .int .i64 K]) (by simp [results, Tryd.results12, go_sem, r1, r2, r3]) rfl ?_
    refine ⟨G, Z, E5, K, a5, c5, rfl, HR.out, ?_, HF.out.down (by omega), ?_⟩
    · exact ((HA.out.setAway (HF.out.away (by simp)) _).setAway (HF.out.away (by simp)) _).setAway (HF.out.away (by simp)) _
    · exact ((F5.out.bel.setCell (by simp; omega) _).setCell (by simp; omega) _).setCell (by simp; omega) _

theorem mulDS_any (g g' : Bool) (a a' : Option Addr) (c c' : Nat) (zs ys : List Int) (E E' : Int) (w : World) (hn : zs.length ≤ 1048576) (hn' : ys.length ≤ 1048576) (hz : RowAt .u32 w a zs) (hy : RowAt .u32 w a' ys) (hu : U32 zs) (hu' : U32 ys) :
    Calls Tryd.prog 12 #[.agg #[.bool g, .slice a zs.length c, .int .i64 E], .agg #[.bool g', .slice a' ys.length c', .int .i64 E']] w fun e w' => OutDS w (validD g zs E && validD g' ys E') (atK 100000 ((sg g (val 4294967296 zs)) * (sg g' (val 4294967296 ys))) (E + E')) e w' := by
  cases v1 : validD g zs E
  · exact mulDS_bad1 g g' a a' c c' zs ys E E' _ w hn hz v1
  · cases v2 : validD g' ys E'
    · exact mulDS_bad2 g g' a a' c c' zs ys E E' _ w hn hn' hz hy v1 v2
    · exact mulDS_ok g g' a a' c c' zs ys E E' _ w hz hy hu hu' v1 v2 rfl

end Go.Proofs.YtladfpljnaippabDoor

/-
  Lists of dyadic numbers and of factors, written out.
-/
namespace Go.Proofs.YtladfpljnaippabDoor
open Go.RowKit

/-- One Dyadic written out as a list. -/
theorem one_rowD {W : World} {b : Nat} {d : DV} (hb : b < W.heap.size) (h0 : W.cell? ⟨b, 0, none⟩ = some (.bool d.g)) (h1 : W.cell? ⟨b, 1, none⟩ = some (.slice d.a d.zs.length d.c)) (h2 : W.cell? ⟨b, 2, none⟩ = some (.int .i64 d.E)) (hr : RowAt .u32 W d.a d.zs) : RowD W b 0 [d] := by
  refine ⟨hb, ?_, ?_, ?_, ?_⟩
  all_goals
    intro i hi
    have : i = 0 := by simp at hi; omega
    subst this
    simpa

theorem two_rowD {W : World} {b : Nat} {d d' : DV} (hb : b < W.heap.size) (h0 : W.cell? ⟨b, 0, none⟩ = some (.bool d.g)) (h1 : W.cell? ⟨b, 1, none⟩ = some (.slice d.a d.zs.length d.c)) (h2 : W.cell? ⟨b, 2, none⟩ = some (.int .i64 d.E)) (h3 : W.cell? ⟨b, 3, none⟩ = some (.bool d'.g)) (h4 : W.cell? ⟨b, 4, none⟩ = some (.slice d'.a d'.zs.length d'.c)) (h5 : W.cell? ⟨b, 5, none⟩ = some (.int .i64 d'.E))
    (hr : RowAt .u32 W d.a d.zs) (hr' : RowAt .u32 W d'.a d'.zs) : RowD W b 0 [d, d'] := by
  refine ⟨hb, ?_, ?_, ?_, ?_⟩
  all_goals
    intro i hi
    have : i = 0 ∨ i = 1 := by simp at hi; omega
    rcases this with rfl | rfl
    · simpa
    · simpa

theorem two_rowT {W : World} {b b1 b2 c1 c2 : Nat} {d d' : DV} (hb : b < W.heap.size) (h0 : W.cell? ⟨b, 0, none⟩ = some (.slice (some ⟨b1, 0, none⟩) 1 c1)) (h1 : W.cell? ⟨b, 1, none⟩ = some (.slice (some ⟨b2, 0, none⟩) 1 c2)) (hr : RowD W b1 0 [d]) (hr' : RowD W b2 0 [d']) : RowT W b 0 [⟨b1, 0, c1, [d]⟩, ⟨b2, 0, c2, [d']⟩] := by
  refine ⟨hb, ?_, ?_⟩
  all_goals
    intro i hi
    have : i = 0 ∨ i = 1 := by simp at hi; omega
    rcases this with rfl | rfl
    · simpa
    · simpa

theorem one_rowT {W : World} {b b1 c1 : Nat} {ds : List DV} (hb : b < W.heap.size) (h0 : W.cell? ⟨b, 0, none⟩ = some (.slice (some ⟨b1, 0, none⟩) ds.length c1)) (hr : RowD W b1 0 ds) : RowT W b 0 [⟨b1, 0, c1, ds⟩] := by
  refine ⟨hb, ?_, ?_⟩
  all_goals
    intro i hi
    have : i = 0 := by simp at hi; omega
    subst this
    simpa

end Go.Proofs.YtladfpljnaippabDoor

/-
  The program's DyMul.
-/
namespace Go.Proofs.YtladfpljnaippabDoor
open Go.RowKit

set_option maxRecDepth 100000 in
set_option maxHeartbeats 8000000 in
theorem mulDI_bad (g g' : Bool) (a a' : Option Addr) (c c' : Nat) (zs ys : List Int) (E E' v : Int) (w : World) (hn : zs.length ≤ 1048576) (hn' : ys.length ≤ 1048576) (hz : RowAt .u32 w a zs) (hy : RowAt .u32 w a' ys) (hv : (validD g zs E && validD g' ys E') = false) :
    Calls Tryd.prog 13 #[.agg #[.bool g, .slice a zs.length c, .int .i64 E], .agg #[.bool g', .slice a' ys.length c', .int .i64 E']] w fun e w' => OutDI w false v e w' := by
  have B0 : Hid (∀ t t' t2, Bx7 w (.bool g) (.slice a zs.length c) (.int .i64 E) (.bool g') (.slice a' ys.length c') (.int .i64 E') (((w.alloc (.cells #[.bool g, .slice a zs.length c, .int .i64 E] t)).alloc (.cells #[.bool g', .slice a' ys.length c', .int .i64 E'] t')).alloc (.cells #[.bool false, .slice none 0 0, .int .i64 0] t2))) := fun t t' t2 => Bx7.start w _ _ _ _ _ _ _ _ _
  go_enter Tryd.func13, Tryd.ntmps13
  go_wp2_with fail
  refine (validsI_any _ 0 _ [⟨g, a, c, zs, E⟩, ⟨g', a', c', ys, E'⟩] _ (by simp) ?_ (two_rowD ?_ ?_ ?_ ?_ ?_ ?_ ?_ (hz.later ((B0.out _ _ _).bel.trans ((bel0 _ _).mono (B0.out _ _ _).bel.size))) (hy.later ((B0.out _ _ _).bel.trans ((bel0 _ _).mono (B0.out _ _ _).bel.size))))).mono ?_
  · intro d hd
    simp at hd
    rcases hd with rfl | rfl
    · exact hn
    · exact hn'
  · simp
  · simp [go_sem]
  · simp [go_sem]
  · simp [go_sem]
  · simp [go_sem]
  · simp [go_sem]
  · simp [go_sem]
  · rintro e w1 ⟨rfl, hb1⟩
    have HV : Hid ([(⟨g, a, c, zs, E⟩ : DV), ⟨g', a', c', ys, E'⟩].all DV.ok = false) := by unfold Hid; simpa [DV.ok] using hv
    rw [HV.out]
    have F1 : Hid (Bx7 w (.bool g) (.slice a zs.length c) (.int .i64 E) (.bool g') (.slice a' ys.length c') (.int .i64 E') w1) := ((B0.out _ _ _).later (bel0 _ _)).later hb1
    have r1 := F1.out.r1
    have r2 := F1.out.r2
    have r3 := F1.out.r3
    have r4 := F1.out.r4
    clear hb1 B0
    go_wp2
    refine bodyPost_ret (v := .tuple #[.agg #[.bool false, .slice none 0 0, .int .i64 0], .int .i64 1]) (by simp [results, Tryd.results13, go_sem, r1, r2, r3]) rfl ?_
    refine ⟨false, [], 0, 1, none, 0, rfl, .inl ⟨rfl, rfl, rfl, rfl, rfl⟩, .inl rfl, ?_⟩
    exact ((F1.out.bel.setCell (by simp; omega) _).setCell (by simp; omega) _).setCell (by simp; omega) _

set_option maxRecDepth 100000 in
set_option maxHeartbeats 8000000 in
theorem mulDI_ok (g g' : Bool) (a a' : Option Addr) (c c' : Nat) (zs ys : List Int) (E E' : Int) (w : World) (hz : RowAt .u32 w a zs) (hy : RowAt .u32 w a' ys) (hu : U32 zs) (hu' : U32 ys) (v1 : validD g zs E = true) (v2 : validD g' ys E' = true) (hT : Tab w) :
    Calls Tryd.prog 13 #[.agg #[.bool g, .slice a zs.length c, .int .i64 E], .agg #[.bool g', .slice a' ys.length c', .int .i64 E']] w fun e w' => OutDI w true (atK 100000 ((sg g (val 4294967296 zs)) * (sg g' (val 4294967296 ys))) (E + E')) e w' := by
  obtain ⟨vb1, hE0, hE1⟩ := validD_parts v1
  obtain ⟨vb2, hE2, hE3⟩ := validD_parts v2
  have hn5 := (valid_canon hu vb1).2.1
  have hn5' := (valid_canon hu' vb2).2.1
  have hn : zs.length ≤ 1048576 := Nat.le_trans hn5 (by decide)
  have hn' : ys.length ≤ 1048576 := Nat.le_trans hn5' (by decide)
  have HBz : Hid (B1 g zs (sg g (val 4294967296 zs))) := B1.of_valid hu vb1
  have HBy : Hid (B1 g' ys (sg g' (val 4294967296 ys))) := B1.of_valid hu' vb2
  obtain ⟨v, hv⟩ : ∃ v, v = atK 100000 ((sg g (val 4294967296 zs)) * (sg g' (val 4294967296 ys))) (E + E') := ⟨_, rfl⟩
  have HV : Hid (v = atK 100000 ((sg g (val 4294967296 zs)) * (sg g' (val 4294967296 ys))) (E + E')) := hv
  rw [← hv]
  clear hv
  have B0 : Hid (∀ t t' t2, Bx7 w (.bool g) (.slice a zs.length c) (.int .i64 E) (.bool g') (.slice a' ys.length c') (.int .i64 E') (((w.alloc (.cells #[.bool g, .slice a zs.length c, .int .i64 E] t)).alloc (.cells #[.bool g', .slice a' ys.length c', .int .i64 E'] t')).alloc (.cells #[.bool false, .slice none 0 0, .int .i64 0] t2))) := fun t t' t2 => Bx7.start w _ _ _ _ _ _ _ _ _
  go_enter Tryd.func13, Tryd.ntmps13
  go_wp2_with fail
  refine (validsI_any _ 0 _ [⟨g, a, c, zs, E⟩, ⟨g', a', c', ys, E'⟩] _ (by simp) ?_ (two_rowD ?_ ?_ ?_ ?_ ?_ ?_ ?_ (hz.later ((B0.out _ _ _).bel.trans ((bel0 _ _).mono (B0.out _ _ _).bel.size))) (hy.later ((B0.out _ _ _).bel.trans ((bel0 _ _).mono (B0.out _ _ _).bel.size))))).mono ?_
  · intro d hd
    simp at hd
    rcases hd with rfl | rfl
    · exact hn
    · exact hn'
  · simp
  · simp [go_sem]
  · simp [go_sem]
  · simp [go_sem]
  · simp [go_sem]
  · simp [go_sem]
  · simp [go_sem]
  · rintro e W1 ⟨rfl, hb1⟩
    have HVV : Hid ([(⟨g, a, c, zs, E⟩ : DV), ⟨g', a', c', ys, E'⟩].all DV.ok = true) := by unfold Hid; simp [DV.ok, v1, v2]
    rw [HVV.out]
    have F1 : Hid (Bx7 w (.bool g) (.slice a zs.length c) (.int .i64 E) (.bool g') (.slice a' ys.length c') (.int .i64 E') W1) := ((B0.out _ _ _).later (bel0 _ _)).later hb1
    have s0 := F1.out.q0
    have s1 := F1.out.q1
    have s2 := F1.out.q2
    have s3 := F1.out.p0
    have s4 := F1.out.p1
    have s5 := F1.out.p2
    have hl1 := F1.out.le
    have za : w.heap.size < W1.heap.size := by omega
    have zb : w.heap.size + 1 < W1.heap.size := by omega
    clear hb1 B0
    have hz1 := hz.later F1.out.bel
    have hy1 := hy.later F1.out.bel
    have HRT : Hid (RowT ((W1.alloc (.cells #[.bool g, .slice a zs.length c, .int .i64 E, .bool g', .slice a' ys.length c', .int .i64 E'] 29)).alloc (.cells #[.slice (some ⟨W1.heap.size, 0, none⟩) 2 2] 75)) (W1.heap.size + 1) 0 [⟨W1.heap.size, 0, 2, [⟨g, a, c, zs, E⟩, ⟨g', a', c', ys, E'⟩]⟩]) := by
      unfold Hid
      exact one_rowT (by simp) (by simp [go_sem]) (RowD.later (two_rowD (by simp) (by simp [go_sem]) (by simp [go_sem]) (by simp [go_sem]) (by simp [go_sem]) (by simp [go_sem]) (by simp [go_sem]) (hz1.later (bel0 _ _)) (hy1.later (bel0 _ _))) (bel0 _ _))
    clear hz1 hy1
    go_wp2_with fail
    refine (sumP_any prodSaysJ _ 0 _ [⟨W1.heap.size, 0, 2, [⟨g, a, c, zs, E⟩, ⟨g', a', c', ys, E'⟩]⟩] _ (by simp) ?_ HRT.out).mono ?_
    · intro t ht
      simp at ht
      subst ht
      refine ⟨by simp, fun d hd => ?_⟩
      simp at hd
      rcases hd with rfl | rfl
      · exact ⟨hn5, hE0, hE1, HBz.out⟩
      · exact ⟨hn5', hE2, hE3, HBy.out⟩
    · rintro e W2 ⟨G, a4, c4, f4, m, e4, rfl, hB4, hl4, hK4, he0, he1, hr4, hF4, hb4⟩
      have hVK : atK 100000 m e4 = v := by rw [hK4 100000 (by decide), HV.out]; simp [sumK, prodM, sumE]
      have hl5 : f4.length ≤ 60000 ∧ f4.length ≤ c4 ∧ c4 ≤ maxLen := by simp at hl4; omega
      have hb12 : Below W1.heap.size W1 W2 := (bel2 _ _ _).trans (hb4.mono (by simp; omega))
      have F2 : Hid (Bx7 w (.bool g) (.slice a zs.length c) (.int .i64 E) (.bool g') (.slice a' ys.length c') (.int .i64 E') W2) := F1.out.later hb12
      have HB4 : Hid (B1 G f4 m) := hB4
      have HR4 : Hid (RowAt .u32 W2 a4 f4) := hr4
      have hVK' : Hid (atK 100000 m e4 = v) := hVK
      have HT2 : Hid (Tab W2) := (hT.later F1.out.bel).later hb12
      clear hB4 hK4 hr4 hF4 hb4 hVK HRT s0 s1 s2 s3 s4 s5 hb12 hl4
      go_wp2_with fail
      refine (normalI_any G a4 c4 f4 m e4 _ hl5.1 he0 he1 HR4.out HB4.out hl5.2 HT2.out).mono ?_
      rintro e W3 ⟨G5, Z, E5, K, a5, c5, rfl, hres, hr5, hb5⟩
      rw [hVK'.out] at hres
      have F3 : Hid (Bx7 w (.bool g) (.slice a zs.length c) (.int .i64 E) (.bool g') (.slice a' ys.length c') (.int .i64 E') W3) := F2.out.later hb5
      have HR : Hid (ResD true v G5 Z E5 K) := hres
      have HA : Hid (RowNew .u32 W3 (w.heap.size + 1 + 1 + 1) a5 Z) := hr5.down F2.out.le
      have r1 := F3.out.r1
      have r2 := F3.out.r2
      have r3 := F3.out.r3
      have r4 := F3.out.r4
      clear hres hr5 hb5
      go_wp2
      refine bodyPost_ret (v := .tuple #[.agg #[.bool G5, .slice a5 Z.length c5, .int .i64 E5], .int .i64 K]) (by simp [results, Tryd.results13, go_sem, r1, r2, r3]) rfl ?_
      refine ⟨G5, Z, E5, K, a5, c5, rfl, HR.out, ?_, ?_⟩
      · exact (((HA.out.setLow (by simp) _).setLow (by simp) _).setLow (by simp) _).down (by omega)
      · exact ((F3.out.bel.setCell (by simp; omega) _).setCell (by simp; omega) _).setCell (by simp; omega) _

theorem mulDI_any (g g' : Bool) (a a' : Option Addr) (c c' : Nat) (zs ys : List Int) (E E' : Int) (w : World) (hn : zs.length ≤ 1048576) (hn' : ys.length ≤ 1048576) (hz : RowAt .u32 w a zs) (hy : RowAt .u32 w a' ys) (hu : U32 zs) (hu' : U32 ys) (hT : Tab w) :
    Calls Tryd.prog 13 #[.agg #[.bool g, .slice a zs.length c, .int .i64 E], .agg #[.bool g', .slice a' ys.length c', .int .i64 E']] w fun e w' => OutDI w (validD g zs E && validD g' ys E') (atK 100000 ((sg g (val 4294967296 zs)) * (sg g' (val 4294967296 ys))) (E + E')) e w' := by
  cases hv : validD g zs E && validD g' ys E'
  · exact mulDI_bad g g' a a' c c' zs ys E E' _ w hn hn' hz hy hv
  · obtain ⟨v1, v2⟩ := Bool.and_eq_true_iff.1 hv
    exact mulDI_ok g g' a a' c c' zs ys E E' w hz hy hu hu' v1 v2 hT

end Go.Proofs.YtladfpljnaippabDoor

/-
  FnDet: what its law rests on.
-/
namespace Go.Proofs.YtladfpljnaippabDoor
open Go.RowKit

/-- A Dyadic in a box. -/
structure BoxD (T : Nat) (d : DV) (W : World) : Prop where
  c0 : W.cell? ⟨T, 0, none⟩ = some (.bool d.g)
  c1 : W.cell? ⟨T, 1, none⟩ = some (.slice d.a d.zs.length d.c)
  c2 : W.cell? ⟨T, 2, none⟩ = some (.int .i64 d.E)
  row : RowAt .u32 W d.a d.zs
  lt : T < W.heap.size

theorem BoxD.later {T : Nat} {d : DV} {W W' : World} (h : BoxD T d W) (hb : Below W.heap.size W W') : BoxD T d W' :=
  ⟨(hb.cell (p := ⟨T, 0, none⟩) h.lt).trans h.c0, (hb.cell (p := ⟨T, 1, none⟩) h.lt).trans h.c1, (hb.cell (p := ⟨T, 2, none⟩) h.lt).trans h.c2, h.row.later hb, Nat.lt_of_lt_of_le h.lt hb.size⟩

theorem BoxD.start {d : DV} {W : World} (h : RowAt .u32 W d.a d.zs) (t : TypeId) : BoxD W.heap.size d (W.alloc (.cells #[.bool d.g, .slice d.a d.zs.length d.c, .int .i64 d.E] t)) :=
  ⟨by simp [go_sem], by simp [go_sem], by simp [go_sem], h.later (bel0 _ _), by simp⟩

/-- Is the list one that DyDet takes? -/
def okN (ds : List DV) : Bool := decide (ds.length = 9) && ds.all DV.ok

section
variable {W : World} {X c : Nat} {ds : List DV}

theorem detS_row (hU : Small ds) (hd : RowD W X 0 ds) :
    Calls Tryd.prog 7 #[.slice (some ⟨X, 0, none⟩) ds.length c] W fun e w' => OutDS W (okN ds) (detK 100000 ds) e w' := by
  unfold okN
  by_cases h9 : ds.length = 9
  · have h := detDS_any X 0 c ds W h9 (fun d hd => (hU d hd).1) (fun d hd => by have := (hU d hd).2; omega) hd
    rw [h9, show (decide (9 = 9) && ds.all DV.ok) = ds.all DV.ok by simp]
    exact h
  · rw [show (decide (ds.length = 9) && ds.all DV.ok) = false by simp [h9]]
    exact detDS_bad9 _ _ _ _ _ h9

theorem detI_row (hU : Small ds) (hd : RowD W X 0 ds) (hT : Tab W) :
    Calls Tryd.prog 10 #[.slice (some ⟨X, 0, none⟩) ds.length c] W fun e w' => OutDI W (okN ds) (detK 100000 ds) e w' := by
  unfold okN
  by_cases h9 : ds.length = 9
  · have h := detDI_any X 0 c ds W h9 (fun d hd => (hU d hd).1) (fun d hd => by have := (hU d hd).2; omega) hd hT
    rw [h9, show (decide (9 = 9) && ds.all DV.ok) = ds.all DV.ok by simp]
    exact h
  · rw [show (decide (ds.length = 9) && ds.all DV.ok) = false by simp [h9]]
    exact detDI_bad9 _ _ _ _ _ h9

end

theorem same_of {ds ds' : List DV} {S : List (Bool × List Int × Int)} (h : ds.map strip = S) (h' : ds'.map strip = S) : SameD ds ds' := h'.trans h.symm

theorem SameD.det2 {ds ds' : List DV} (h : SameD ds ds') (K : Int) : detK K ds' = detK K ds := by
  have tp : ∀ k0 k1 k2, prodM (tri ds' false k0 k1 k2) = prodM (tri ds false k0 k1 k2) ∧ sumE (tri ds' false k0 k1 k2) = sumE (tri ds false k0 k1 k2) := by
    intro k0 k1 k2
    rw [tri_pos.1, tri_pos.2, tri_pos.1, tri_pos.2, (h.at k0).1, (h.at k0).2.1, (h.at k0).2.2, (h.at k1).1, (h.at k1).2.1, (h.at k1).2.2, (h.at k2).1, (h.at k2).2.1, (h.at k2).2.2]
    exact ⟨rfl, rfl⟩
  have tn : ∀ k0 k1 k2, prodM (tri ds' true k0 k1 k2) = prodM (tri ds true k0 k1 k2) ∧ sumE (tri ds' true k0 k1 k2) = sumE (tri ds true k0 k1 k2) := by
    intro k0 k1 k2
    rw [tri_neg.1, tri_neg.2, tri_neg.1, tri_neg.2, (h.at k0).1, (h.at k0).2.1, (h.at k0).2.2, (h.at k1).1, (h.at k1).2.1, (h.at k1).2.2, (h.at k2).1, (h.at k2).2.1, (h.at k2).2.2]
    exact ⟨rfl, rfl⟩
  unfold detK sumK sixT
  simp only [List.map_cons, List.map_nil, (tp 0 4 8).1, (tp 0 4 8).2, (tp 1 5 6).1, (tp 1 5 6).2, (tp 2 3 7).1, (tp 2 3 7).2, (tn 2 4 6).1, (tn 2 4 6).2, (tn 0 5 7).1, (tn 0 5 7).2, (tn 1 3 8).1, (tn 1 3 8).2]

theorem SameD.okN {ds ds' : List DV} (h : SameD ds ds') : Go.Proofs.YtladfpljnaippabDoor.okN ds' = Go.Proofs.YtladfpljnaippabDoor.okN ds := by
  unfold Go.Proofs.YtladfpljnaippabDoor.okN
  rw [h.length, h.ok]

theorem nine_of {ds : List DV} (h : ds.length = 9) : ∃ d0 d1 d2 d3 d4 d5 d6 d7 d8, ds = [d0, d1, d2, d3, d4, d5, d6, d7, d8] := by
  match ds, h with
  | [d0, d1, d2, d3, d4, d5, d6, d7, d8], _ => exact ⟨d0, d1, d2, d3, d4, d5, d6, d7, d8, rfl⟩

theorem okN_parts {ds : List DV} (h : okN ds = true) : ds.length = 9 ∧ ds.all DV.ok = true := by
  unfold okN at h
  simpa using h

/-- The bytes of a code. -/
structure Code8 (a : Option Addr) (c : Nat) (bs : List Int) (W : World) : Prop where
  len : bs.length ≤ 1048576
  fit : bs.length ≤ c
  cap : c ≤ maxLen
  nil : a = none → c = 0
  row : RowAt .u8 W a bs
  dig : Dig 256 bs

theorem Code8.later {a : Option Addr} {c : Nat} {bs : List Int} {W W' : World} (h : Code8 a c bs W) (hb : Below W.heap.size W W') : Code8 a c bs W' := ⟨h.len, h.fit, h.cap, h.nil, h.row.later hb, h.dig⟩

theorem Code8.draw {a : Option Addr} {c : Nat} {bs : List Int} {W : World} (h : Code8 a c bs W) : Calls Tryd.prog 6 #[.slice a bs.length c] W fun e w' => DetOut W bs e w' := drawDet_any a c bs W h.len h.fit h.cap h.nil h.row h.dig
theorem Code8.of {a : Option Addr} {c : Nat} {bs : List Int} {W : World} (h : Code8 a c bs W) : Calls Tryd.prog 9 #[.slice a bs.length c] W fun e w' => OfOut W e w' := drawOf_any a c bs W h.len h.fit h.cap h.nil h.row h.dig

/-- What stays while the law of FnDet runs: the model's answer (T6), the factor (T8), the list m. -/
structure StF (w : World) (T6 : Nat) (Dw : DV) (T8 : Nat) (Dk : DV) (X1 : Nat) (ds1 : List DV) (W : World) : Prop where
  want : BoxD T6 Dw W
  k : BoxD T8 Dk W
  m : LstW w.heap.size X1 ds1 W
  bel : Below w.heap.size w W

theorem StF.later {w : World} {T6 : Nat} {Dw : DV} {T8 : Nat} {Dk : DV} {X1 : Nat} {ds1 : List DV} {W W' : World} (h : StF w T6 Dw T8 Dk X1 ds1 W) (hb : Below W.heap.size W W') : StF w T6 Dw T8 Dk X1 ds1 W' :=
  ⟨h.want.later hb, h.k.later hb, h.m.later hb, h.bel.trans (hb.mono h.bel.size)⟩

/-- The 27 cells of a list of nine. -/
theorem nine_cells {W : World} {B X : Nat} {d0 d1 d2 d3 d4 d5 d6 d7 d8 : DV} (h : LstW B X [d0, d1, d2, d3, d4, d5, d6, d7, d8] W) :
    W.cell? ⟨X, 0, none⟩ = some (.bool d0.g) ∧ W.cell? ⟨X, 1, none⟩ = some (.slice d0.a d0.zs.length d0.c) ∧ W.cell? ⟨X, 2, none⟩ = some (.int .i64 d0.E) ∧ W.cell? ⟨X, 3, none⟩ = some (.bool d1.g) ∧ W.cell? ⟨X, 4, none⟩ = some (.slice d1.a d1.zs.length d1.c) ∧ W.cell? ⟨X, 5, none⟩ = some (.int .i64 d1.E) ∧ W.cell? ⟨X, 6, none⟩ = some (.bool d2.g) ∧ W.cell? ⟨X, 7, none⟩ = some (.slice d2.a d2.zs.length d2.c) ∧ W.cell? ⟨X, 8, none⟩ = some (.int .i64 d2.E) ∧ W.cell? ⟨X, 9, none⟩ = some (.bool d3.g) ∧ W.cell? ⟨X, 10, none⟩ = some (.slice d3.a d3.zs.length d3.c) ∧ W.cell? ⟨X, 11, none⟩ = some (.int .i64 d3.E) ∧ W.cell? ⟨X, 12, none⟩ = some (.bool d4.g) ∧ W.cell? ⟨X, 13, none⟩ = some (.slice d4.a d4.zs.length d4.c) ∧ W.cell? ⟨X, 14, none⟩ = some (.int .i64 d4.E) ∧ W.cell? ⟨X, 15, none⟩ = some (.bool d5.g) ∧ W.cell? ⟨X, 16, none⟩ = some (.slice d5.a d5.zs.length d5.c) ∧ W.cell? ⟨X, 17, none⟩ = some (.int .i64 d5.E) ∧ W.cell? ⟨X, 18, none⟩ = some (.bool d6.g) ∧ W.cell? ⟨X, 19, none⟩ = some (.slice d6.a d6.zs.length d6.c) ∧ W.cell? ⟨X, 20, none⟩ = some (.int .i64 d6.E) ∧ W.cell? ⟨X, 21, none⟩ = some (.bool d7.g) ∧ W.cell? ⟨X, 22, none⟩ = some (.slice d7.a d7.zs.length d7.c) ∧ W.cell? ⟨X, 23, none⟩ = some (.int .i64 d7.E) ∧ W.cell? ⟨X, 24, none⟩ = some (.bool d8.g) ∧ W.cell? ⟨X, 25, none⟩ = some (.slice d8.a d8.zs.length d8.c) ∧ W.cell? ⟨X, 26, none⟩ = some (.int .i64 d8.E) := by
  have l : ∀ i, i < 9 → i < [d0, d1, d2, d3, d4, d5, d6, d7, d8].length := fun i hi => hi
  exact ⟨h.c0 0 (l 0 (by decide)), h.c1 0 (l 0 (by decide)), h.c2 0 (l 0 (by decide)), h.c0 1 (l 1 (by decide)), h.c1 1 (l 1 (by decide)), h.c2 1 (l 1 (by decide)), h.c0 2 (l 2 (by decide)), h.c1 2 (l 2 (by decide)), h.c2 2 (l 2 (by decide)), h.c0 3 (l 3 (by decide)), h.c1 3 (l 3 (by decide)), h.c2 3 (l 3 (by decide)), h.c0 4 (l 4 (by decide)), h.c1 4 (l 4 (by decide)), h.c2 4 (l 4 (by decide)), h.c0 5 (l 5 (by decide)), h.c1 5 (l 5 (by decide)), h.c2 5 (l 5 (by decide)), h.c0 6 (l 6 (by decide)), h.c1 6 (l 6 (by decide)), h.c2 6 (l 6 (by decide)), h.c0 7 (l 7 (by decide)), h.c1 7 (l 7 (by decide)), h.c2 7 (l 7 (by decide)), h.c0 8 (l 8 (by decide)), h.c1 8 (l 8 (by decide)), h.c2 8 (l 8 (by decide))⟩

theorem nine_drew {w : World} {t : TypeId} {d0 d1 d2 d3 d4 d5 d6 d7 d8 : DV} (h0 : RowAt .u32 w d0.a d0.zs) (h1 : RowAt .u32 w d1.a d1.zs) (h2 : RowAt .u32 w d2.a d2.zs) (h3 : RowAt .u32 w d3.a d3.zs) (h4 : RowAt .u32 w d4.a d4.zs) (h5 : RowAt .u32 w d5.a d5.zs) (h6 : RowAt .u32 w d6.a d6.zs) (h7 : RowAt .u32 w d7.a d7.zs) (h8 : RowAt .u32 w d8.a d8.zs) : RowD (w.alloc (.cells #[.bool d0.g, .slice d0.a d0.zs.length d0.c, .int .i64 d0.E, .bool d1.g, .slice d1.a d1.zs.length d1.c, .int .i64 d1.E, .bool d2.g, .slice d2.a d2.zs.length d2.c, .int .i64 d2.E, .bool d3.g, .slice d3.a d3.zs.length d3.c, .int .i64 d3.E, .bool d4.g, .slice d4.a d4.zs.length d4.c, .int .i64 d4.E, .bool d5.g, .slice d5.a d5.zs.length d5.c, .int .i64 d5.E, .bool d6.g, .slice d6.a d6.zs.length d6.c, .int .i64 d6.E, .bool d7.g, .slice d7.a d7.zs.length d7.c, .int .i64 d7.E, .bool d8.g, .slice d8.a d8.zs.length d8.c, .int .i64 d8.E] t)).drew w.heap.size 0 [d0, d1, d2, d3, d4, d5, d6, d7, d8] :=
  (nine_row h0 h1 h2 h3 h4 h5 h6 h7 h8).later (Below.refl _ _).drew

theorem nine_ok {d0 d1 d2 d3 d4 d5 d6 d7 d8 : DV} (h : [d0, d1, d2, d3, d4, d5, d6, d7, d8].all DV.ok = true) : d0.ok = true ∧ d1.ok = true ∧ d2.ok = true ∧ d3.ok = true ∧ d4.ok = true ∧ d5.ok = true ∧ d6.ok = true ∧ d7.ok = true ∧ d8.ok = true := by
  simpa using h

theorem nine_okN {d0 d1 d2 d3 d4 d5 d6 d7 d8 : DV} (h0 : d0.ok = true) (h1 : d1.ok = true) (h2 : d2.ok = true) (h3 : d3.ok = true) (h4 : d4.ok = true) (h5 : d5.ok = true) (h6 : d6.ok = true) (h7 : d7.ok = true) (h8 : d8.ok = true) : okN [d0, d1, d2, d3, d4, d5, d6, d7, d8] = true := by
  unfold okN
  simp [h0, h1, h2, h3, h4, h5, h6, h7, h8]

theorem nine_small {d0 d1 d2 d3 d4 d5 d6 d7 d8 : DV} (h : Small [d0, d1, d2, d3, d4, d5, d6, d7, d8]) : (U32 d0.zs ∧ d0.zs.length ≤ 513) ∧ (U32 d1.zs ∧ d1.zs.length ≤ 513) ∧ (U32 d2.zs ∧ d2.zs.length ≤ 513) ∧ (U32 d3.zs ∧ d3.zs.length ≤ 513) ∧ (U32 d4.zs ∧ d4.zs.length ≤ 513) ∧ (U32 d5.zs ∧ d5.zs.length ≤ 513) ∧ (U32 d6.zs ∧ d6.zs.length ≤ 513) ∧ (U32 d7.zs ∧ d7.zs.length ≤ 513) ∧ (U32 d8.zs ∧ d8.zs.length ≤ 513) :=
  ⟨h d0 (by simp), h d1 (by simp), h d2 (by simp), h d3 (by simp), h d4 (by simp), h d5 (by simp), h d6 (by simp), h d7 (by simp), h d8 (by simp)⟩

theorem small_nine {d0 d1 d2 d3 d4 d5 d6 d7 d8 : DV} (h0 : U32 d0.zs ∧ d0.zs.length ≤ 513) (h1 : U32 d1.zs ∧ d1.zs.length ≤ 513) (h2 : U32 d2.zs ∧ d2.zs.length ≤ 513) (h3 : U32 d3.zs ∧ d3.zs.length ≤ 513) (h4 : U32 d4.zs ∧ d4.zs.length ≤ 513) (h5 : U32 d5.zs ∧ d5.zs.length ≤ 513) (h6 : U32 d6.zs ∧ d6.zs.length ≤ 513) (h7 : U32 d7.zs ∧ d7.zs.length ≤ 513) (h8 : U32 d8.zs ∧ d8.zs.length ≤ 513) : Small [d0, d1, d2, d3, d4, d5, d6, d7, d8] := by
  intro d hd
  simp at hd
  rcases hd with rfl | rfl | rfl | rfl | rfl | rfl | rfl | rfl | rfl
  · exact h0
  · exact h1
  · exact h2
  · exact h3
  · exact h4
  · exact h5
  · exact h6
  · exact h7
  · exact h8

theorem BoxD.set {b B : Nat} {d : DV} {W : World} (hh : Has3 b W) (hr : RowAt .u32 W d.a d.zs) (hf : Far B d.a d.zs) (hb : b < B) : BoxD b d (((W.setCell ⟨b, 0, none⟩ (.bool d.g)).setCell ⟨b, 1, none⟩ (.slice d.a d.zs.length d.c)).setCell ⟨b, 2, none⟩ (.int .i64 d.E)) := by
  refine ⟨?_, ?_, ?_, ?_, by simpa using hh.lt⟩
  · rw [World.cell?_setCell_other _ _ _ _ (by simp), World.cell?_setCell_other _ _ _ _ (by simp)]
    exact World.cell?_setCell_same _ _ _ hh.r1
  · rw [World.cell?_setCell_other _ _ _ _ (by simp)]
    refine World.cell?_setCell_same _ _ _ (u := .slice none 0 0) ?_
    rw [World.cell?_setCell_other _ _ _ _ (by simp)]
    exact hh.r2
  · refine World.cell?_setCell_same _ _ _ (u := .int .i64 0) ?_
    rw [World.cell?_setCell_other _ _ _ _ (by simp), World.cell?_setCell_other _ _ _ _ (by simp)]
    exact hh.r3
  · exact ((hr.setAway (hf.away (by simpa using hb)) _).setAway (hf.away (by simpa using hb)) _).setAway (hf.away (by simpa using hb)) _

/-- The list c while its first row is multiplied: the first i are products. -/
def RelC (q : Nat) (ds1 : List DV) (Dk : DV) (i : Nat) (dsc : List DV) : Prop :=
  dsc.length = 9 ∧ ∀ j, j < 9 → if j < i then (dsc.getD j default).ok = true ∧ vD (dsc.getD j default) * 2 ^ q = vD (ds1.getD j default) * vD Dk else strip (dsc.getD j default) = strip (ds1.getD j default)

theorem RelC.start {q : Nat} {ds1 ds5 : List DV} {Dk : DV} (h : SameD ds1 ds5) (hl : ds1.length = 9) : RelC q ds1 Dk 0 ds5 := by
  refine ⟨h.length.trans hl, fun j _ => ?_⟩
  rw [if_neg (by omega), strip_getD, strip_getD, h]

theorem RelC.step {q : Nat} {ds1 dsc : List DV} {Dk x : DV} {i : Nat} (h : RelC q ds1 Dk i dsc) (hi : i < 3) (hx : x.ok = true) (hv : vD x * 2 ^ q = vD (ds1.getD i default) * vD Dk) : RelC q ds1 Dk (i + 1) (dsc.set i x) := by
  refine ⟨by rw [List.length_set]; exact h.1, fun j hj => ?_⟩
  rw [getD_set dsc i x (by rw [h.1]; omega)]
  have h2 := h.2 j hj
  by_cases e : j = i
  · rw [if_pos (show j < i + 1 by omega), if_pos e, e]
    exact ⟨hx, hv⟩
  · rw [if_neg e]
    by_cases h3 : j < i
    · rw [if_pos (show j < i + 1 by omega)]
      rw [if_pos h3] at h2
      exact h2
    · rw [if_neg (show ¬ j < i + 1 by omega)]
      rw [if_neg h3] at h2
      exact h2

theorem RelC.at {q : Nat} {ds1 dsc : List DV} {Dk : DV} {i : Nat} (h : RelC q ds1 Dk i dsc) (hi : i < 9) : strip (dsc.getD i default) = strip (ds1.getD i default) := by
  have := h.2 i hi
  rw [if_neg (by omega)] at this
  exact this

theorem strip_num {d d' : DV} (h : strip d = strip d') : numD d = numD d' ∧ d.E = d'.E ∧ d.g = d'.g ∧ d.zs = d'.zs ∧ d.ok = d'.ok ∧ vD d = vD d' := by
  unfold strip at h
  have h1 := congrArg Prod.fst h
  have h2 := congrArg Prod.snd h
  have h3 := congrArg Prod.fst h2
  have h4 := congrArg Prod.snd h2
  simp only at h1 h3 h4
  unfold vD numD DV.ok
  rw [h1, h3, h4]
  exact ⟨rfl, rfl, rfl, rfl, rfl, rfl⟩

theorem low_of_ok {d : DV} (h : d.ok = true) : LowE d := (validD_parts h).2.1

/-- The whole row multiplied: the list is taken, and its determinant is the product. -/
theorem RelC.whole {q : Nat} {ds1 dsc : List DV} {Dk : DV} (h : RelC q ds1 Dk 3 dsc) (hl : ds1.length = 9) (ho : ds1.all DV.ok = true) : okN dsc = true ∧ detK 100000 dsc * 2 ^ q = detK 100000 ds1 * vD Dk := by
  obtain ⟨d0, d1, d2, d3, d4, d5, d6, d7, d8, rfl⟩ := nine_of hl
  obtain ⟨x, y, z, e3, e4, e5, e6, e7, e8, rfl⟩ := nine_of h.1
  obtain ⟨k0, k1, k2, k3, k4, k5, k6, k7, k8⟩ := nine_ok ho
  have h0 : x.ok = true ∧ vD x * 2 ^ q = vD d0 * vD Dk := by have := h.2 0 (by decide); simpa using this
  have h1 : y.ok = true ∧ vD y * 2 ^ q = vD d1 * vD Dk := by have := h.2 1 (by decide); simpa using this
  have h2 : z.ok = true ∧ vD z * 2 ^ q = vD d2 * vD Dk := by have := h.2 2 (by decide); simpa using this
  have h3 : strip e3 = strip d3 := by have := h.2 3 (by decide); simpa using this
  have h4 : strip e4 = strip d4 := by have := h.2 4 (by decide); simpa using this
  have h5 : strip e5 = strip d5 := by have := h.2 5 (by decide); simpa using this
  have h6 : strip e6 = strip d6 := by have := h.2 6 (by decide); simpa using this
  have h7 : strip e7 = strip d7 := by have := h.2 7 (by decide); simpa using this
  have h8 : strip e8 = strip d8 := by have := h.2 8 (by decide); simpa using this
  have o3 : e3.ok = true := (strip_num h3).2.2.2.2.1.trans k3
  have o4 : e4.ok = true := (strip_num h4).2.2.2.2.1.trans k4
  have o5 : e5.ok = true := (strip_num h5).2.2.2.2.1.trans k5
  have o6 : e6.ok = true := (strip_num h6).2.2.2.2.1.trans k6
  have o7 : e7.ok = true := (strip_num h7).2.2.2.2.1.trans k7
  have o8 : e8.ok = true := (strip_num h8).2.2.2.2.1.trans k8
  refine ⟨nine_okN h0.1 h1.1 h2.1 o3 o4 o5 o6 o7 o8, ?_⟩
  have hs : SameD [d0, d1, d2, e3, e4, e5, e6, e7, e8] [d0, d1, d2, d3, d4, d5, d6, d7, d8] := by
    unfold SameD
    simp only [List.map_cons, List.map_nil, h3, h4, h5, h6, h7, h8]
  rw [hs.det2]
  exact detK_scale (low_of_ok k0) (low_of_ok k1) (low_of_ok k2) (low_of_ok o3) (low_of_ok o4) (low_of_ok o5) (low_of_ok o6) (low_of_ok o7) (low_of_ok o8) (low_of_ok h0.1) (low_of_ok h1.1) (low_of_ok h2.1) h0.2 h1.2 h2.2

end Go.Proofs.YtladfpljnaippabDoor
