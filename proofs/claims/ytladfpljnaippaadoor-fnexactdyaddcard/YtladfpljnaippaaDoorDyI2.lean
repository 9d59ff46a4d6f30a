/-
  The program's sums of two dyadic numbers.
-/
import Derived.Test.YtladfpljnaippaaDoorImplEDyI1
namespace Go.Proofs.YtladfpljnaippaaDoor
open Go.RowKit

theorem whole_at (g : Bool) (a : Option Addr) (c : Nat) (zs : List Int) (x E e : Int) (w : World) (hn : zs.length ≤ 60000) (n0 : e ≤ E) (n1 : E - e ≤ 120000) (hz : RowAt .u32 w a zs) (h : B1 g zs x) :
    Calls Tryd.prog 73 #[.agg #[.bool g, .slice a zs.length c, .int .i64 E], .int .i64 e] w fun e' w' => BigOut w (x * 2 ^ (E - e).toNat) (zs.length + 3751) e' w' := by
  have := whole_any g a c zs x e (E - e) w hn (by omega) n1 hz h
  rw [show e + (E - e) = E by omega] at this
  exact this

/-- m * 2^e is x * 2^E + y * 2^E'. -/
def SumOf (x E y E' m e : Int) : Prop := (e = E ∨ e = E') ∧ ∀ K, 0 ≤ E + K → 0 ≤ E' + K → atK K m e = atK K x E + atK K y E'

/-- What plus hands back: one of the two, or new memory. -/
def PlusOut (w : World) (a a' : Option Addr) (zs ys : List Int) (x E y E' : Int) (n : Nat) (e : Ending) (w' : World) : Prop :=
  ∃ (G : Bool) (b : Option Addr) (c : Nat) (fs : List Int) (m e' : Int), e = .returned (.agg #[.bool G, .slice b fs.length c, .int .i64 e']) ∧ B1 G fs m ∧ SumOf x E y E' m e' ∧ (fs.length ≤ n ∧ fs.length ≤ c ∧ c ≤ maxLen) ∧ RowAt .u32 w' b fs ∧ (Far w.heap.size b fs ∨ (b = a ∧ fs = zs) ∨ (b = a' ∧ fs = ys)) ∧ Below w.heap.size w w'

theorem SumOf.left {x E y E' : Int} (h : x = 0) : SumOf x E y E' y E' := ⟨.inr rfl, fun K _ _ => by rw [h]; simp [atK]⟩
theorem SumOf.right {x E y E' : Int} (h : y = 0) : SumOf x E y E' x E := ⟨.inl rfl, fun K _ _ => by rw [h]; simp [atK]⟩
theorem SumOf.both (x E y E' : Int) : SumOf x E y E' (sumAt x E y E') (min E E') := by
  refine ⟨by omega, fun K h h' => ?_⟩
  rw [← sumAt_at h h']
  rfl

set_option maxRecDepth 100000 in
set_option maxHeartbeats 4000000 in
theorem plusD_zero (g g' : Bool) (a a' : Option Addr) (c c' : Nat) (zs ys : List Int) (x y E E' : Int) (w : World) (hz : RowAt .u32 w a zs) (hy : RowAt .u32 w a' ys) (h : B1 g zs x) (h' : B1 g' ys y) (h0 : zs.length = 0 ∨ ys.length = 0) (k1 : zs.length ≤ c ∧ c ≤ maxLen) (k2 : ys.length ≤ c' ∧ c' ≤ maxLen) :
    Calls Tryd.prog 62 #[.agg #[.bool g, .slice a zs.length c, .int .i64 E], .agg #[.bool g', .slice a' ys.length c', .int .i64 E']] w fun e w' => PlusOut w a a' zs ys x E y E' (zs.length + ys.length) e w' := by
  by_cases hz0 : zs.length = 0
  · have hx : x = 0 := by rw [h.num, List.length_eq_zero_iff.1 hz0]; simp [sg, val]
    have hzz : ((zs.length : Int) == 0) = true := by rw [beq_iff_eq]; omega
    have HO : Hid (∀ W, Below w.heap.size w W → PlusOut w a a' zs ys x E y E' (zs.length + ys.length) (.returned (.agg #[.bool g', .slice a' ys.length c', .int .i64 E'])) W) :=
      fun W hW => ⟨g', a', c', ys, y, E', rfl, h', SumOf.left hx, by omega, hy.later hW, .inr (.inr ⟨rfl, rfl⟩), hW⟩
    clear hz0 h0 k1 k2
    go_enter Tryd.func62, Tryd.ntmps62
    go_wp2
    refine bodyPost_ret (v := .agg #[.bool g', .slice a' ys.length c', .int .i64 E']) (by simp [results, Tryd.results62, go_sem]) rfl ?_
    exact HO.out _ (bel3 _ _ _ _)
  · have hy0 : ys.length = 0 := by omega
    have hx : y = 0 := by rw [h'.num, List.length_eq_zero_iff.1 hy0]; simp [sg, val]
    have hzz : ((zs.length : Int) == 0) = false := by rw [beq_eq_false_iff_ne]; omega
    have hyy : ((ys.length : Int) == 0) = true := by rw [beq_iff_eq]; omega
    have HO : Hid (∀ W, Below w.heap.size w W → PlusOut w a a' zs ys x E y E' (zs.length + ys.length) (.returned (.agg #[.bool g, .slice a zs.length c, .int .i64 E])) W) :=
      fun W hW => ⟨g, a, c, zs, x, E, rfl, h, SumOf.right hx, by omega, hz.later hW, .inr (.inl ⟨rfl, rfl⟩), hW⟩
    clear hz0 h0 hy0 k1 k2
    go_enter Tryd.func62, Tryd.ntmps62
    go_wp2
    refine bodyPost_ret (v := .agg #[.bool g, .slice a zs.length c, .int .i64 E]) (by simp [results, Tryd.results62, go_sem]) rfl ?_
    exact HO.out _ (bel3 _ _ _ _)

set_option maxRecDepth 100000 in
set_option maxHeartbeats 8000000 in
theorem plusD_ok (g g' : Bool) (a a' : Option Addr) (c c' : Nat) (zs ys : List Int) (x y E E' : Int) (w : World) (hn : zs.length ≤ 60000) (hn' : ys.length ≤ 60000) (he : E - E' ≤ 120000) (he' : E' - E ≤ 120000) (hz : RowAt .u32 w a zs) (hy : RowAt .u32 w a' ys) (h : B1 g zs x) (h' : B1 g' ys y) (hz0 : zs.length ≠ 0) (hy0 : ys.length ≠ 0) :
    Calls Tryd.prog 62 #[.agg #[.bool g, .slice a zs.length c, .int .i64 E], .agg #[.bool g', .slice a' ys.length c', .int .i64 E']] w fun e w' => PlusOut w a a' zs ys x E y E' (zs.length + ys.length + 7503) e w' := by
  have hzz : ((zs.length : Int) == 0) = false := by rw [beq_eq_false_iff_ne]; omega
  have hyy : ((ys.length : Int) == 0) = false := by rw [beq_eq_false_iff_ne]; omega
  have B0 : Hid (∀ t t' t2, Bx7 w (.bool g) (.slice a zs.length c) (.int .i64 E) (.bool g') (.slice a' ys.length c') (.int .i64 E') (((w.alloc (.cells #[.bool g, .slice a zs.length c, .int .i64 E] t)).alloc (.cells #[.bool g', .slice a' ys.length c', .int .i64 E'] t')).alloc (.cells #[.bool false, .slice none 0 0, .int .i64 0] t2))) := fun t t' t2 => Bx7.start w _ _ _ _ _ _ _ _ _
  rcases Int.lt_trichotomy E E' with hlt | hlt | hlt
  · have hlt2 : ¬ E' < E := by omega
    have hlt3 : ¬ E' ≤ E := by omega
    go_enter Tryd.func62, Tryd.ntmps62
    go_wp2
    obtain ⟨W0, hW0⟩ : ∃ W0, W0 = (((w.alloc (.cells #[.bool g, .slice a zs.length c, .int .i64 E] 27)).alloc (.cells #[.bool g', .slice a' ys.length c', .int .i64 E'] 27)).alloc (.cells #[.bool false, .slice none 0 0, .int .i64 0] 27)) := ⟨_, rfl⟩
    have F : Hid (Bx7 w (.bool g) (.slice a zs.length c) (.int .i64 E) (.bool g') (.slice a' ys.length c') (.int .i64 E') W0) := by unfold Hid; rw [hW0]; exact B0.out _ _ _
    rw [← hW0]
    clear hW0 B0
    have zz : w.heap.size + 1 + 1 < W0.heap.size := F.out.le
    go_region_held3 (fun w' => w'.cell? ⟨w.heap.size, 0, none⟩ = some (.bool g) ∧ w'.cell? ⟨w.heap.size, 1, none⟩ = some (.slice a zs.length c) ∧ w'.cell? ⟨w.heap.size, 2, none⟩ = some (.int .i64 E) ∧ w'.cell? ⟨w.heap.size + 1, 0, none⟩ = some (.bool g') ∧ w'.cell? ⟨w.heap.size + 1, 1, none⟩ = some (.slice a' ys.length c') ∧ w'.cell? ⟨w.heap.size + 1, 2, none⟩ = some (.int .i64 E') ∧ Below (w.heap.size + 1 + 1) W0 w')
      (first | exact F.out.held (Below.refl _ _).drew | exact F.out.held (by assumption) | exact F.out.held (Below.setCell (Below.setCell (Below.setCell (by assumption) (by simp) _) (by simp) _) (by simp) _))
      (first
        | (go_at_call_of 73 a; refine (whole_at g a c zs x E E _ (by omega) (by omega) (by omega) (hz.later F.out.bel.drew) h).mono ?_; rintro e w1 ⟨g1, a1, c1, f1, rfl, hB1, hl1, hr1, hb1⟩; have hW1 : Below W0.heap.size W0 w1 := (Below.refl _ _).drew.trans hb1; have hW1' : Below (w.heap.size + 1 + 1) W0 w1 := hW1.mono (by omega))
        | (go_at_call_of 73 a'; refine (whole_at g' a' c' ys y E' E _ (by omega) (by omega) (by omega) (hy.later (F.out.bel.trans (hW1.mono (by omega)))) h').mono ?_; rintro e w2 ⟨g2, a2, c2, f2, rfl, hB2, hl2, hr2, hb2⟩; have hW2 : Below W0.heap.size W0 w2 := hW1.trans (hb2.mono hW1.size); have hW2' : Below (w.heap.size + 1 + 1) W0 w2 := hW2.mono (by omega))
        | (go_at_call 74; refine (sumOf_any g1 g2 a1 a2 c1 c2 f1 f2 _ _ _ (by omega) (by omega) (hr1.row.later hb2) hr2.row hB1 hB2).mono ?_; rintro e w3 ⟨g3, a3, c3, f3, rfl, hB3, hl3, hr3, hb3⟩; have hW3 : Below W0.heap.size W0 w3 := hW2.trans (hb3.mono hW2.size); have hW3' : Below (w.heap.size + 1 + 1) W0 w3 := hW3.mono (by omega); have F3 : Hid (Bx7 w (.bool g) (.slice a zs.length c) (.int .i64 E) (.bool g') (.slice a' ys.length c') (.int .i64 E') w3) := F.out.later hW3; have r1 := F3.out.r1; have r2 := F3.out.r2; have r3 := F3.out.r3; have r4 := F3.out.r4))
    have HB3 : Hid (B1 g3 f3 (sumAt x E y E')) := by
      unfold Hid sumAt
      rw [show min E E' = E by omega]
      exact hB3
    have HR3 : Hid (RowNew .u32 w3 (w.heap.size + 1 + 1 + 1) a3 f3) := hr3.down (by have := hW2.size; have := F.out.le; omega)
    have hl4 : f3.length ≤ zs.length + ys.length + 7503 ∧ f3.length ≤ c3 ∧ c3 ≤ maxLen := by omega
    clear hW1 hW1' hW2 hW2' hW3 hW3' hb1 hb2 hb3 hr1 hr2 hr3 hB1 hB2 hB3
    go_wp2
    refine bodyPost_ret (v := .agg #[.bool g3, .slice a3 f3.length c3, .int .i64 E]) (by simp [results, Tryd.results62, go_sem, r1, r2, r3]) rfl ?_
    have HS := SumOf.both x E y E'
    rw [show min E E' = E by omega] at HS
    have HR4 := ((HR3.out.setLow (p := ⟨w.heap.size + 1 + 1, 0, none⟩) (by simp) (.bool g3)).setLow (p := ⟨w.heap.size + 1 + 1, 1, none⟩) (by simp) (.slice a3 f3.length c3)).setLow (p := ⟨w.heap.size + 1 + 1, 2, none⟩) (by simp) (.int .i64 E)
    refine ⟨g3, a3, c3, f3, _, E, rfl, HB3.out, HS, hl4, HR4.row, .inl (HR4.far (Nat.le_refl _) (by omega)), ?_⟩
    exact ((F3.out.bel.setCell (by simp; omega) _).setCell (by simp; omega) _).setCell (by simp; omega) _
  · subst hlt
    go_enter Tryd.func62, Tryd.ntmps62
    go_wp2
    obtain ⟨W0, hW0⟩ : ∃ W0, W0 = (((w.alloc (.cells #[.bool g, .slice a zs.length c, .int .i64 E] 27)).alloc (.cells #[.bool g', .slice a' ys.length c', .int .i64 E] 27)).alloc (.cells #[.bool false, .slice none 0 0, .int .i64 0] 27)) := ⟨_, rfl⟩
    have F : Hid (Bx7 w (.bool g) (.slice a zs.length c) (.int .i64 E) (.bool g') (.slice a' ys.length c') (.int .i64 E) W0) := by unfold Hid; rw [hW0]; exact B0.out _ _ _
    rw [← hW0]
    clear hW0 B0
    have zz : w.heap.size + 1 + 1 < W0.heap.size := F.out.le
    go_region_held3 (fun w' => w'.cell? ⟨w.heap.size, 0, none⟩ = some (.bool g) ∧ w'.cell? ⟨w.heap.size, 1, none⟩ = some (.slice a zs.length c) ∧ w'.cell? ⟨w.heap.size, 2, none⟩ = some (.int .i64 E) ∧ w'.cell? ⟨w.heap.size + 1, 0, none⟩ = some (.bool g') ∧ w'.cell? ⟨w.heap.size + 1, 1, none⟩ = some (.slice a' ys.length c') ∧ w'.cell? ⟨w.heap.size + 1, 2, none⟩ = some (.int .i64 E) ∧ Below (w.heap.size + 1 + 1) W0 w')
      (first | exact F.out.held (Below.refl _ _).drew | exact F.out.held (by assumption) | exact F.out.held (Below.setCell (Below.setCell (Below.setCell (by assumption) (by simp) _) (by simp) _) (by simp) _))
      (first
        | (go_at_call_of 73 a; refine (whole_at g a c zs x E E _ (by omega) (by omega) (by omega) (hz.later F.out.bel.drew) h).mono ?_; rintro e w1 ⟨g1, a1, c1, f1, rfl, hB1, hl1, hr1, hb1⟩; have hW1 : Below W0.heap.size W0 w1 := (Below.refl _ _).drew.trans hb1; have hW1' : Below (w.heap.size + 1 + 1) W0 w1 := hW1.mono (by omega))
        | (go_at_call_of 73 a'; refine (whole_at g' a' c' ys y E E _ (by omega) (by omega) (by omega) (hy.later (F.out.bel.trans (hW1.mono (by omega)))) h').mono ?_; rintro e w2 ⟨g2, a2, c2, f2, rfl, hB2, hl2, hr2, hb2⟩; have hW2 : Below W0.heap.size W0 w2 := hW1.trans (hb2.mono hW1.size); have hW2' : Below (w.heap.size + 1 + 1) W0 w2 := hW2.mono (by omega))
        | (go_at_call 74; refine (sumOf_any g1 g2 a1 a2 c1 c2 f1 f2 _ _ _ (by omega) (by omega) (hr1.row.later hb2) hr2.row hB1 hB2).mono ?_; rintro e w3 ⟨g3, a3, c3, f3, rfl, hB3, hl3, hr3, hb3⟩; have hW3 : Below W0.heap.size W0 w3 := hW2.trans (hb3.mono hW2.size); have hW3' : Below (w.heap.size + 1 + 1) W0 w3 := hW3.mono (by omega); have F3 : Hid (Bx7 w (.bool g) (.slice a zs.length c) (.int .i64 E) (.bool g') (.slice a' ys.length c') (.int .i64 E) w3) := F.out.later hW3; have r1 := F3.out.r1; have r2 := F3.out.r2; have r3 := F3.out.r3; have r4 := F3.out.r4))
    have HB3 : Hid (B1 g3 f3 (sumAt x E y E)) := by
      unfold Hid sumAt
      rw [show min E E = E by omega]
      exact hB3
    have HR3 : Hid (RowNew .u32 w3 (w.heap.size + 1 + 1 + 1) a3 f3) := hr3.down (by have := hW2.size; have := F.out.le; omega)
    have hl4 : f3.length ≤ zs.length + ys.length + 7503 ∧ f3.length ≤ c3 ∧ c3 ≤ maxLen := by omega
    clear hW1 hW1' hW2 hW2' hW3 hW3' hb1 hb2 hb3 hr1 hr2 hr3 hB1 hB2 hB3
    go_wp2
    refine bodyPost_ret (v := .agg #[.bool g3, .slice a3 f3.length c3, .int .i64 E]) (by simp [results, Tryd.results62, go_sem, r1, r2, r3]) rfl ?_
    have HS := SumOf.both x E y E
    rw [show min E E = E by omega] at HS
    have HR4 := ((HR3.out.setLow (p := ⟨w.heap.size + 1 + 1, 0, none⟩) (by simp) (.bool g3)).setLow (p := ⟨w.heap.size + 1 + 1, 1, none⟩) (by simp) (.slice a3 f3.length c3)).setLow (p := ⟨w.heap.size + 1 + 1, 2, none⟩) (by simp) (.int .i64 E)
    refine ⟨g3, a3, c3, f3, _, E, rfl, HB3.out, HS, hl4, HR4.row, .inl (HR4.far (Nat.le_refl _) (by omega)), ?_⟩
    exact ((F3.out.bel.setCell (by simp; omega) _).setCell (by simp; omega) _).setCell (by simp; omega) _
  · have hlt2 : ¬ E < E' := by omega
    have hlt3 : ¬ E ≤ E' := by omega
    go_enter Tryd.func62, Tryd.ntmps62
    go_wp2
    obtain ⟨W0, hW0⟩ : ∃ W0, W0 = (((w.alloc (.cells #[.bool g, .slice a zs.length c, .int .i64 E] 27)).alloc (.cells #[.bool g', .slice a' ys.length c', .int .i64 E'] 27)).alloc (.cells #[.bool false, .slice none 0 0, .int .i64 0] 27)) := ⟨_, rfl⟩
    have F : Hid (Bx7 w (.bool g) (.slice a zs.length c) (.int .i64 E) (.bool g') (.slice a' ys.length c') (.int .i64 E') W0) := by unfold Hid; rw [hW0]; exact B0.out _ _ _
    rw [← hW0]
    clear hW0 B0
    have zz : w.heap.size + 1 + 1 < W0.heap.size := F.out.le
    go_region_held3 (fun w' => w'.cell? ⟨w.heap.size, 0, none⟩ = some (.bool g) ∧ w'.cell? ⟨w.heap.size, 1, none⟩ = some (.slice a zs.length c) ∧ w'.cell? ⟨w.heap.size, 2, none⟩ = some (.int .i64 E) ∧ w'.cell? ⟨w.heap.size + 1, 0, none⟩ = some (.bool g') ∧ w'.cell? ⟨w.heap.size + 1, 1, none⟩ = some (.slice a' ys.length c') ∧ w'.cell? ⟨w.heap.size + 1, 2, none⟩ = some (.int .i64 E') ∧ Below (w.heap.size + 1 + 1) W0 w')
      (first | exact F.out.held (Below.refl _ _).drew | exact F.out.held (by assumption) | exact F.out.held (Below.setCell (Below.setCell (Below.setCell (by assumption) (by simp) _) (by simp) _) (by simp) _))
      (first
        | (go_at_call_of 73 a; refine (whole_at g a c zs x E E' _ (by omega) (by omega) (by omega) (hz.later F.out.bel.drew) h).mono ?_; rintro e w1 ⟨g1, a1, c1, f1, rfl, hB1, hl1, hr1, hb1⟩; have hW1 : Below W0.heap.size W0 w1 := (Below.refl _ _).drew.trans hb1; have hW1' : Below (w.heap.size + 1 + 1) W0 w1 := hW1.mono (by omega))
        | (go_at_call_of 73 a'; refine (whole_at g' a' c' ys y E' E' _ (by omega) (by omega) (by omega) (hy.later (F.out.bel.trans (hW1.mono (by omega)))) h').mono ?_; rintro e w2 ⟨g2, a2, c2, f2, rfl, hB2, hl2, hr2, hb2⟩; have hW2 : Below W0.heap.size W0 w2 := hW1.trans (hb2.mono hW1.size); have hW2' : Below (w.heap.size + 1 + 1) W0 w2 := hW2.mono (by omega))
        | (go_at_call 74; refine (sumOf_any g1 g2 a1 a2 c1 c2 f1 f2 _ _ _ (by omega) (by omega) (hr1.row.later hb2) hr2.row hB1 hB2).mono ?_; rintro e w3 ⟨g3, a3, c3, f3, rfl, hB3, hl3, hr3, hb3⟩; have hW3 : Below W0.heap.size W0 w3 := hW2.trans (hb3.mono hW2.size); have hW3' : Below (w.heap.size + 1 + 1) W0 w3 := hW3.mono (by omega); have F3 : Hid (Bx7 w (.bool g) (.slice a zs.length c) (.int .i64 E) (.bool g') (.slice a' ys.length c') (.int .i64 E') w3) := F.out.later hW3; have r1 := F3.out.r1; have r2 := F3.out.r2; have r3 := F3.out.r3; have r4 := F3.out.r4))
    have HB3 : Hid (B1 g3 f3 (sumAt x E y E')) := by
      unfold Hid sumAt
      rw [show min E E' = E' by omega]
      exact hB3
    have HR3 : Hid (RowNew .u32 w3 (w.heap.size + 1 + 1 + 1) a3 f3) := hr3.down (by have := hW2.size; have := F.out.le; omega)
    have hl4 : f3.length ≤ zs.length + ys.length + 7503 ∧ f3.length ≤ c3 ∧ c3 ≤ maxLen := by omega
    clear hW1 hW1' hW2 hW2' hW3 hW3' hb1 hb2 hb3 hr1 hr2 hr3 hB1 hB2 hB3
    go_wp2
    refine bodyPost_ret (v := .agg #[.bool g3, .slice a3 f3.length c3, .int .i64 E']) (by simp [results, Tryd.results62, go_sem, r1, r2, r3]) rfl ?_
    have HS := SumOf.both x E y E'
    rw [show min E E' = E' by omega] at HS
    have HR4 := ((HR3.out.setLow (p := ⟨w.heap.size + 1 + 1, 0, none⟩) (by simp) (.bool g3)).setLow (p := ⟨w.heap.size + 1 + 1, 1, none⟩) (by simp) (.slice a3 f3.length c3)).setLow (p := ⟨w.heap.size + 1 + 1, 2, none⟩) (by simp) (.int .i64 E')
    refine ⟨g3, a3, c3, f3, _, E', rfl, HB3.out, HS, hl4, HR4.row, .inl (HR4.far (Nat.le_refl _) (by omega)), ?_⟩
    exact ((F3.out.bel.setCell (by simp; omega) _).setCell (by simp; omega) _).setCell (by simp; omega) _

theorem plusD_any (g g' : Bool) (a a' : Option Addr) (c c' : Nat) (zs ys : List Int) (x y E E' : Int) (w : World) (hn : zs.length ≤ 60000) (hn' : ys.length ≤ 60000) (he : E - E' ≤ 120000) (he' : E' - E ≤ 120000) (hz : RowAt .u32 w a zs) (hy : RowAt .u32 w a' ys) (h : B1 g zs x) (h' : B1 g' ys y) (k1 : zs.length ≤ c ∧ c ≤ maxLen) (k2 : ys.length ≤ c' ∧ c' ≤ maxLen) :
    Calls Tryd.prog 62 #[.agg #[.bool g, .slice a zs.length c, .int .i64 E], .agg #[.bool g', .slice a' ys.length c', .int .i64 E']] w fun e w' => PlusOut w a a' zs ys x E y E' (zs.length + ys.length + 7503) e w' := by
  by_cases h0 : zs.length = 0 ∨ ys.length = 0
  · refine (plusD_zero g g' a a' c c' zs ys x y E E' w hz hy h h' h0 k1 k2).mono ?_
    rintro e w' ⟨G, b, c, fs, m, e', h1, h2, h3, h4, h5⟩
    exact ⟨G, b, c, fs, m, e', h1, h2, h3, by omega, h5⟩
  · exact plusD_ok g g' a a' c c' zs ys x y E E' w hn hn' he he' hz hy h h' (by omega) (by omega)

end Go.Proofs.YtladfpljnaippaaDoor
