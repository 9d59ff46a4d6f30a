/-
  The model's sums of numbers of two signs; differences, signs, order.
-/
import Derived.Test.YtladfpljnaippabDoorSpecG
namespace Go.Proofs.YtladfpljnaippabDoor
open Go.RowKit

/-- The boxes of two arguments and of the answer, in whatever later world. -/
structure AddF (w : World) (g g' : Bool) (v v' z : Value) (W : World) : Prop where
  s : AddS w g g' v v' W W
  r1 : W.cell? ⟨w.heap.size + 1 + 1, 0, none⟩ = some (.bool false)
  r2 : W.cell? ⟨w.heap.size + 1 + 1, 1, none⟩ = some z
  r3 : ∀ j, W.frozen? ⟨w.heap.size + 1 + 1, j, none⟩ = false
  le : w.heap.size + 1 + 1 + 1 ≤ W.heap.size
  bel : Below w.heap.size w W

theorem AddF.start (w : World) (g g' : Bool) (v v' z : Value) (t t' t2 : TypeId) : AddF w g g' v v' z (((w.alloc (.cells #[.bool g, v] t)).alloc (.cells #[.bool g', v'] t')).alloc (.cells #[.bool false, z] t2)) := by
  obtain ⟨h1, h2, h3, h4, h5, h6⟩ := addF w g g' v v' z t t' t2 _ rfl
  exact ⟨h1, h2, h3, h4, by omega, h6⟩

theorem AddF.later {w : World} {g g' : Bool} {v v' z : Value} {W W' : World} (h : AddF w g g' v v' z W) (hb : Below W.heap.size W W') : AddF w g g' v v' z W' := by
  have hle := h.le
  obtain ⟨a1, a2, a3, a4, _⟩ := addS_of h.s (hb.mono (by omega))
  exact ⟨⟨a1, a2, a3, a4, Below.refl _ _⟩, (hb.cell (by simp; omega)).trans h.r1, (hb.cell (by simp; omega)).trans h.r2, fun j => (hb.frozen (by simp; omega)).trans (h.r3 j), Nat.le_trans h.le hb.size, h.bel.trans (hb.mono (by omega))⟩

theorem cmpL_ge {B : Int} (hB : 0 < B) {xs ys : List Int} (hx : Canon B xs) (hy : Canon B ys) (h : 0 ≤ cmpL xs ys) : ys.length ≤ xs.length ∧ val B ys ≤ val B xs := by
  have hc := cmpL_val hB hx hy
  constructor
  · by_cases hl : xs.length < ys.length
    · unfold cmpL at h
      rw [if_neg (by omega), if_pos hl] at h
      omega
    · omega
  · rcases sgn_cases (val B xs - val B ys) with ⟨h1, h2⟩ | ⟨h1, h2⟩ | ⟨h1, h2⟩
    · omega
    · omega
    · omega

theorem cmpL_lt {B : Int} (hB : 0 < B) {xs ys : List Int} (hx : Canon B xs) (hy : Canon B ys) (h : cmpL xs ys < 0) : xs.length ≤ ys.length ∧ val B xs ≤ val B ys := by
  have hc := cmpL_val hB hx hy
  constructor
  · by_cases hl : ys.length < xs.length
    · unfold cmpL at h
      rw [if_neg (by omega), if_neg (by omega)] at h
      omega
    · omega
  · rcases sgn_cases (val B xs - val B ys) with ⟨h1, h2⟩ | ⟨h1, h2⟩ | ⟨h1, h2⟩
    · omega
    · omega
    · omega

set_option maxHeartbeats 4000000 in
theorem add_ge (g g' : Bool) (hg : g' = !g) (a a' : Option Addr) (c c' : Nat) (ds es : List Int) (x y : Int) (w : World) (hn : ds.length ≤ 100000) (hn' : es.length ≤ 100000) (h : L1 w g a c ds x) (h' : L1 w g' a' c' es y) (hcmp : 0 ≤ cmpL ds es) :
    Calls Tryd.prog 64 #[.agg #[.bool g, .slice a ds.length c], .agg #[.bool g', .slice a' es.length c']] w fun e w' => ∃ g2 a2 c2 fs, e = .returned (.agg #[.bool g2, .slice a2 fs.length c2]) ∧ fs.length ≤ ds.length + es.length + 1 ∧ L1 w' g2 a2 c2 fs (x + y) ∧ Far w.heap.size a2 fs ∧ Below w.heap.size w w' := by
  have HX : Hid (sg g (val 65536 (carryD 65536 (diffsL ds es) 0)) = x + y) := by
    unfold Hid
    obtain ⟨hl, hv⟩ := cmpL_ge (B := 65536) (by decide) h.can h'.can hcmp
    rw [val_sub (by decide) h.can.1 h'.can.1 hl hv, h.num, h'.num, hg]
    cases g <;> simp [sg] <;> omega
  have hlen : (carryD 65536 (diffsL ds es) 0).length ≤ ds.length := by rw [carryD_length, diffs_length]; omega
  have hgg : (g == g') = false := by rw [hg]; cases g <;> rfl
  obtain ⟨cv, hcv⟩ : ∃ cv, cv = cmpL ds es := ⟨_, rfl⟩
  have hcmp' : 0 ≤ cv := by omega
  have HC : Hid (cv = cmpL ds es) := hcv
  clear hcv hcmp hg
  go_enter Tryd.func64, Tryd.ntmps64
  go_wp2_with fail
  refine (cmpMag_any a a' c c' ds es _ (by omega) (by omega) (h.sl.row.later (bel3 _ _ _ _)) (h'.sl.row.later (bel3 _ _ _ _))).mono ?_
  rintro e W0 ⟨rfl, hb0⟩
  rw [← HC.out]
  have F : Hid (AddF w g g' (.slice a ds.length c) (.slice a' es.length c') (.slice none 0 0) W0) := (AddF.start w g g' _ _ _ _ _ _).later hb0
  clear hb0
  go_wp2
  go_region_held3 (fun w' => w'.cell? ⟨w.heap.size, 0, none⟩ = some (.bool g) ∧ w'.cell? ⟨w.heap.size, 1, none⟩ = some (.slice a ds.length c) ∧ w'.cell? ⟨w.heap.size + 1, 0, none⟩ = some (.bool g') ∧ w'.cell? ⟨w.heap.size + 1, 1, none⟩ = some (.slice a' es.length c') ∧ Below (w.heap.size + 1 + 1) W0 w')
    (first | exact addS_of F.out.s (Below.refl _ _).drew | exact addS_of F.out.s (by assumption) | exact addS_of F.out.s (Below.setCell (Below.setCell (by assumption) (by simp) _) (by simp) _))
    (first
      | (go_at_call 98; refine (subMag_any a a' c c' ds es _ (by omega) (by omega) (h.sl.row.later F.out.bel.drew) (h'.sl.row.later F.out.bel.drew) h.can.1 h'.can.1).mono ?_; rintro e w1 ⟨a2, c2, rfl, hcm, hsl1, hrn1, hb1⟩; have hB1 : Below W0.heap.size W0 w1 := (Below.refl _ _).drew.trans hb1; have hB1' : Below (w.heap.size + 1 + 1) W0 w1 := hB1.mono (by have := F.out.le; omega))
      | (go_at_call 60; refine (make_any g a2 c2 _ _ (by omega) hcm hsl1 (dig_carryD (by decide) _ _)).mono ?_; rintro e w2 ⟨g2, fs, rfl, hfl, hL2, hb2⟩; have hB2 : Below W0.heap.size W0 w2 := hB1.trans (hb2.mono hB1.size); have hB2' : Below (w.heap.size + 1 + 1) W0 w2 := hB2.mono (by have := F.out.le; omega); have F2 : Hid (AddF w g g' (.slice a ds.length c) (.slice a' es.length c') (.slice none 0 0) w2) := F.out.later hB2; have r1 := F2.out.r1; have r2 := F2.out.r2; have r3 := F2.out.r3))
  have HR : Hid (RowNew .i64 w1 W0.heap.size a2 (carryD 65536 (diffsL ds es) 0)) := hrn1
  have HL : Hid (L1 w2 g2 a2 c2 fs (sg g (val 65536 (carryD 65536 (diffsL ds es) 0)))) := hL2
  clear hrn1 hL2 hB1 hB1' hB2 hB2' hb1 hb2 hsl1
  go_wp2
  refine bodyPost_ret (v := .agg #[.bool g2, .slice a2 fs.length c2]) (by simp [results, Tryd.results64, go_sem, r1, r2]) rfl ⟨g2, a2, c2, fs, rfl, by omega, ?_, HR.out.far hfl (by have := F.out.le; omega), ?_⟩
  · rw [← HX.out]
    have hle := F.out.le
    exact (HL.out.setLow HR.out hfl (by simp; omega) _).setLow HR.out hfl (by simp; omega) _
  · exact (F2.out.bel.setCell (by simp; omega) _).setCell (by simp; omega) _

set_option maxHeartbeats 4000000 in
theorem add_lt (g g' : Bool) (hg : g' = !g) (a a' : Option Addr) (c c' : Nat) (ds es : List Int) (x y : Int) (w : World) (hn : ds.length ≤ 100000) (hn' : es.length ≤ 100000) (h : L1 w g a c ds x) (h' : L1 w g' a' c' es y) (hcmp : cmpL ds es < 0) :
    Calls Tryd.prog 64 #[.agg #[.bool g, .slice a ds.length c], .agg #[.bool g', .slice a' es.length c']] w fun e w' => ∃ g2 a2 c2 fs, e = .returned (.agg #[.bool g2, .slice a2 fs.length c2]) ∧ fs.length ≤ ds.length + es.length + 1 ∧ L1 w' g2 a2 c2 fs (x + y) ∧ Far w.heap.size a2 fs ∧ Below w.heap.size w w' := by
  have HX : Hid (sg g' (val 65536 (carryD 65536 (diffsL es ds) 0)) = x + y) := by
    unfold Hid
    obtain ⟨hl, hv⟩ := cmpL_lt (B := 65536) (by decide) h.can h'.can hcmp
    rw [val_sub (by decide) h'.can.1 h.can.1 hl hv, h.num, h'.num, hg]
    cases g <;> simp [sg] <;> omega
  have hlen : (carryD 65536 (diffsL es ds) 0).length ≤ es.length := by rw [carryD_length, diffs_length]; omega
  have hgg : (g == g') = false := by rw [hg]; cases g <;> rfl
  obtain ⟨cv, hcv⟩ : ∃ cv, cv = cmpL ds es := ⟨_, rfl⟩
  have hcmp' : cv < 0 := by omega
  have HC : Hid (cv = cmpL ds es) := hcv
  clear hcv hcmp hg
  go_enter Tryd.func64, Tryd.ntmps64
  go_wp2_with fail
  refine (cmpMag_any a a' c c' ds es _ (by omega) (by omega) (h.sl.row.later (bel3 _ _ _ _)) (h'.sl.row.later (bel3 _ _ _ _))).mono ?_
  rintro e W0 ⟨rfl, hb0⟩
  rw [← HC.out]
  have F : Hid (AddF w g g' (.slice a ds.length c) (.slice a' es.length c') (.slice none 0 0) W0) := (AddF.start w g g' _ _ _ _ _ _).later hb0
  clear hb0
  go_wp2
  go_region_held3 (fun w' => w'.cell? ⟨w.heap.size, 0, none⟩ = some (.bool g) ∧ w'.cell? ⟨w.heap.size, 1, none⟩ = some (.slice a ds.length c) ∧ w'.cell? ⟨w.heap.size + 1, 0, none⟩ = some (.bool g') ∧ w'.cell? ⟨w.heap.size + 1, 1, none⟩ = some (.slice a' es.length c') ∧ Below (w.heap.size + 1 + 1) W0 w')
    (first | exact addS_of F.out.s (Below.refl _ _).drew | exact addS_of F.out.s (by assumption) | exact addS_of F.out.s (Below.setCell (Below.setCell (by assumption) (by simp) _) (by simp) _))
    (first
      | (go_at_call 98; refine (subMag_any a' a c' c es ds _ (by omega) (by omega) (h'.sl.row.later F.out.bel.drew) (h.sl.row.later F.out.bel.drew) h'.can.1 h.can.1).mono ?_; rintro e w1 ⟨a2, c2, rfl, hcm, hsl1, hrn1, hb1⟩; have hB1 : Below W0.heap.size W0 w1 := (Below.refl _ _).drew.trans hb1; have hB1' : Below (w.heap.size + 1 + 1) W0 w1 := hB1.mono (by have := F.out.le; omega))
      | (go_at_call 60; refine (make_any g' a2 c2 _ _ (by omega) hcm hsl1 (dig_carryD (by decide) _ _)).mono ?_; rintro e w2 ⟨g2, fs, rfl, hfl, hL2, hb2⟩; have hB2 : Below W0.heap.size W0 w2 := hB1.trans (hb2.mono hB1.size); have hB2' : Below (w.heap.size + 1 + 1) W0 w2 := hB2.mono (by have := F.out.le; omega); have F2 : Hid (AddF w g g' (.slice a ds.length c) (.slice a' es.length c') (.slice none 0 0) w2) := F.out.later hB2; have r1 := F2.out.r1; have r2 := F2.out.r2; have r3 := F2.out.r3))
  have HR : Hid (RowNew .i64 w1 W0.heap.size a2 (carryD 65536 (diffsL es ds) 0)) := hrn1
  have HL : Hid (L1 w2 g2 a2 c2 fs (sg g' (val 65536 (carryD 65536 (diffsL es ds) 0)))) := hL2
  clear hrn1 hL2 hB1 hB1' hB2 hB2' hb1 hb2 hsl1
  go_wp2
  refine bodyPost_ret (v := .agg #[.bool g2, .slice a2 fs.length c2]) (by simp [results, Tryd.results64, go_sem, r1, r2]) rfl ⟨g2, a2, c2, fs, rfl, by omega, ?_, HR.out.far hfl (by have := F.out.le; omega), ?_⟩
  · rw [← HX.out]
    have hle := F.out.le
    exact (HL.out.setLow HR.out hfl (by simp; omega) _).setLow HR.out hfl (by simp; omega) _
  · exact (F2.out.bel.setCell (by simp; omega) _).setCell (by simp; omega) _

theorem add_any (g g' : Bool) (a a' : Option Addr) (c c' : Nat) (ds es : List Int) (x y : Int) (w : World) (hn : ds.length ≤ 100000) (hn' : es.length ≤ 100000) (h : L1 w g a c ds x) (h' : L1 w g' a' c' es y) :
    Calls Tryd.prog 64 #[.agg #[.bool g, .slice a ds.length c], .agg #[.bool g', .slice a' es.length c']] w fun e w' => ∃ g2 a2 c2 fs, e = .returned (.agg #[.bool g2, .slice a2 fs.length c2]) ∧ fs.length ≤ ds.length + es.length + 1 ∧ L1 w' g2 a2 c2 fs (x + y) ∧ Far w.heap.size a2 fs ∧ Below w.heap.size w w' := by
  by_cases hg : g = g'
  · subst hg
    exact add_same g a a' c c' ds es x y w hn hn' h h'
  · have hg' : g' = !g := by cases g <;> cases g' <;> simp_all
    by_cases hc : 0 ≤ cmpL ds es
    · exact add_ge g g' hg' a a' c c' ds es x y w hn hn' h h' hc
    · exact add_lt g g' hg' a a' c c' ds es x y w hn hn' h h' (by omega)

end Go.Proofs.YtladfpljnaippabDoor
