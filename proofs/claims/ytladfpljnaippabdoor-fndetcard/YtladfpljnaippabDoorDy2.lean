/-
  The model's sums of dyadic numbers.
-/
import Derived.Test.YtladfpljnaippabDoorDy1h
namespace Go.Proofs.YtladfpljnaippabDoor
open Go.RowKit

/-- The boxes of two l2dy and of the answer, in whatever later world. -/
structure Bx7 (w : World) (u v e u' v' e' : Value) (W : World) : Prop where
  q0 : W.cell? ⟨w.heap.size, 0, none⟩ = some u
  q1 : W.cell? ⟨w.heap.size, 1, none⟩ = some v
  q2 : W.cell? ⟨w.heap.size, 2, none⟩ = some e
  p0 : W.cell? ⟨w.heap.size + 1, 0, none⟩ = some u'
  p1 : W.cell? ⟨w.heap.size + 1, 1, none⟩ = some v'
  p2 : W.cell? ⟨w.heap.size + 1, 2, none⟩ = some e'
  r1 : W.cell? ⟨w.heap.size + 1 + 1, 0, none⟩ = some (.bool false)
  r2 : W.cell? ⟨w.heap.size + 1 + 1, 1, none⟩ = some (.slice none 0 0)
  r3 : W.cell? ⟨w.heap.size + 1 + 1, 2, none⟩ = some (.int .i64 0)
  r4 : ∀ j, W.frozen? ⟨w.heap.size + 1 + 1, j, none⟩ = false
  le : w.heap.size + 1 + 1 + 1 ≤ W.heap.size
  bel : Below w.heap.size w W

theorem Bx7.start (w : World) (u v e u' v' e' : Value) (t t' t2 : TypeId) : Bx7 w u v e u' v' e' (((w.alloc (.cells #[u, v, e] t)).alloc (.cells #[u', v', e'] t')).alloc (.cells #[.bool false, .slice none 0 0, .int .i64 0] t2)) := by
  refine ⟨?_, ?_, ?_, ?_, ?_, ?_, ?_, ?_, ?_, ?_, ?_, bel3 _ _ _ _⟩
  all_goals simp [go_sem]

theorem Bx7.later {w : World} {u v e u' v' e' : Value} {W W' : World} (h : Bx7 w u v e u' v' e' W) (hb : Below W.heap.size W W') : Bx7 w u v e u' v' e' W' := by
  have hl := h.le
  exact ⟨(hb.cell (by simp; omega)).trans h.q0, (hb.cell (by simp; omega)).trans h.q1, (hb.cell (by simp; omega)).trans h.q2, (hb.cell (by simp; omega)).trans h.p0, (hb.cell (by simp; omega)).trans h.p1, (hb.cell (by simp; omega)).trans h.p2,
    (hb.cell (by simp; omega)).trans h.r1, (hb.cell (by simp; omega)).trans h.r2, (hb.cell (by simp; omega)).trans h.r3, fun j => (hb.frozen (by simp; omega)).trans (h.r4 j), Nat.le_trans h.le hb.size, h.bel.trans (hb.mono (by omega))⟩

theorem Bx7.held {w : World} {u v e u' v' e' : Value} {W W' : World} (h : Bx7 w u v e u' v' e' W) (hb : Below (w.heap.size + 1 + 1) W W') : W'.cell? ⟨w.heap.size, 0, none⟩ = some u ∧ W'.cell? ⟨w.heap.size, 1, none⟩ = some v ∧ W'.cell? ⟨w.heap.size, 2, none⟩ = some e ∧ W'.cell? ⟨w.heap.size + 1, 0, none⟩ = some u' ∧ W'.cell? ⟨w.heap.size + 1, 1, none⟩ = some v' ∧ W'.cell? ⟨w.heap.size + 1, 2, none⟩ = some e' ∧ Below (w.heap.size + 1 + 1) W W' :=
  ⟨(hb.cell (by simp; omega)).trans h.q0, (hb.cell (by simp; omega)).trans h.q1, (hb.cell (by simp; omega)).trans h.q2, (hb.cell (by simp)).trans h.p0, (hb.cell (by simp)).trans h.p1, (hb.cell (by simp)).trans h.p2, hb⟩

theorem wrap64_id {n : Int} (h0 : -9223372036854775808 ≤ n) (h1 : n ≤ 9223372036854775807) : IntKind.i64.wrap n = n := by
  simp [IntKind.wrap, IntKind.bits, IntKind.signed]
  omega

set_option maxRecDepth 100000 in
set_option maxHeartbeats 4000000 in
theorem add2_ge (g g' : Bool) (a a' : Option Addr) (c c' : Nat) (ds es : List Int) (m m' E' n : Int) (w : World) (hn : ds.length ≤ 20000) (hn' : es.length ≤ 90000) (n0 : 0 ≤ n) (n1 : n ≤ 200000) (h : L1 w g a c ds m) (h' : L1 w g' a' c' es m') :
    Calls Tryd.prog 58 #[.agg #[.bool g, .slice a ds.length c, .int .i64 (E' + n)], .agg #[.bool g', .slice a' es.length c', .int .i64 E']] w fun e w' => L2Out w (ds.length + es.length + 12502) (m * 2 ^ n.toNat + m') E' e w' := by
  have B0 : Hid (∀ t t' t2, Bx7 w (.bool g) (.slice a ds.length c) (.int .i64 (E' + n)) (.bool g') (.slice a' es.length c') (.int .i64 E') (((w.alloc (.cells #[.bool g, .slice a ds.length c, .int .i64 (E' + n)] t)).alloc (.cells #[.bool g', .slice a' es.length c', .int .i64 E'] t')).alloc (.cells #[.bool false, .slice none 0 0, .int .i64 0] t2))) := fun t t' t2 => Bx7.start w _ _ _ _ _ _ _ _ _
  have hlt : ¬ E' + n < E' := by omega
  have hsub : E' + n - E' = n := by omega
  have HW : Hid (IntKind.i64.wrap n = n) := wrap64_id (by omega) (by omega)
  go_enter Tryd.func58, Tryd.ntmps58
  go_wp2
  obtain ⟨W0, hW0⟩ : ∃ W0, W0 = (((w.alloc (.cells #[.bool g, .slice a ds.length c, .int .i64 (E' + n)] 66)).alloc (.cells #[.bool g', .slice a' es.length c', .int .i64 E'] 66)).alloc (.cells #[.bool false, .slice none 0 0, .int .i64 0] 66)) := ⟨_, rfl⟩
  have F : Hid (Bx7 w (.bool g) (.slice a ds.length c) (.int .i64 (E' + n)) (.bool g') (.slice a' es.length c') (.int .i64 E') W0) := by unfold Hid; rw [hW0]; exact B0.out _ _ _
  rw [← hW0]
  clear hW0 B0
  have zz : w.heap.size + 1 + 1 < W0.heap.size := F.out.le
  go_region_held3 (fun w' => w'.cell? ⟨w.heap.size, 0, none⟩ = some (.bool g) ∧ w'.cell? ⟨w.heap.size, 1, none⟩ = some (.slice a ds.length c) ∧ w'.cell? ⟨w.heap.size, 2, none⟩ = some (.int .i64 (E' + n)) ∧ w'.cell? ⟨w.heap.size + 1, 0, none⟩ = some (.bool g') ∧ w'.cell? ⟨w.heap.size + 1, 1, none⟩ = some (.slice a' es.length c') ∧ w'.cell? ⟨w.heap.size + 1, 2, none⟩ = some (.int .i64 E') ∧ Below (w.heap.size + 1 + 1) W0 w')
    (first | exact F.out.held (Below.refl _ _).drew | exact F.out.held (by assumption) | exact F.out.held (Below.setCell (Below.setCell (Below.setCell (by assumption) (by simp) _) (by simp) _) (by simp) _))
    (first
      | (go_at_call 61; rw [HW.out]; refine (up_any g a c ds m n _ (by omega) n0 (by omega) (h.later F.out.bel.drew)).mono ?_; rintro e w1 ⟨g1, a1, c1, fs, rfl, hl1, hL1, hF1, hb1⟩; have hB1 : Below W0.heap.size W0 w1 := (Below.refl _ _).drew.trans hb1; have hB1' : Below (w.heap.size + 1 + 1) W0 w1 := hB1.mono (by omega))
      | (go_at_call 64; refine (add_any g1 g' a1 a' c1 c' fs es _ m' _ (by omega) (by omega) hL1 (h'.later (F.out.bel.trans (hB1.mono (by omega))))).mono ?_; rintro e w2 ⟨g2, a2, c2, f2, rfl, hl2, hL2, hF2, hb2⟩; have hB2 : Below W0.heap.size W0 w2 := hB1.trans (hb2.mono hB1.size); have hB2' : Below (w.heap.size + 1 + 1) W0 w2 := hB2.mono (by omega); have F2 : Hid (Bx7 w (.bool g) (.slice a ds.length c) (.int .i64 (E' + n)) (.bool g') (.slice a' es.length c') (.int .i64 E') w2) := F.out.later hB2; have r1 := F2.out.r1; have r2 := F2.out.r2; have r3 := F2.out.r3; have r4 := F2.out.r4))
  have HL2 : Hid (L1 w2 g2 a2 c2 f2 (m * 2 ^ n.toNat + m')) := hL2
  have HF2 : Hid (Far (w.heap.size + 1 + 1 + 1) a2 f2) := hF2.down (by have := hB1.size; have := F.out.le; omega)
  clear hL2 hF2 hB1 hB1' hB2 hB2' hb1 hb2 hL1 hF1
  go_wp2
  refine bodyPost_ret (v := .agg #[.bool g2, .slice a2 f2.length c2, .int .i64 E']) (by simp [results, Tryd.results58, go_sem, r1, r2, r3]) rfl ?_
  refine ⟨g2, a2, c2, f2, rfl, by omega, ?_, HF2.out.down (by omega), ?_⟩
  · exact ((HL2.out.setFar HF2.out (by simp) _).setFar HF2.out (by simp) _).setFar HF2.out (by simp) _
  · exact ((F2.out.bel.setCell (by simp; omega) _).setCell (by simp; omega) _).setCell (by simp; omega) _

set_option maxRecDepth 100000 in
set_option maxHeartbeats 4000000 in
theorem add2_lt (g g' : Bool) (a a' : Option Addr) (c c' : Nat) (ds es : List Int) (m m' E' n : Int) (w : World) (hn : ds.length ≤ 20000) (hn' : es.length ≤ 90000) (n0 : 0 < n) (n1 : n ≤ 200000) (h : L1 w g a c ds m) (h' : L1 w g' a' c' es m') :
    Calls Tryd.prog 58 #[.agg #[.bool g', .slice a' es.length c', .int .i64 E'], .agg #[.bool g, .slice a ds.length c, .int .i64 (E' + n)]] w fun e w' => L2Out w (ds.length + es.length + 12502) (m * 2 ^ n.toNat + m') E' e w' := by
  have B0 : Hid (∀ t t' t2, Bx7 w (.bool g) (.slice a ds.length c) (.int .i64 (E' + n)) (.bool g') (.slice a' es.length c') (.int .i64 E') (((w.alloc (.cells #[.bool g, .slice a ds.length c, .int .i64 (E' + n)] t)).alloc (.cells #[.bool g', .slice a' es.length c', .int .i64 E'] t')).alloc (.cells #[.bool false, .slice none 0 0, .int .i64 0] t2))) := fun t t' t2 => Bx7.start w _ _ _ _ _ _ _ _ _
  have hlt : E' < E' + n := by omega
  have hsub : E' + n - E' = n := by omega
  have HW : Hid (IntKind.i64.wrap n = n) := wrap64_id (by omega) (by omega)
  go_enter Tryd.func58, Tryd.ntmps58
  go_wp2
  obtain ⟨W0, hW0⟩ : ∃ W0, W0 = ((((w.alloc (.cells #[.bool g, .slice a ds.length c, .int .i64 (E' + n)] 66)).alloc (.cells #[.bool g', .slice a' es.length c', .int .i64 E'] 66)).alloc (.cells #[.bool false, .slice none 0 0, .int .i64 0] 66)).alloc (.cells #[.bool g', .slice a' es.length c', .int .i64 E'] 66)) := ⟨_, rfl⟩
  have F : Hid (Bx7 w (.bool g) (.slice a ds.length c) (.int .i64 (E' + n)) (.bool g') (.slice a' es.length c') (.int .i64 E') W0) := by unfold Hid; rw [hW0]; exact (B0.out _ _ _).later (bel0 _ _)
  rw [← hW0]
  clear hW0 B0
  have zz : w.heap.size + 1 + 1 < W0.heap.size := F.out.le
  go_region_held3 (fun w' => w'.cell? ⟨w.heap.size, 0, none⟩ = some (.bool g) ∧ w'.cell? ⟨w.heap.size, 1, none⟩ = some (.slice a ds.length c) ∧ w'.cell? ⟨w.heap.size, 2, none⟩ = some (.int .i64 (E' + n)) ∧ w'.cell? ⟨w.heap.size + 1, 0, none⟩ = some (.bool g') ∧ w'.cell? ⟨w.heap.size + 1, 1, none⟩ = some (.slice a' es.length c') ∧ w'.cell? ⟨w.heap.size + 1, 2, none⟩ = some (.int .i64 E') ∧ Below (w.heap.size + 1 + 1) W0 w')
    (first | exact F.out.held (Below.refl _ _).drew | exact F.out.held (by assumption) | exact F.out.held (Below.setCell (Below.setCell (Below.setCell (by assumption) (by simp) _) (by simp) _) (by simp) _))
    (first
      | (go_at_call 61; rw [HW.out]; refine (up_any g a c ds m n _ (by omega) (by omega) (by omega) (h.later F.out.bel.drew)).mono ?_; rintro e w1 ⟨g1, a1, c1, fs, rfl, hl1, hL1, hF1, hb1⟩; have hB1 : Below W0.heap.size W0 w1 := (Below.refl _ _).drew.trans hb1; have hB1' : Below (w.heap.size + 1 + 1) W0 w1 := hB1.mono (by omega))
      | (go_at_call 64; refine (add_any g1 g' a1 a' c1 c' fs es _ m' _ (by omega) (by omega) hL1 (h'.later (F.out.bel.trans (hB1.mono (by omega))))).mono ?_; rintro e w2 ⟨g2, a2, c2, f2, rfl, hl2, hL2, hF2, hb2⟩; have hB2 : Below W0.heap.size W0 w2 := hB1.trans (hb2.mono hB1.size); have hB2' : Below (w.heap.size + 1 + 1) W0 w2 := hB2.mono (by omega); have F2 : Hid (Bx7 w (.bool g) (.slice a ds.length c) (.int .i64 (E' + n)) (.bool g') (.slice a' es.length c') (.int .i64 E') w2) := F.out.later hB2; have r1 := F2.out.r1; have r2 := F2.out.r2; have r3 := F2.out.r3; have r4 := F2.out.r4))
  have HL2 : Hid (L1 w2 g2 a2 c2 f2 (m * 2 ^ n.toNat + m')) := hL2
  have HF2 : Hid (Far (w.heap.size + 1 + 1 + 1) a2 f2) := hF2.down (by have := hB1.size; have := F.out.le; omega)
  clear hL2 hF2 hB1 hB1' hB2 hB2' hb1 hb2 hL1 hF1
  go_wp2
  refine bodyPost_ret (v := .agg #[.bool g2, .slice a2 f2.length c2, .int .i64 E']) (by simp [results, Tryd.results58, go_sem, r1, r2, r3]) rfl ?_
  refine ⟨g2, a2, c2, f2, rfl, by omega, ?_, HF2.out.down (by omega), ?_⟩
  · exact ((HL2.out.setFar HF2.out (by simp) _).setFar HF2.out (by simp) _).setFar HF2.out (by simp) _
  · exact ((F2.out.bel.setCell (by simp; omega) _).setCell (by simp; omega) _).setCell (by simp; omega) _

/-- m1 * 2^e1 + m2 * 2^e2 at the lower of the two exponents. -/
def sumAt (m1 e1 m2 e2 : Int) : Int := m1 * 2 ^ (e1 - min e1 e2).toNat + m2 * 2 ^ (e2 - min e1 e2).toNat

theorem add2_any (g g' : Bool) (a a' : Option Addr) (c c' : Nat) (ds es : List Int) (m m' E E' : Int) (w : World) (hn : ds.length ≤ 20000) (hn' : es.length ≤ 20000) (he : E - E' ≤ 200000) (he' : E' - E ≤ 200000) (h : L1 w g a c ds m) (h' : L1 w g' a' c' es m') :
    Calls Tryd.prog 58 #[.agg #[.bool g, .slice a ds.length c, .int .i64 E], .agg #[.bool g', .slice a' es.length c', .int .i64 E']] w fun e w' => L2Out w (ds.length + es.length + 12502) (sumAt m E m' E') (min E E') e w' := by
  by_cases hh : E' ≤ E
  · have := add2_ge g g' a a' c c' ds es m m' E' (E - E') w hn (by omega) (by omega) (by omega) h h'
    rw [show E' + (E - E') = E by omega] at this
    unfold sumAt
    rw [show min E E' = E' by omega, show E' - E' = 0 by omega]
    simpa using this
  · have := add2_lt g' g a' a c' c es ds m' m E (E' - E) w hn' (by omega) (by omega) (by omega) h' h
    rw [show E + (E' - E) = E' by omega, Nat.add_comm es.length ds.length] at this
    unfold sumAt
    rw [show min E E' = E by omega, show E - E = 0 by omega, Int.add_comm]
    simpa using this

end Go.Proofs.YtladfpljnaippabDoor
