/-
  The model's products of dyadic numbers.
-/
import Derived.Test.YtladfpljnaippabDoorDy2
import Derived.Test.YtladfpljnaippabDoorSpecM
import Derived.Test.YtladfpljnaippabDoorNumD
import Derived.Test.YtladfpljnaippabDoorNumWToNumM
import Derived.Test.YtladfpljnaippabDoorDy1h
import Derived.Test.YtladfpljnaippabDoorOpenLTzOpenTDy6DyI0
namespace Go.Proofs.YtladfpljnaippabDoor
open Go.RowKit

set_option maxRecDepth 100000 in
set_option maxHeartbeats 4000000 in
theorem mul2_any (g g' : Bool) (a a' : Option Addr) (c c' : Nat) (ds es : List Int) (m m' E E' : Int) (w : World) (hn : ds.length ≤ 20000) (hn' : es.length ≤ 20000) (he : -500000 ≤ E + E') (he' : E + E' ≤ 500000) (h : L1 w g a c ds m) (h' : L1 w g' a' c' es m') :
    Calls Tryd.prog 42 #[.agg #[.bool g, .slice a ds.length c, .int .i64 E], .agg #[.bool g', .slice a' es.length c', .int .i64 E']] w fun e w' => NormOut w (ds.length + es.length + 1) (m * m') (E + E') (16 * (ds.length + es.length + 1)) e w' := by
  have B0 : Hid (∀ t t' t2, Bx7 w (.bool g) (.slice a ds.length c) (.int .i64 E) (.bool g') (.slice a' es.length c') (.int .i64 E') (((w.alloc (.cells #[.bool g, .slice a ds.length c, .int .i64 E] t)).alloc (.cells #[.bool g', .slice a' es.length c', .int .i64 E'] t')).alloc (.cells #[.bool false, .slice none 0 0, .int .i64 0] t2))) := fun t t' t2 => Bx7.start w _ _ _ _ _ _ _ _ _
  obtain ⟨S, hS⟩ : ∃ S, S = E + E' := ⟨_, rfl⟩
  have HS : Hid (S = E + E') := hS
  have HW : Hid (IntKind.i64.wrap (E + E') = E + E') := wrap64_id (by omega) (by omega)
  go_enter Tryd.func42, Tryd.ntmps42
  go_wp2
  obtain ⟨W0, hW0⟩ : ∃ W0, W0 = (((w.alloc (.cells #[.bool g, .slice a ds.length c, .int .i64 E] 66)).alloc (.cells #[.bool g', .slice a' es.length c', .int .i64 E'] 66)).alloc (.cells #[.bool false, .slice none 0 0, .int .i64 0] 66)) := ⟨_, rfl⟩
  have F : Hid (Bx7 w (.bool g) (.slice a ds.length c) (.int .i64 E) (.bool g') (.slice a' es.length c') (.int .i64 E') W0) := by unfold Hid; rw [hW0]; exact B0.out _ _ _
  rw [← hW0]
  clear hW0 B0 hS
  have zz : w.heap.size + 1 + 1 < W0.heap.size := F.out.le
  go_region_held3 (fun w' => w'.cell? ⟨w.heap.size, 0, none⟩ = some (.bool g) ∧ w'.cell? ⟨w.heap.size, 1, none⟩ = some (.slice a ds.length c) ∧ w'.cell? ⟨w.heap.size, 2, none⟩ = some (.int .i64 E) ∧ w'.cell? ⟨w.heap.size + 1, 0, none⟩ = some (.bool g') ∧ w'.cell? ⟨w.heap.size + 1, 1, none⟩ = some (.slice a' es.length c') ∧ w'.cell? ⟨w.heap.size + 1, 2, none⟩ = some (.int .i64 E') ∧ Below (w.heap.size + 1 + 1) W0 w')
    (first | exact F.out.held (Below.refl _ _).drew | exact F.out.held (by assumption) | exact F.out.held (Below.setCell (Below.setCell (Below.setCell (by assumption) (by simp) _) (by simp) _) (by simp) _))
    (first
      | (go_at_call 85; refine (mul_any g g' a a' c c' ds es m m' _ (by omega) (by omega) (h.later F.out.bel.drew) (h'.later F.out.bel.drew)).mono ?_; rintro e w1 ⟨g1, a1, c1, fs, rfl, hl1, hL1, hF1, hb1⟩; have hB1 : Below W0.heap.size W0 w1 := (Below.refl _ _).drew.trans hb1; have hB1' : Below (w.heap.size + 1 + 1) W0 w1 := hB1.mono (by omega))
      | (go_at_call 75; (try rw [HW.out]); refine (norm_any g1 a1 c1 fs _ (E + E') _ (by omega) (by omega) (by omega) hL1).mono ?_; rintro e w2 ⟨m2, e2, hnf, g2, a2, c2, f2, rfl, hl2, hL2, hF2, hb2⟩; have hB2 : Below W0.heap.size W0 w2 := hB1.trans (hb2.mono hB1.size); have hB2' : Below (w.heap.size + 1 + 1) W0 w2 := hB2.mono (by omega); have F2 : Hid (Bx7 w (.bool g) (.slice a ds.length c) (.int .i64 E) (.bool g') (.slice a' es.length c') (.int .i64 E') w2) := F.out.later hB2; have r1 := F2.out.r1; have r2 := F2.out.r2; have r3 := F2.out.r3; have r4 := F2.out.r4))
  have HL2 : Hid (L1 w2 g2 a2 c2 f2 m2) := hL2
  have HF2 : Hid (Far (w.heap.size + 1 + 1 + 1) a2 f2) := hF2.down (by have := hB1.size; have := F.out.le; omega)
  have HN : Hid (NormOf (m * m') (E + E') m2 e2 (16 * (ds.length + es.length + 1))) := by
    rcases hnf with h | ⟨h1, t, h2, h3, h4, h5⟩
    · exact .inl h
    · exact .inr ⟨h1, t, h2, h3, h4, by omega⟩
  clear hL2 hF2 hB1 hB1' hB2 hB2' hb1 hb2 hL1 hF1 hnf
  go_wp2
  refine bodyPost_ret (v := .agg #[.bool g2, .slice a2 f2.length c2, .int .i64 e2]) (by simp [results, Tryd.results42, go_sem, r1, r2, r3]) rfl ?_
  refine ⟨m2, e2, HN.out, g2, a2, c2, f2, rfl, by omega, ?_, HF2.out.down (by omega), ?_⟩
  · exact ((HL2.out.setFar HF2.out (by simp) _).setFar HF2.out (by simp) _).setFar HF2.out (by simp) _
  · exact ((F2.out.bel.setCell (by simp; omega) _).setCell (by simp; omega) _).setCell (by simp; omega) _

end Go.Proofs.YtladfpljnaippabDoor

/-
  Plain mathematics: the one normal form of a dyadic number.
-/
namespace Go.Proofs.YtladfpljnaippabDoor

/-- m * 2^e is the normal form of the number that is v in units of 2^-100000. -/
def Norm (v m e : Int) : Prop := (v = 0 ∧ m = 0 ∧ e = 0) ∨ (v ≠ 0 ∧ m % 2 = 1 ∧ 0 ≤ e + 100000 ∧ v = m * 2 ^ (e + 100000).toNat)

theorem odd_two {m m' : Int} {s t : Nat} (hm : m % 2 = 1) (hm' : m' % 2 = 1) (h : m * 2 ^ s = m' * 2 ^ t) : s = t ∧ m = m' := by
  rcases Nat.lt_trichotomy s t with hst | hst | hst
  · exfalso
    have e : m = m' * 2 ^ (t - s) := by
      have hp : (0 : Int) < 2 ^ s := Int.pow_pos (by decide)
      apply Int.eq_of_mul_eq_mul_right (Int.ne_of_gt hp)
      rw [h, Int.mul_assoc, ← Int.pow_add, show t - s + s = t by omega]
    have e2 : m = 2 * (m' * 2 ^ (t - s - 1)) := by
      rw [e, show t - s = (t - s - 1) + 1 by omega, Int.pow_succ]
      simp only [Nat.add_sub_cancel]
      rw [← Int.mul_assoc, Int.mul_comm _ 2]
    omega
  · subst hst
    have hp : (0 : Int) < 2 ^ s := Int.pow_pos (by decide)
    exact ⟨rfl, Int.eq_of_mul_eq_mul_right (Int.ne_of_gt hp) h⟩
  · exfalso
    have e : m' = m * 2 ^ (s - t) := by
      have hp : (0 : Int) < 2 ^ t := Int.pow_pos (by decide)
      apply Int.eq_of_mul_eq_mul_right (Int.ne_of_gt hp)
      rw [← h, Int.mul_assoc, ← Int.pow_add, show s - t + t = s by omega]
    have e2 : m' = 2 * (m * 2 ^ (s - t - 1)) := by
      rw [e, show s - t = (s - t - 1) + 1 by omega, Int.pow_succ]
      simp only [Nat.add_sub_cancel]
      rw [← Int.mul_assoc, Int.mul_comm _ 2]
    omega

theorem Norm.inj {v m e m' e' : Int} (h : Norm v m e) (h' : Norm v m' e') : m = m' ∧ e = e' := by
  rcases h with ⟨h0, h1, h2⟩ | ⟨h0, h1, h2, h3⟩
  · rcases h' with ⟨_, k1, k2⟩ | ⟨k0, _⟩
    · exact ⟨by rw [h1, k1], by rw [h2, k2]⟩
    · exact absurd h0 k0
  · rcases h' with ⟨k0, _⟩ | ⟨_, k1, k2, k3⟩
    · exact absurd k0 h0
    · obtain ⟨e1, e2⟩ := odd_two h1 k1 (h3.symm.trans k3)
      exact ⟨e2, by omega⟩

theorem Norm.of_normOf {x e0 m e' : Int} {T : Nat} (h : NormOf x e0 m e' T) (he : -100000 ≤ e0) : Norm (atK 100000 x e0) m e' := by
  have hat := h.at (K := 100000) (by omega)
  rcases h with ⟨h0, h1, h2⟩ | ⟨h0, t, h2, h3, h4, _⟩
  · exact .inl ⟨by rw [h0]; simp [atK], h1, h2⟩
  · refine .inr ⟨?_, h4, by omega, by rw [← hat]; rfl⟩
    unfold atK
    intro hz
    rcases Int.mul_eq_zero.1 hz with h5 | h5
    · exact h0 h5
    · have : (0 : Int) < 2 ^ (e0 + 100000).toNat := Int.pow_pos (by decide)
      omega

/-- What DyAdd, DyMul, DyDet answer of the number v. -/
def ResD (ok : Bool) (v : Int) (G : Bool) (Z : List Int) (E K : Int) : Prop :=
  (ok = false ∧ G = false ∧ Z = [] ∧ E = 0 ∧ K = 1) ∨ (ok = true ∧ ∃ m e, Norm v m e ∧ (((Fits m ∧ -20000 ≤ e ∧ e ≤ 20000) ∧ B1 G Z m ∧ E = e ∧ K = 0) ∨ (¬ (Fits m ∧ -20000 ≤ e ∧ e ≤ 20000) ∧ G = false ∧ Z = [] ∧ E = 0 ∧ K = 2)))

theorem ResD.inj {ok : Bool} {v : Int} {G G' : Bool} {Z Z' : List Int} {E E' K K' : Int} (h : ResD ok v G Z E K) (h' : ResD ok v G' Z' E' K') : G = G' ∧ Z = Z' ∧ E = E' ∧ K = K' := by
  rcases h with ⟨h0, h1, h2, h3, h4⟩ | ⟨h0, m, e, hN, hc⟩
  · rcases h' with ⟨_, k1, k2, k3, k4⟩ | ⟨k0, _⟩
    · rw [h1, h2, h3, h4, k1, k2, k3, k4]
      exact ⟨rfl, rfl, rfl, rfl⟩
    · rw [h0] at k0
      cases k0
  · rcases h' with ⟨k0, _⟩ | ⟨_, m', e', hN', hc'⟩
    · rw [h0] at k0
      cases k0
    · obtain ⟨e1, e2⟩ := hN.inj hN'
      subst e1 e2
      rcases hc with ⟨c0, c1, c3, c4⟩ | ⟨c0, c1, c2, c3, c4⟩
      · rcases hc' with ⟨_, k1, k3, k4⟩ | ⟨k0, _⟩
        · obtain ⟨e3, e4⟩ := c1.inj k1
          exact ⟨e3, e4, by rw [c3, k3], by rw [c4, k4]⟩
        · exact absurd c0 k0
      · rcases hc' with ⟨k0, _⟩ | ⟨_, k1, k2, k3, k4⟩
        · exact absurd k0 c0
        · rw [c1, c2, c3, c4, k1, k2, k3, k4]
          exact ⟨rfl, rfl, rfl, rfl⟩

theorem ResD.len {ok : Bool} {v : Int} {G : Bool} {Z : List Int} {E K : Int} (h : ResD ok v G Z E K) : Z.length ≤ 512 ∧ U32 Z := by
  rcases h with ⟨_, _, h2, _⟩ | ⟨_, m, e, _, ⟨⟨c0, _⟩, hB, _⟩ | ⟨_, _, c2, _⟩⟩
  · subst h2
    exact ⟨by simp, fun z hz => by cases hz⟩
  · exact ⟨hB.len c0, hB.can.1⟩
  · subst c2
    exact ⟨by simp, fun z hz => by cases hz⟩

/-- The normal form found by counting twos. -/
theorem norm_twos {g : Bool} {zs : List Int} {x E : Int} {t : Nat} (h : B1 g zs x) (hne : zs ≠ []) (hE : -100000 ≤ E) (ht : Twos (val 4294967296 zs) t) : Norm (atK 100000 x E) (sg g (val 4294967296 zs / 2 ^ t)) (E + t) := by
  obtain ⟨n1, n2⟩ := norm_of h.num ht
  have hv := val_pos (B := 4294967296) (by decide) h.can hne
  have hp : (0 : Int) < 2 ^ (E + 100000).toNat := Int.pow_pos (by decide)
  refine .inr ⟨?_, n2, by omega, ?_⟩
  · unfold atK
    intro hz
    rcases Int.mul_eq_zero.1 hz with h5 | h5
    · rw [h.num] at h5
      cases g <;> simp [sg] at h5 <;> omega
    · omega
  · unfold atK
    rw [n1, Int.mul_assoc, ← Int.pow_add, show t + (E + 100000).toNat = (E + ↑t + 100000).toNat by omega]

end Go.Proofs.YtladfpljnaippabDoor

/-
  The model's answers of dyadic numbers.
-/
namespace Go.Proofs.YtladfpljnaippabDoor
open Go.RowKit

/-- What a function of the model answers that gives a Dyadic and a code. -/
def OutDS (w : World) (ok : Bool) (v : Int) (e : Ending) (w' : World) : Prop :=
  ∃ (G : Bool) (Z : List Int) (E K : Int) (a : Option Addr) (c : Nat), e = .returned (.tuple #[.agg #[.bool G, .slice a Z.length c, .int .i64 E], .int .i64 K]) ∧ ResD ok v G Z E K ∧ RowAt .u32 w' a Z ∧ Far w.heap.size a Z ∧ Below w.heap.size w w'

/-- Another number is laid into the argument's box. -/
theorem Bx3.put {w : World} {u v e u' v' e' : Value} {W : World} (h : Bx3 w u v e W) : Bx3 w u' v' e' (((W.setCell ⟨w.heap.size, 0, none⟩ u').setCell ⟨w.heap.size, 1, none⟩ v').setCell ⟨w.heap.size, 2, none⟩ e') := by
  have o := h.le
  refine ⟨?_, ?_, ?_, ?_, ?_, ?_, ?_, by simpa using o, ((h.bel.setCell (by simp) _).setCell (by simp) _).setCell (by simp) _⟩
  · rw [World.cell?_setCell_other _ _ _ _ (by simp), World.cell?_setCell_other _ _ _ _ (by simp)]
    exact World.cell?_setCell_same _ _ _ h.q0
  · rw [World.cell?_setCell_other _ _ _ _ (by simp)]
    refine World.cell?_setCell_same _ _ _ (u := v) ?_
    rw [World.cell?_setCell_other _ _ _ _ (by simp)]
    exact h.q1
  · refine World.cell?_setCell_same _ _ _ (u := e) ?_
    rw [World.cell?_setCell_other _ _ _ _ (by simp), World.cell?_setCell_other _ _ _ _ (by simp)]
    exact h.q2
  · rw [World.cell?_setCell_other _ _ _ _ (by simp), World.cell?_setCell_other _ _ _ _ (by simp), World.cell?_setCell_other _ _ _ _ (by simp)]
    exact h.r1
  · rw [World.cell?_setCell_other _ _ _ _ (by simp), World.cell?_setCell_other _ _ _ _ (by simp), World.cell?_setCell_other _ _ _ _ (by simp)]
    exact h.r2
  · rw [World.cell?_setCell_other _ _ _ _ (by simp), World.cell?_setCell_other _ _ _ _ (by simp), World.cell?_setCell_other _ _ _ _ (by simp)]
    exact h.r3
  · intro j
    rw [World.frozen?_setCell, World.frozen?_setCell, World.frozen?_setCell]
    exact h.r4 j

set_option maxRecDepth 100000 in
set_option maxHeartbeats 4000000 in
theorem out2_any (g : Bool) (a : Option Addr) (c : Nat) (ds : List Int) (x E : Int) (w : World) (hn : ds.length ≤ 60000) (he0 : -100000 ≤ E) (he1 : E ≤ 1000000) (h : L1 w g a c ds x) :
    Calls Tryd.prog 34 #[.agg #[.bool g, .slice a ds.length c, .int .i64 E]] w fun e w' => OutDS w true (atK 100000 x E) e w' := by
  have B0 : Hid (∀ t t', Bx3 w (.bool g) (.slice a ds.length c) (.int .i64 E) ((w.alloc (.cells #[.bool g, .slice a ds.length c, .int .i64 E] t)).alloc (.cells #[.bool false, .slice none 0 0, .int .i64 0] t'))) := fun t t' => Bx3.start w _ _ _ _ _
  obtain ⟨v, hv⟩ : ∃ v, v = atK 100000 x E := ⟨_, rfl⟩
  have HV : Hid (v = atK 100000 x E) := hv
  rw [← hv]
  clear hv
  go_enter Tryd.func34, Tryd.ntmps34
  go_wp2_with fail
  refine (norm_any g a c ds x E _ hn (by omega) he1 (h.later (bel2 _ _ _))).mono ?_
  rintro e w1 ⟨m, e', hnf, g1, a1, c1, fs, rfl, hl1, hL1, hF1, hb1⟩
  have HN : Hid (Norm v m e') := by unfold Hid; rw [HV.out]; exact Norm.of_normOf hnf he0
  have F1 : Hid (Bx3 w (.bool g) (.slice a ds.length c) (.int .i64 E) w1) := (B0.out _ _).later hb1
  have fz : ∀ j, w1.frozen? ⟨w.heap.size, j, none⟩ = false := by intro j; rw [hb1.frozen (by simp; omega)]; simp [go_sem]
  have hF1' : Far (w.heap.size + 1 + 1) a1 fs := hF1.down (by simp)
  have F2 : Hid (Bx3 w (.bool g1) (.slice a1 fs.length c1) (.int .i64 e') (((w1.setCell ⟨w.heap.size, 0, none⟩ (.bool g1)).setCell ⟨w.heap.size, 1, none⟩ (.slice a1 fs.length c1)).setCell ⟨w.heap.size, 2, none⟩ (.int .i64 e'))) := F1.out.put
  have HL2 : Hid (L1 (((w1.setCell ⟨w.heap.size, 0, none⟩ (.bool g1)).setCell ⟨w.heap.size, 1, none⟩ (.slice a1 fs.length c1)).setCell ⟨w.heap.size, 2, none⟩ (.int .i64 e')) g1 a1 c1 fs m) := ((hL1.setFar hF1' (by simp; omega) _).setFar hF1' (by simp; omega) _).setFar hF1' (by simp; omega) _
  have hbe : -100000 ≤ e' ∧ e' ≤ 2000000 := by have := hnf.bound; omega
  obtain ⟨hbe0, hbe1⟩ := hbe
  have q0 := F1.out.q0
  have q1 := F1.out.q1
  have q2 := F1.out.q2
  clear hnf hL1 hF1 hF1' hb1 B0
  go_wp2_with fail
  refine (big_any g1 a1 c1 fs _ (by omega) HL2.out.sl.row HL2.out.can.1).mono ?_
  rintro e w3 ⟨a5, c5, rfl, hr5, hf5, hb5⟩
  have F3 : Hid (Bx3 w (.bool g1) (.slice a1 fs.length c1) (.int .i64 e') w3) := F2.out.later hb5
  have HBL : Hid (B1 g1 (joinL fs) m) := B1.of_l1 HL2.out
  have hs2 := F2.out.le
  have r1 := F3.out.r1
  have r2 := F3.out.r2
  have r3 := F3.out.r3
  have r4 := F3.out.r4
  have p2 := F3.out.q2
  have hs4 : w.heap.size + 1 < w3.heap.size := F3.out.le
  have hs5 : w.heap.size < w3.heap.size := by omega
  clear q0 q1 q2 fz hb5
  by_cases h5 : (joinL fs).length ≤ 512
  · have hbo : bigOut g1 fs = (g1, joinL fs, 0) := by unfold bigOut; rw [if_pos h5]
    rw [hbo] at hr5 hf5 ⊢
    have HR5 : Hid (RowAt .u32 w3 a5 (joinL fs)) := hr5
    have HF5 : Hid (Far (w.heap.size + 1 + 1) a5 (joinL fs)) := Far.down hf5 hs2
    clear hbo hr5 hf5
    by_cases hr : e' < -20000 ∨ 20000 < e'
    · have HO : Hid (ResD true v false [] 0 2) := .inr ⟨rfl, _, _, HN.out, .inr ⟨by omega, rfl, rfl, rfl, rfl⟩⟩
      by_cases hr1 : e' < -20000
      · go_wp2
        refine bodyPost_ret (v := .tuple #[.agg #[.bool false, .slice none 0 0, .int .i64 0], .int .i64 2]) (by simp [results, Tryd.results34, go_sem, r1, r2, r3, hs4]) rfl ?_
        have hb0 := F3.out.bel
        have hbl := ((F3.out.bel.setCell (p := ⟨w.heap.size + 1, 0, none⟩) (by simp) (.bool false)).setCell (p := ⟨w.heap.size + 1, 1, none⟩) (by simp) (.slice none 0 0)).setCell (p := ⟨w.heap.size + 1, 2, none⟩) (by simp) (.int .i64 0)
        refine ⟨false, [], 0, 2, none, 0, rfl, HO.out, .inl rfl, .inl rfl, ?_⟩
        first
          | exact hbl.alloc hbl.size _
          | exact hb0.alloc hb0.size _
          | exact hbl
          | exact hb0
      · have hr2 : 20000 < e' := by omega
        go_wp2
        refine bodyPost_ret (v := .tuple #[.agg #[.bool false, .slice none 0 0, .int .i64 0], .int .i64 2]) (by simp [results, Tryd.results34, go_sem, r1, r2, r3, hs4]) rfl ?_
        have hb0 := F3.out.bel
        have hbl := ((F3.out.bel.setCell (p := ⟨w.heap.size + 1, 0, none⟩) (by simp) (.bool false)).setCell (p := ⟨w.heap.size + 1, 1, none⟩) (by simp) (.slice none 0 0)).setCell (p := ⟨w.heap.size + 1, 2, none⟩) (by simp) (.int .i64 0)
        refine ⟨false, [], 0, 2, none, 0, rfl, HO.out, .inl rfl, .inl rfl, ?_⟩
        first
          | exact hbl.alloc hbl.size _
          | exact hb0.alloc hb0.size _
          | exact hbl
          | exact hb0
    · have HO : Hid (ResD true v g1 (joinL fs) e' 0) := .inr ⟨rfl, _, _, HN.out, .inl ⟨⟨HBL.out.fits h5, by omega, by omega⟩, HBL.out, rfl, rfl⟩⟩
      have hr1 : ¬ e' < -20000 := by omega
      have hr2 : ¬ 20000 < e' := by omega
      generalize joinL fs = Z at *
      go_wp2
      refine bodyPost_ret (v := .tuple #[.agg #[.bool g1, .slice a5 Z.length c5, .int .i64 e'], .int .i64 0]) (by simp [results, Tryd.results34, go_sem, r1, r2, r3, hs4]) rfl ?_
      have hbl := ((F3.out.bel.setCell (p := ⟨w.heap.size + 1, 0, none⟩) (by simp) (.bool g1)).setCell (p := ⟨w.heap.size + 1, 1, none⟩) (by simp) (.slice a5 Z.length c5)).setCell (p := ⟨w.heap.size + 1, 2, none⟩) (by simp) (.int .i64 e')
      refine ⟨g1, Z, e', 0, a5, c5, rfl, HO.out, ?_, HF5.out.down (by omega), hbl.alloc hbl.size _⟩
      exact (((HR5.out.setAway (HF5.out.away (by simp)) _).setAway (HF5.out.away (by simp)) _).setAway (HF5.out.away (by simp)) _).later (bel0 _ _)
  · have hbo : bigOut g1 fs = (false, [], 2) := by unfold bigOut; rw [if_neg h5]
    have HO : Hid (ResD true v false [] 0 2) := .inr ⟨rfl, _, _, HN.out, .inr ⟨fun h => h5 (HBL.out.len h.1), rfl, rfl, rfl, rfl⟩⟩
    rw [hbo] at hr5 hf5 ⊢
    clear hbo hr5 hf5
    go_wp2
    refine bodyPost_ret (v := .tuple #[.agg #[.bool false, .slice none 0 0, .int .i64 0], .int .i64 2]) (by simp [results, Tryd.results34, go_sem, r1, r2, r3, hs4]) rfl ?_
    have hb0 := F3.out.bel
    have hbl := ((F3.out.bel.setCell (p := ⟨w.heap.size + 1, 0, none⟩) (by simp) (.bool false)).setCell (p := ⟨w.heap.size + 1, 1, none⟩) (by simp) (.slice none 0 0)).setCell (p := ⟨w.heap.size + 1, 2, none⟩) (by simp) (.int .i64 0)
    refine ⟨false, [], 0, 2, none, 0, rfl, HO.out, .inl rfl, .inl rfl, ?_⟩
    first
      | exact hbl.alloc hbl.size _
      | exact hb0.alloc hb0.size _
      | exact hbl
      | exact hb0

end Go.Proofs.YtladfpljnaippabDoor

/-
  The model's determinant.
-/
namespace Go.Proofs.YtladfpljnaippabDoor
open Go.RowKit

/-- A number of the model: its parts. -/
structure LV where
  g : Bool
  a : Option Addr
  c : Nat
  fs : List Int
  m : Int
  e : Int

instance : Inhabited LV := ⟨⟨false, none, 0, [], 0, 0⟩⟩

/-- Block b from off on holds the numbers ls. -/
structure RowL (w : World) (b off : Nat) (ls : List LV) : Prop where
  lt : b < w.heap.size
  c0 : ∀ i, i < ls.length → w.cell? ⟨b, off + i * 3, none⟩ = some (.bool (ls.getD i default).g)
  c1 : ∀ i, i < ls.length → w.cell? ⟨b, off + i * 3 + 1, none⟩ = some (.slice (ls.getD i default).a (ls.getD i default).fs.length (ls.getD i default).c)
  c2 : ∀ i, i < ls.length → w.cell? ⟨b, off + i * 3 + 2, none⟩ = some (.int .i64 (ls.getD i default).e)
  l1 : ∀ i, i < ls.length → L1 w (ls.getD i default).g (ls.getD i default).a (ls.getD i default).c (ls.getD i default).fs (ls.getD i default).m

theorem RowL.later {w w' : World} {b off : Nat} {ls : List LV} (h : RowL w b off ls) (hb : Below w.heap.size w w') : RowL w' b off ls :=
  ⟨Nat.lt_of_lt_of_le h.lt hb.size, fun i hi => (hb.cell (p := ⟨b, off + i * 3, none⟩) h.lt).trans (h.c0 i hi), fun i hi => (hb.cell (p := ⟨b, off + i * 3 + 1, none⟩) h.lt).trans (h.c1 i hi), fun i hi => (hb.cell (p := ⟨b, off + i * 3 + 2, none⟩) h.lt).trans (h.c2 i hi), fun i hi => (h.l1 i hi).later hb⟩

/-- The sum's box A while the loop runs. -/
structure SD (W0 : World) (A : Nat) (G : Bool) (a : Option Addr) (c : Nat) (fs : List Int) (m e : Int) (W : World) : Prop where
  a1 : W.cell? ⟨A, 0, none⟩ = some (.bool G)
  a2 : W.cell? ⟨A, 1, none⟩ = some (.slice a fs.length c)
  a3 : W.cell? ⟨A, 2, none⟩ = some (.int .i64 e)
  a4 : ∀ j, W.frozen? ⟨A, j, none⟩ = false
  l1 : L1 W G a c fs m
  far : Far (A + 1) a fs
  lt : A < W.heap.size
  bel : Below A W0 W

section
variable {W0 : World} {A : Nat} {G : Bool} {a : Option Addr} {c : Nat} {fs : List Int} {m e : Int} {W W' : World}

theorem SD.later (h : SD W0 A G a c fs m e W) (hb : Below W.heap.size W W') : SD W0 A G a c fs m e W' := by
  have o := h.lt
  have hs := hb.size
  exact ⟨(hb.cell (by simp; omega)).trans h.a1, (hb.cell (by simp; omega)).trans h.a2, (hb.cell (by simp; omega)).trans h.a3, fun j => (hb.frozen (by simp; omega)).trans (h.a4 j), h.l1.later hb, h.far, by omega, h.bel.trans (hb.mono (by omega))⟩

/-- Another number is laid into the box. -/
theorem SD.lay {G' : Bool} {a' : Option Addr} {c' : Nat} {fs' : List Int} {m' e' : Int} (h : SD W0 A G a c fs m e W) (hL : L1 W G' a' c' fs' m') (hf : Far (A + 1) a' fs') : SD W0 A G' a' c' fs' m' e' (((W.setCell ⟨A, 0, none⟩ (.bool G')).setCell ⟨A, 1, none⟩ (.slice a' fs'.length c')).setCell ⟨A, 2, none⟩ (.int .i64 e')) := by
  have o := h.lt
  have hbel : Below A W (((W.setCell ⟨A, 0, none⟩ (.bool G')).setCell ⟨A, 1, none⟩ (.slice a' fs'.length c')).setCell ⟨A, 2, none⟩ (.int .i64 e')) := (((Below.refl _ _).setCell (by simp) _).setCell (by simp) _).setCell (by simp) _
  refine ⟨?_, ?_, ?_, ?_, ?_, hf, by simpa using o, h.bel.trans hbel⟩
  · rw [World.cell?_setCell_other _ _ _ _ (by simp), World.cell?_setCell_other _ _ _ _ (by simp)]
    exact World.cell?_setCell_same _ _ _ h.a1
  · rw [World.cell?_setCell_other _ _ _ _ (by simp)]
    refine World.cell?_setCell_same _ _ _ (u := .slice a fs.length c) ?_
    rw [World.cell?_setCell_other _ _ _ _ (by simp)]
    exact h.a2
  · refine World.cell?_setCell_same _ _ _ (u := .int .i64 e) ?_
    rw [World.cell?_setCell_other _ _ _ _ (by simp), World.cell?_setCell_other _ _ _ _ (by simp)]
    exact h.a3
  · intro j; rw [World.frozen?_setCell, World.frozen?_setCell, World.frozen?_setCell]; exact h.a4 j
  · exact ((hL.setFar hf (by simp) _).setFar hf (by simp) _).setFar hf (by simp) _

end

/-- The six ways: three places, and a sign. -/
def wy (i j : Nat) : Nat := ((([[0, 4, 8], [1, 5, 6], [2, 3, 7], [2, 4, 6], [1, 3, 8], [0, 5, 7]] : List (List Nat)).getD i []).getD j 0)
def ws (i : Nat) : Int := if i < 3 then 1 else -1

theorem wy_lt : ∀ i j, i < 6 → j < 3 → wy i j < 9 := by
  intro i j hi hj
  have h1 : i = 0 ∨ i = 1 ∨ i = 2 ∨ i = 3 ∨ i = 4 ∨ i = 5 := by omega
  have h2 : j = 0 ∨ j = 1 ∨ j = 2 := by omega
  rcases h1 with rfl | rfl | rfl | rfl | rfl | rfl <;> rcases h2 with rfl | rfl | rfl <;> decide

/-- What way i adds, in units of 2^-K. -/
def wayV (K : Int) (ls : List LV) (i : Nat) : Int :=
  ws i * atK K ((ls.getD (wy i 0) default).m * (ls.getD (wy i 1) default).m * (ls.getD (wy i 2) default).m) ((ls.getD (wy i 0) default).e + (ls.getD (wy i 1) default).e + (ls.getD (wy i 2) default).e)
def detV (K : Int) (ls : List LV) : Nat → Int
  | 0 => 0
  | i + 1 => detV K ls i + wayV K ls i

/-- Where the ways lie: the list in block B + 7, way i in block B + 1 + i. -/
def WaysAt (W : World) (B : Nat) : Prop := ∀ i, i < 6 → W.cell? ⟨B + 7, i, none⟩ = some (.slice (some ⟨B + 1 + i, 0, none⟩) 4 4) ∧ W.cell? ⟨B + 1 + i, 0, none⟩ = some (.int .i64 (wy i 0)) ∧ W.cell? ⟨B + 1 + i, 1, none⟩ = some (.int .i64 (wy i 1)) ∧ W.cell? ⟨B + 1 + i, 2, none⟩ = some (.int .i64 (wy i 2)) ∧ W.cell? ⟨B + 1 + i, 3, none⟩ = some (.int .i64 (ws i))

set_option maxRecDepth 100000 in
set_option maxHeartbeats 2000000 in
theorem ways_start (w : World) (t0 t1 t2 t3 t4 t5 t6 t7 t8 : TypeId) (x y : Array Value) : WaysAt (((((((((w.alloc (.cells x t0)).alloc (.cells #[.int .i64 0, .int .i64 4, .int .i64 8, .int .i64 1] t1)).alloc (.cells #[.int .i64 1, .int .i64 5, .int .i64 6, .int .i64 1] t2)).alloc (.cells #[.int .i64 2, .int .i64 3, .int .i64 7, .int .i64 1] t3)).alloc (.cells #[.int .i64 2, .int .i64 4, .int .i64 6, .int .i64 (-1)] t4)).alloc (.cells #[.int .i64 1, .int .i64 3, .int .i64 8, .int .i64 (-1)] t5)).alloc (.cells #[.int .i64 0, .int .i64 5, .int .i64 7, .int .i64 (-1)] t6)).alloc (.cells #[.slice (some ⟨w.heap.size + 1, 0, none⟩) 4 4, .slice (some ⟨w.heap.size + 1 + 1, 0, none⟩) 4 4, .slice (some ⟨w.heap.size + 1 + 1 + 1, 0, none⟩) 4 4, .slice (some ⟨w.heap.size + 1 + 1 + 1 + 1, 0, none⟩) 4 4, .slice (some ⟨w.heap.size + 1 + 1 + 1 + 1 + 1, 0, none⟩) 4 4, .slice (some ⟨w.heap.size + 1 + 1 + 1 + 1 + 1 + 1, 0, none⟩) 4 4] t7)).alloc (.cells y t8)) w.heap.size := by
  intro i hi
  have : i = 0 ∨ i = 1 ∨ i = 2 ∨ i = 3 ∨ i = 4 ∨ i = 5 := by omega
  rcases this with rfl | rfl | rfl | rfl | rfl | rfl
  all_goals
    refine ⟨?_, ?_, ?_, ?_, ?_⟩
    all_goals simp [go_sem, wy, ws]

theorem WaysAt.later {W W' : World} {B n : Nat} (h : WaysAt W B) (hb : Below n W W') (hn : B + 7 < n) : WaysAt W' B := fun i hi => by
  obtain ⟨h0, h1, h2, h3, h4⟩ := h i hi
  exact ⟨(hb.cell (by simp; omega)).trans h0, (hb.cell (by simp; omega)).trans h1, (hb.cell (by simp; omega)).trans h2, (hb.cell (by simp; omega)).trans h3, (hb.cell (by simp; omega)).trans h4⟩

end Go.Proofs.YtladfpljnaippabDoor

/-
  The model's determinant: the product's box.
-/
namespace Go.Proofs.YtladfpljnaippabDoor
open Go.RowKit

/-- The row lies in no box P. -/
def OffP (P : Nat) (a : Option Addr) (fs : List Int) : Prop := ∀ b o, a = some ⟨b, o, none⟩ → fs ≠ [] → b ≠ P

theorem L1.setOff {w : World} {P : Nat} {g : Bool} {a : Option Addr} {c : Nat} {ds : List Int} {x : Int} (h : L1 w g a c ds x) (hf : OffP P a ds) {p : Addr} (hp : p.block = P) (v : Value) : L1 (w.setCell p v) g a c ds x := by
  refine ⟨⟨h.sl.fits, h.sl.nil, ?_⟩, h.can, h.num, h.zero, h.cap⟩
  rcases h.sl.row with h | ⟨b, off, h1, h2, h3⟩
  · exact .inl h
  · by_cases hd : ds = []
    · exact .inl hd
    · have hb := hf b off h1 hd
      refine .inr ⟨b, off, h1, by simpa using h2, fun j hj => ?_⟩
      rw [World.cell?_setCell_other _ _ _ _ (by intro hh; have := congrArg Addr.block hh; simp at this; omega)]
      exact h3 j hj

theorem OffP.of_far {B P : Nat} {a : Option Addr} {fs : List Int} (h : Far B a fs) (hP : P < B) : OffP P a fs := by
  intro b o h1 h2
  rcases h with h | ⟨b', o', h3, h4⟩
  · exact absurd h h2
  · rw [h1] at h3
    injection h3 with h3
    have : b = b' := congrArg Addr.block h3
    omega

theorem OffP.of_row {w : World} {P : Nat} {a : Option Addr} {fs : List Int} (h : RowAt .i64 w a fs) (hP : w.heap.size ≤ P) : OffP P a fs := by
  intro b o h1 h2
  rcases h with h | ⟨b', o', h3, h4, _⟩
  · exact absurd h h2
  · rw [h1] at h3
    injection h3 with h3
    have : b = b' := congrArg Addr.block h3
    omega

/-- The product's box P. -/
structure PX (wr : World) (P : Nat) (g : Bool) (a : Option Addr) (c : Nat) (fs : List Int) (m e : Int) (W : World) : Prop where
  p0 : W.cell? ⟨P, 0, none⟩ = some (.bool g)
  p1 : W.cell? ⟨P, 1, none⟩ = some (.slice a fs.length c)
  p2 : W.cell? ⟨P, 2, none⟩ = some (.int .i64 e)
  p4 : ∀ j, W.frozen? ⟨P, j, none⟩ = false
  l1 : L1 W g a c fs m
  off : OffP P a fs
  far : Far wr.heap.size a fs
  ge : wr.heap.size ≤ P
  lt : P < W.heap.size
  bel : Below wr.heap.size wr W

section
variable {wr W W' : World} {P : Nat} {g : Bool} {a : Option Addr} {c : Nat} {fs : List Int} {m e : Int}

theorem PX.start (hL : L1 W g a c fs m) (hf : Far wr.heap.size a fs) (hb : Below wr.heap.size wr W) (t : TypeId) : PX wr W.heap.size g a c fs m e (W.alloc (.cells #[.bool g, .slice a fs.length c, .int .i64 e] t)) := by
  refine ⟨by simp [go_sem], by simp [go_sem], by simp [go_sem], by intro j; simp [go_sem], hL.later (bel0 _ _), OffP.of_row hL.sl.row (Nat.le_refl _), hf, hb.size, by simp, hb.alloc hb.size _⟩

theorem PX.set {x0 x1 x2 : Value} (r1 : W.cell? ⟨P, 0, none⟩ = some x0) (r2 : W.cell? ⟨P, 1, none⟩ = some x1) (r3 : W.cell? ⟨P, 2, none⟩ = some x2) (r4 : ∀ j, W.frozen? ⟨P, j, none⟩ = false) (hlt : P < W.heap.size) (hge : wr.heap.size ≤ P) (hL : L1 W g a c fs m) (ho : OffP P a fs) (hf : Far wr.heap.size a fs) (hb : Below wr.heap.size wr W) :
    PX wr P g a c fs m e (((W.setCell ⟨P, 0, none⟩ (.bool g)).setCell ⟨P, 1, none⟩ (.slice a fs.length c)).setCell ⟨P, 2, none⟩ (.int .i64 e)) := by
  refine ⟨?_, ?_, ?_, ?_, ?_, ho, hf, hge, by simpa using hlt, ((hb.setCell (by simpa using hge) _).setCell (by simpa using hge) _).setCell (by simpa using hge) _⟩
  · rw [World.cell?_setCell_other _ _ _ _ (by simp), World.cell?_setCell_other _ _ _ _ (by simp)]
    exact World.cell?_setCell_same _ _ _ r1
  · rw [World.cell?_setCell_other _ _ _ _ (by simp)]
    refine World.cell?_setCell_same _ _ _ (u := x1) ?_
    rw [World.cell?_setCell_other _ _ _ _ (by simp)]
    exact r2
  · refine World.cell?_setCell_same _ _ _ (u := x2) ?_
    rw [World.cell?_setCell_other _ _ _ _ (by simp), World.cell?_setCell_other _ _ _ _ (by simp)]
    exact r3
  · intro j; rw [World.frozen?_setCell, World.frozen?_setCell, World.frozen?_setCell]; exact r4 j
  · exact ((hL.setOff ho rfl _).setOff ho rfl _).setOff ho rfl _

theorem PX.later (h : PX wr P g a c fs m e W) (hb : Below W.heap.size W W') : PX wr P g a c fs m e W' := by
  have o := h.lt
  have hs := hb.size
  have hg := h.ge
  exact ⟨(hb.cell (by simp; omega)).trans h.p0, (hb.cell (by simp; omega)).trans h.p1, (hb.cell (by simp; omega)).trans h.p2, fun j => (hb.frozen (by simp; omega)).trans (h.p4 j), h.l1.later hb, h.off, h.far, hg, by omega, h.bel.trans (hb.mono (by omega))⟩

end

theorem held13 {p0 p1 p2 p3 p4 p5 p6 p7 p8 p9 p10 p11 t : Prop} (h : p0 ∧ p1 ∧ p2 ∧ p3 ∧ p4 ∧ p5 ∧ p6 ∧ p7 ∧ p8 ∧ p9 ∧ p10 ∧ p11 ∧ t) : t := h.2.2.2.2.2.2.2.2.2.2.2.2

/-- What l2det hands back. -/
def L2Sum (w : World) (ls : List LV) (e : Ending) (w' : World) : Prop :=
  ∃ (g : Bool) (a : Option Addr) (c : Nat) (fs : List Int) (m e' : Int), e = .returned (.agg #[.bool g, .slice a fs.length c, .int .i64 e']) ∧ fs.length ≤ 20000 ∧ -60000 ≤ e' ∧ e' ≤ 0 ∧ (∀ K, 60000 ≤ K → atK K m e' = detV K ls 6) ∧ L1 w' g a c fs m ∧ Far w.heap.size a fs ∧ Below w.heap.size w w'

end Go.Proofs.YtladfpljnaippabDoor
