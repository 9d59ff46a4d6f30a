/-
  Plain mathematics: the one normal form of a dyadic number.
-/
import Derived.Test.YtladfpljnaippaaDoorNumD
import Derived.Test.YtladfpljnaippaaDoorNumY
import Derived.Test.YtladfpljnaippaaDoorDy1h
namespace Go.Proofs.YtladfpljnaippaaDoor

/-- m * 2^e is the normal form of the number that is v in units of 2^-100000. -/
def Norm (v m e : Int) : Prop := (v = 0 ∧ m = 0 ∧ e = 0) ∨ (v ≠ 0 ∧ m % 2 = 1 ∧ 0 ≤ e + 100000 ∧ v = m * 2 ^ (e + 100000).toNat)

theorem odd_two {m m' : Int} {s t : Nat} (hm : m % 2 = 1) (hm' : m' % 2 = 1) (h : m * 2 ^ s = m' * 2 ^ t) : s = t ∧ m = m' := by
  rcases Nat.lt_trichotomy s t with hst | hst | hst
  · exfalso
    have e : m = m' * 2 ^ (t - s) := by
      have hp : (0 : Int) < 2 ^ s := Int.pow_pos (by decide)
      apply Int.eq_of_mul_eq_mul_right (Int.ne_of_gt hp)
      rw [h, Int.mul_assoc, ← Int.pow_add, show t - s + s = t by omega]
    have e2 : m = 2 * (m' * 2 ^ (t - s - 1)) := by
      rw [e, show t - s = (t - s - 1) + 1 by omega, Int.pow_succ]
      simp only [Nat.add_sub_cancel]
      rw [← Int.mul_assoc, Int.mul_comm _ 2]
    omega
  · subst hst
    have hp : (0 : Int) < 2 ^ s := Int.pow_pos (by decide)
    exact ⟨rfl, Int.eq_of_mul_eq_mul_right (Int.ne_of_gt hp) h⟩
  · exfalso
    have e : m' = m * 2 ^ (s - t) := by
      have hp : (0 : Int) < 2 ^ t := Int.pow_pos (by decide)
      apply Int.eq_of_mul_eq_mul_right (Int.ne_of_gt hp)
      rw [← h, Int.mul_assoc, ← Int.pow_add, show s - t + t = s by omega]
    have e2 : m' = 2 * (m * 2 ^ (s - t - 1)) := by
      rw [e, show s - t = (s - t - 1) + 1 by omega, Int.pow_succ]
      simp only [Nat.add_sub_cancel]
      rw [← Int.mul_assoc, Int.mul_comm _ 2]
    omega

theorem Norm.inj {v m e m' e' : Int} (h : Norm v m e) (h' : Norm v m' e') : m = m' ∧ e = e' := by
  rcases h with ⟨h0, h1, h2⟩ | ⟨h0, h1, h2, h3⟩
  · rcases h' with ⟨_, k1, k2⟩ | ⟨k0, _⟩
    · exact ⟨by rw [h1, k1], by rw [h2, k2]⟩
    · exact absurd h0 k0
  · rcases h' with ⟨k0, _⟩ | ⟨_, k1, k2, k3⟩
    · exact absurd k0 h0
    · obtain ⟨e1, e2⟩ := odd_two h1 k1 (h3.symm.trans k3)
      exact ⟨e2, by omega⟩

theorem Norm.of_normOf {x e0 m e' : Int} {T : Nat} (h : NormOf x e0 m e' T) (he : -100000 ≤ e0) : Norm (atK 100000 x e0) m e' := by
  have hat := h.at (K := 100000) (by omega)
  rcases h with ⟨h0, h1, h2⟩ | ⟨h0, t, h2, h3, h4, _⟩
  · exact .inl ⟨by rw [h0]; simp [atK], h1, h2⟩
  · refine .inr ⟨?_, h4, by omega, by rw [← hat]; rfl⟩
    unfold atK
    intro hz
    rcases Int.mul_eq_zero.1 hz with h5 | h5
    · exact h0 h5
    · have : (0 : Int) < 2 ^ (e0 + 100000).toNat := Int.pow_pos (by decide)
      omega

/-- What DyAdd, DyMul, DyDet answer of the number v. -/
def ResD (ok : Bool) (v : Int) (G : Bool) (Z : List Int) (E K : Int) : Prop :=
  (ok = false ∧ G = false ∧ Z = [] ∧ E = 0 ∧ K = 1) ∨ (ok = true ∧ ∃ m e, Norm v m e ∧ (((Fits m ∧ -20000 ≤ e ∧ e ≤ 20000) ∧ B1 G Z m ∧ E = e ∧ K = 0) ∨ (¬ (Fits m ∧ -20000 ≤ e ∧ e ≤ 20000) ∧ G = false ∧ Z = [] ∧ E = 0 ∧ K = 2)))

theorem ResD.inj {ok : Bool} {v : Int} {G G' : Bool} {Z Z' : List Int} {E E' K K' : Int} (h : ResD ok v G Z E K) (h' : ResD ok v G' Z' E' K') : G = G' ∧ Z = Z' ∧ E = E' ∧ K = K' := by
  rcases h with ⟨h0, h1, h2, h3, h4⟩ | ⟨h0, m, e, hN, hc⟩
  · rcases h' with ⟨_, k1, k2, k3, k4⟩ | ⟨k0, _⟩
    · rw [h1, h2, h3, h4, k1, k2, k3, k4]
      exact ⟨rfl, rfl, rfl, rfl⟩
    · rw [h0] at k0
      cases k0
  · rcases h' with ⟨k0, _⟩ | ⟨_, m', e', hN', hc'⟩
    · rw [h0] at k0
      cases k0
    · obtain ⟨e1, e2⟩ := hN.inj hN'
      subst e1 e2
      rcases hc with ⟨c0, c1, c3, c4⟩ | ⟨c0, c1, c2, c3, c4⟩
      · rcases hc' with ⟨_, k1, k3, k4⟩ | ⟨k0, _⟩
        · obtain ⟨e3, e4⟩ := c1.inj k1
          exact ⟨e3, e4, by rw [c3, k3], by rw [c4, k4]⟩
        · exact absurd c0 k0
      · rcases hc' with ⟨k0, _⟩ | ⟨_, k1, k2, k3, k4⟩
        · exact absurd k0 c0
        · rw [c1, c2, c3, c4, k1, k2, k3, k4]
          exact ⟨rfl, rfl, rfl, rfl⟩

theorem ResD.len {ok : Bool} {v : Int} {G : Bool} {Z : List Int} {E K : Int} (h : ResD ok v G Z E K) : Z.length ≤ 512 ∧ U32 Z := by
  rcases h with ⟨_, _, h2, _⟩ | ⟨_, m, e, _, ⟨⟨c0, _⟩, hB, _⟩ | ⟨_, _, c2, _⟩⟩
  · subst h2
    exact ⟨by simp, fun z hz => by cases hz⟩
  · exact ⟨hB.len c0, hB.can.1⟩
  · subst c2
    exact ⟨by simp, fun z hz => by cases hz⟩

/-- The normal form found by counting twos. -/
theorem norm_twos {g : Bool} {zs : List Int} {x E : Int} {t : Nat} (h : B1 g zs x) (hne : zs ≠ []) (hE : -100000 ≤ E) (ht : Twos (val 4294967296 zs) t) : Norm (atK 100000 x E) (sg g (val 4294967296 zs / 2 ^ t)) (E + t) := by
  obtain ⟨n1, n2⟩ := norm_of h.num ht
  have hv := val_pos (B := 4294967296) (by decide) h.can hne
  have hp : (0 : Int) < 2 ^ (E + 100000).toNat := Int.pow_pos (by decide)
  refine .inr ⟨?_, n2, by omega, ?_⟩
  · unfold atK
    intro hz
    rcases Int.mul_eq_zero.1 hz with h5 | h5
    · rw [h.num] at h5
      cases g <;> simp [sg] at h5 <;> omega
    · omega
  · unfold atK
    rw [n1, Int.mul_assoc, ← Int.pow_add, show t + (E + 100000).toNat = (E + ↑t + 100000).toNat by omega]

end Go.Proofs.YtladfpljnaippaaDoor

/-
  The model's answers of dyadic numbers.
-/
namespace Go.Proofs.YtladfpljnaippaaDoor
open Go.RowKit

/-- What a function of the model answers that gives a Dyadic and a code. -/
def OutDS (w : World) (ok : Bool) (v : Int) (e : Ending) (w' : World) : Prop :=
  ∃ (G : Bool) (Z : List Int) (E K : Int) (a : Option Addr) (c : Nat), e = .returned (.tuple #[.agg #[.bool G, .slice a Z.length c, .int .i64 E], .int .i64 K]) ∧ ResD ok v G Z E K ∧ RowAt .u32 w' a Z ∧ Far w.heap.size a Z ∧ Below w.heap.size w w'

/-- Another number is laid into the argument's box. -/
theorem Bx3.put {w : World} {u v e u' v' e' : Value} {W : World} (h : Bx3 w u v e W) : Bx3 w u' v' e' (((W.setCell ⟨w.heap.size, 0, none⟩ u').setCell ⟨w.heap.size, 1, none⟩ v').setCell ⟨w.heap.size, 2, none⟩ e') := by
  have o := h.le
  refine ⟨?_, ?_, ?_, ?_, ?_, ?_, ?_, by simpa using o, ((h.bel.setCell (by simp) _).setCell (by simp) _).setCell (by simp) _⟩
  · rw [World.cell?_setCell_other _ _ _ _ (by simp), World.cell?_setCell_other _ _ _ _ (by simp)]
    exact World.cell?_setCell_same _ _ _ h.q0
  · rw [World.cell?_setCell_other _ _ _ _ (by simp)]
    refine World.cell?_setCell_same _ _ _ (u := v) ?_
    rw [World.cell?_setCell_other _ _ _ _ (by simp)]
    exact h.q1
  · refine World.cell?_setCell_same _ _ _ (u := e) ?_
    rw [World.cell?_setCell_other _ _ _ _ (by simp), World.cell?_setCell_other _ _ _ _ (by simp)]
    exact h.q2
  · rw [World.cell?_setCell_other _ _ _ _ (by simp), World.cell?_setCell_other _ _ _ _ (by simp), World.cell?_setCell_other _ _ _ _ (by simp)]
    exact h.r1
  · rw [World.cell?_setCell_other _ _ _ _ (by simp), World.cell?_setCell_other _ _ _ _ (by simp), World.cell?_setCell_other _ _ _ _ (by simp)]
    exact h.r2
  · rw [World.cell?_setCell_other _ _ _ _ (by simp), World.cell?_setCell_other _ _ _ _ (by simp), World.cell?_setCell_other _ _ _ _ (by simp)]
    exact h.r3
  · intro j
    rw [World.frozen?_setCell, World.frozen?_setCell, World.frozen?_setCell]
    exact h.r4 j

set_option maxRecDepth 100000 in
set_option maxHeartbeats 4000000 in
theorem out2_any (g : Bool) (a : Option Addr) (c : Nat) (ds : List Int) (x E : Int) (w : World) (hn : ds.length ≤ 60000) (he0 : -100000 ≤ E) (he1 : E ≤ 1000000) (h : L1 w g a c ds x) :
    Calls Tryd.prog 18 #[.agg #[.bool g, .slice a ds.length c, .int .i64 E]] w fun e w' => OutDS w true (atK 100000 x E) e w' := by
  have B0 : Hid (∀ t t', Bx3 w (.bool g) (.slice a ds.length c) (.int .i64 E) ((w.alloc (.cells #[.bool g, .slice a ds.length c, .int .i64 E] t)).alloc (.cells #[.bool false, .slice none 0 0, .int .i64 0] t'))) := fun t t' => Bx3.start w _ _ _ _ _
  obtain ⟨v, hv⟩ : ∃ v, v = atK 100000 x E := ⟨_, rfl⟩
  have HV : Hid (v = atK 100000 x E) := hv
  rw [← hv]
  clear hv
  go_enter Tryd.func18, Tryd.ntmps18
  go_wp2_with fail
  refine (norm_any g a c ds x E _ hn (by omega) he1 (h.later (bel2 _ _ _))).mono ?_
  rintro e w1 ⟨m, e', hnf, g1, a1, c1, fs, rfl, hl1, hL1, hF1, hb1⟩
  have HN : Hid (Norm v m e') := by unfold Hid; rw [HV.out]; exact Norm.of_normOf hnf he0
  have F1 : Hid (Bx3 w (.bool g) (.slice a ds.length c) (.int .i64 E) w1) := (B0.out _ _).later hb1
  have fz : ∀ j, w1.frozen? ⟨w.heap.size, j, none⟩ = false := by intro j; rw [hb1.frozen (by simp; omega)]; simp [go_sem]
  have hF1' : Far (w.heap.size + 1 + 1) a1 fs := hF1.down (by simp)
  have F2 : Hid (Bx3 w (.bool g1) (.slice a1 fs.length c1) (.int .i64 e') (((w1.setCell ⟨w.heap.size, 0, none⟩ (.bool g1)).setCell ⟨w.heap.size, 1, none⟩ (.slice a1 fs.length c1)).setCell ⟨w.heap.size, 2, none⟩ (.int .i64 e'))) := F1.out.put
  have HL2 : Hid (L1 (((w1.setCell ⟨w.heap.size, 0, none⟩ (.bool g1)).setCell ⟨w.heap.size, 1, none⟩ (.slice a1 fs.length c1)).setCell ⟨w.heap.size, 2, none⟩ (.int .i64 e')) g1 a1 c1 fs m) := ((hL1.setFar hF1' (by simp; omega) _).setFar hF1' (by simp; omega) _).setFar hF1' (by simp; omega) _
  have hbe : -100000 ≤ e' ∧ e' ≤ 2000000 := by have := hnf.bound; omega
  obtain ⟨hbe0, hbe1⟩ := hbe
  have q0 := F1.out.q0
  have q1 := F1.out.q1
  have q2 := F1.out.q2
  clear hnf hL1 hF1 hF1' hb1 B0
  go_wp2_with fail
  refine (big_any g1 a1 c1 fs _ (by omega) HL2.out.sl.row HL2.out.can.1).mono ?_
  rintro e w3 ⟨a5, c5, rfl, hr5, hf5, hb5⟩
  have F3 : Hid (Bx3 w (.bool g1) (.slice a1 fs.length c1) (.int .i64 e') w3) := F2.out.later hb5
  have HBL : Hid (B1 g1 (joinL fs) m) := B1.of_l1 HL2.out
  have hs2 := F2.out.le
  have r1 := F3.out.r1
  have r2 := F3.out.r2
  have r3 := F3.out.r3
  have r4 := F3.out.r4
  have p2 := F3.out.q2
  have hs4 : w.heap.size + 1 < w3.heap.size := F3.out.le
  have hs5 : w.heap.size < w3.heap.size := by omega
  clear q0 q1 q2 fz hb5
  by_cases h5 : (joinL fs).length ≤ 512
  · have hbo : bigOut g1 fs = (g1, joinL fs, 0) := by unfold bigOut; rw [if_pos h5]
    rw [hbo] at hr5 hf5 ⊢
    have HR5 : Hid (RowAt .u32 w3 a5 (joinL fs)) := hr5
    have HF5 : Hid (Far (w.heap.size + 1 + 1) a5 (joinL fs)) := Far.down hf5 hs2
    clear hbo hr5 hf5
    by_cases hr : e' < -20000 ∨ 20000 < e'
    · have HO : Hid (ResD true v false [] 0 2) := .inr ⟨rfl, _, _, HN.out, .inr ⟨by omega, rfl, rfl, rfl, rfl⟩⟩
      by_cases hr1 : e' < -20000
      · go_wp2
        refine bodyPost_ret (v := .tuple #[.agg #[.bool false, .slice none 0 0, .int .i64 0], .int .i64 2]) (by simp [results, Tryd.results18, go_sem, r1, r2, r3, hs4]) rfl ?_
        have hb0 := F3.out.bel
        have hbl := ((F3.out.bel.setCell (p := ⟨w.heap.size + 1, 0, none⟩) (by simp) (.bool false)).setCell (p := ⟨w.heap.size + 1, 1, none⟩) (by simp) (.slice none 0 0)).setCell (p := ⟨w.heap.size + 1, 2, none⟩) (by simp) (.int .i64 0)
        refine ⟨false, [], 0, 2, none, 0, rfl, HO.out, .inl rfl, .inl rfl, ?_⟩
        first
          | exact hbl.alloc hbl.size _
          | exact hb0.alloc hb0.size _
          | exact hbl
          | exact hb0
      · have hr2 : 20000 < e' := by omega
        go_wp2
        refine bodyPost_ret (v := .tuple #[.agg #[.bool false, .slice none 0 0, .int .i64 0], .int .i64 2]) (by simp [results, Tryd.results18, go_sem, r1, r2, r3, hs4]) rfl ?_
        have hb0 := F3.out.bel
        have hbl := ((F3.out.bel.setCell (p := ⟨w.heap.size + 1, 0, none⟩) (by simp) (.bool false)).setCell (p := ⟨w.heap.size + 1, 1, none⟩) (by simp) (.slice none 0 0)).setCell (p := ⟨w.heap.size + 1, 2, none⟩) (by simp) (.int .i64 0)
        refine ⟨false, [], 0, 2, none, 0, rfl, HO.out, .inl rfl, .inl rfl, ?_⟩
        first
          | exact hbl.alloc hbl.size _
          | exact hb0.alloc hb0.size _
          | exact hbl
          | exact hb0
    · have HO : Hid (ResD true v g1 (joinL fs) e' 0) := .inr ⟨rfl, _, _, HN.out, .inl ⟨⟨HBL.out.fits h5, by omega, by omega⟩, HBL.out, rfl, rfl⟩⟩
      have hr1 : ¬ e' < -20000 := by omega
      have hr2 : ¬ 20000 < e' := by omega
      generalize joinL fs = Z at *
      go_wp2
      refine bodyPost_ret (v := .tuple #[.agg #[.bool g1, .slice a5 Z.length c5, .int .i64 e'], .int .i64 0]) (by simp [results, Tryd.results18, go_sem, r1, r2, r3, hs4]) rfl ?_
      have hbl := ((F3.out.bel.setCell (p := ⟨w.heap.size + 1, 0, none⟩) (by simp) (.bool g1)).setCell (p := ⟨w.heap.size + 1, 1, none⟩) (by simp) (.slice a5 Z.length c5)).setCell (p := ⟨w.heap.size + 1, 2, none⟩) (by simp) (.int .i64 e')
      refine ⟨g1, Z, e', 0, a5, c5, rfl, HO.out, ?_, HF5.out.down (by omega), hbl.alloc hbl.size _⟩
      exact (((HR5.out.setAway (HF5.out.away (by simp)) _).setAway (HF5.out.away (by simp)) _).setAway (HF5.out.away (by simp)) _).later (bel0 _ _)
  · have hbo : bigOut g1 fs = (false, [], 2) := by unfold bigOut; rw [if_neg h5]
    have HO : Hid (ResD true v false [] 0 2) := .inr ⟨rfl, _, _, HN.out, .inr ⟨fun h => h5 (HBL.out.len h.1), rfl, rfl, rfl, rfl⟩⟩
    rw [hbo] at hr5 hf5 ⊢
    clear hbo hr5 hf5
    go_wp2
    refine bodyPost_ret (v := .tuple #[.agg #[.bool false, .slice none 0 0, .int .i64 0], .int .i64 2]) (by simp [results, Tryd.results18, go_sem, r1, r2, r3, hs4]) rfl ?_
    have hb0 := F3.out.bel
    have hbl := ((F3.out.bel.setCell (p := ⟨w.heap.size + 1, 0, none⟩) (by simp) (.bool false)).setCell (p := ⟨w.heap.size + 1, 1, none⟩) (by simp) (.slice none 0 0)).setCell (p := ⟨w.heap.size + 1, 2, none⟩) (by simp) (.int .i64 0)
    refine ⟨false, [], 0, 2, none, 0, rfl, HO.out, .inl rfl, .inl rfl, ?_⟩
    first
      | exact hbl.alloc hbl.size _
      | exact hb0.alloc hb0.size _
      | exact hbl
      | exact hb0

end Go.Proofs.YtladfpljnaippaaDoor
