/-
  The program's DyAdd.
-/
import Derived.Test.YtladfpljnaippabDoorDyI5ToDyJMulF
import Derived.Test.YtladfpljnaippabDoorImplUDyN2DyOIDyOBF
import Derived.Test.YtladfpljnaippabDoorNumWToNumFlF
import Derived.Test.YtladfpljnaippabDoorBaseQF
import Derived.Test.YtladfpljnaippabDoorBox1QF
import Derived.Deep.QuietTactic
import Derived.BigQuiet
namespace Go.Proofs.YtladfpljnaippabDoor
open Go.RowKit

set_option maxRecDepth 100000 in
set_option maxHeartbeats 8000000 in
theorem addDI_bad (g g' : Bool) (a a' : Option Addr) (c c' : Nat) (zs ys : List Int) (E E' v : Int) (w : World) (hn : zs.length ≤ 1048576) (hn' : ys.length ≤ 1048576) (hz : RowAt .u32 w a zs) (hy : RowAt .u32 w a' ys) (hv : (validD g zs E && validD g' ys E') = false) :
    Calls Tryd.prog 65 #[.agg #[.bool g, .slice a zs.length c, .int .i64 E], .agg #[.bool g', .slice a' ys.length c', .int .i64 E']] w fun e w' => OutDI w false v e w' := by
  have B0 : Hid (∀ t t' t2, Bx7 w (.bool g) (.slice a zs.length c) (.int .i64 E) (.bool g') (.slice a' ys.length c') (.int .i64 E') (((w.alloc (.cells #[.bool g, .slice a zs.length c, .int .i64 E] t)).alloc (.cells #[.bool g', .slice a' ys.length c', .int .i64 E'] t')).alloc (.cells #[.bool false, .slice none 0 0, .int .i64 0] t2))) := fun t t' t2 => Bx7.start w _ _ _ _ _ _ _ _ _
  go_enter Tryd.func65, Tryd.ntmps65
  go_wp2_with fail
  refine (validsI_any _ 0 _ [⟨g, a, c, zs, E⟩, ⟨g', a', c', ys, E'⟩] _ (by simp) ?_ (two_rowD ?_ ?_ ?_ ?_ ?_ ?_ ?_ (hz.later ((B0.out _ _ _).bel.trans ((bel0 _ _).mono (B0.out _ _ _).bel.size))) (hy.later ((B0.out _ _ _).bel.trans ((bel0 _ _).mono (B0.out _ _ _).bel.size))))).mono ?_
  · intro d hd
    simp at hd
    rcases hd with rfl | rfl
    · exact hn
    · exact hn'
  · simp
  · simp [go_sem]
  · simp [go_sem]
  · simp [go_sem]
  · simp [go_sem]
  · simp [go_sem]
  · simp [go_sem]
  · rintro e w1 ⟨rfl, hb1⟩
    have HV : Hid ([(⟨g, a, c, zs, E⟩ : DV), ⟨g', a', c', ys, E'⟩].all DV.ok = false) := by unfold Hid; simpa [DV.ok] using hv
    rw [HV.out]
    have F1 : Hid (Bx7 w (.bool g) (.slice a zs.length c) (.int .i64 E) (.bool g') (.slice a' ys.length c') (.int .i64 E') w1) := ((B0.out _ _ _).later (bel0 _ _)).later hb1
    have r1 := F1.out.r1
    have r2 := F1.out.r2
    have r3 := F1.out.r3
    have r4 := F1.out.r4
    clear hb1 B0
    go_wp2
    refine bodyPost_ret (v := .tuple #[.agg #[.bool false, .slice none 0 0, .int .i64 0], .int .i64 1]) (by simp [results, Tryd.results65, go_sem, r1, r2, r3]) rfl ?_
    refine ⟨false, [], 0, 1, none, 0, rfl, .inl ⟨rfl, rfl, rfl, rfl, rfl⟩, .inl rfl, ?_⟩
    exact ((F1.out.bel.setCell (by simp; omega) _).setCell (by simp; omega) _).setCell (by simp; omega) _

set_option maxRecDepth 100000 in
set_option maxHeartbeats 8000000 in
theorem addDI_ok (g g' : Bool) (a a' : Option Addr) (c c' : Nat) (zs ys : List Int) (E E' : Int) (w : World) (hz : RowAt .u32 w a zs) (hy : RowAt .u32 w a' ys) (hu : U32 zs) (hu' : U32 ys) (v1 : validD g zs E = true) (v2 : validD g' ys E' = true) (hT : Tab w) :
    Calls Tryd.prog 65 #[.agg #[.bool g, .slice a zs.length c, .int .i64 E], .agg #[.bool g', .slice a' ys.length c', .int .i64 E']] w fun e w' => OutDI w true (atK 100000 (sg g (val 4294967296 zs)) E + atK 100000 (sg g' (val 4294967296 ys)) E') e w' := by
  obtain ⟨vb1, hE0, hE1⟩ := validD_parts v1
  obtain ⟨vb2, hE2, hE3⟩ := validD_parts v2
  have hn5 := (valid_canon hu vb1).2.1
  have hn5' := (valid_canon hu' vb2).2.1
  have hn : zs.length ≤ 1048576 := Nat.le_trans hn5 (by decide)
  have hn' : ys.length ≤ 1048576 := Nat.le_trans hn5' (by decide)
  have HBz : Hid (B1 g zs (sg g (val 4294967296 zs))) := B1.of_valid hu vb1
  have HBy : Hid (B1 g' ys (sg g' (val 4294967296 ys))) := B1.of_valid hu' vb2
  obtain ⟨v, hv⟩ : ∃ v, v = atK 100000 (sg g (val 4294967296 zs)) E + atK 100000 (sg g' (val 4294967296 ys)) E' := ⟨_, rfl⟩
  have HV : Hid (v = atK 100000 (sg g (val 4294967296 zs)) E + atK 100000 (sg g' (val 4294967296 ys)) E') := hv
  rw [← hv]
  clear hv
  have B0 : Hid (∀ t t' t2, Bx7 w (.bool g) (.slice a zs.length c) (.int .i64 E) (.bool g') (.slice a' ys.length c') (.int .i64 E') (((w.alloc (.cells #[.bool g, .slice a zs.length c, .int .i64 E] t)).alloc (.cells #[.bool g', .slice a' ys.length c', .int .i64 E'] t')).alloc (.cells #[.bool false, .slice none 0 0, .int .i64 0] t2))) := fun t t' t2 => Bx7.start w _ _ _ _ _ _ _ _ _
  go_enter Tryd.func65, Tryd.ntmps65
  go_wp2_with fail
  refine (validsI_any _ 0 _ [⟨g, a, c, zs, E⟩, ⟨g', a', c', ys, E'⟩] _ (by simp) ?_ (two_rowD ?_ ?_ ?_ ?_ ?_ ?_ ?_ (hz.later ((B0.out _ _ _).bel.trans ((bel0 _ _).mono (B0.out _ _ _).bel.size))) (hy.later ((B0.out _ _ _).bel.trans ((bel0 _ _).mono (B0.out _ _ _).bel.size))))).mono ?_
  · intro d hd
    simp at hd
    rcases hd with rfl | rfl
    · exact hn
    · exact hn'
  · simp
  · simp [go_sem]
  · simp [go_sem]
  · simp [go_sem]
  · simp [go_sem]
  · simp [go_sem]
  · simp [go_sem]
  · rintro e W1 ⟨rfl, hb1⟩
    have HVV : Hid ([(⟨g, a, c, zs, E⟩ : DV), ⟨g', a', c', ys, E'⟩].all DV.ok = true) := by unfold Hid; simp [DV.ok, v1, v2]
    rw [HVV.out]
    have F1 : Hid (Bx7 w (.bool g) (.slice a zs.length c) (.int .i64 E) (.bool g') (.slice a' ys.length c') (.int .i64 E') W1) := ((B0.out _ _ _).later (bel0 _ _)).later hb1
    have s0 := F1.out.q0
    have s1 := F1.out.q1
    have s2 := F1.out.q2
    have s3 := F1.out.p0
    have s4 := F1.out.p1
    have s5 := F1.out.p2
    have hl1 := F1.out.le
    have za : w.heap.size < W1.heap.size := by omega
    have zb : w.heap.size + 1 < W1.heap.size := by omega
    clear hb1 B0
    have hz1 := hz.later F1.out.bel
    have hy1 := hy.later F1.out.bel
    have HRT : Hid (RowT (((W1.alloc (.cells #[.bool g, .slice a zs.length c, .int .i64 E] 29)).alloc (.cells #[.bool g', .slice a' ys.length c', .int .i64 E'] 29)).alloc (.cells #[.slice (some ⟨W1.heap.size, 0, none⟩) 1 1, .slice (some ⟨W1.heap.size + 1, 0, none⟩) 1 1] 75)) (W1.heap.size + 1 + 1) 0 [⟨W1.heap.size, 0, 1, [⟨g, a, c, zs, E⟩]⟩, ⟨W1.heap.size + 1, 0, 1, [⟨g', a', c', ys, E'⟩]⟩]) := by
      unfold Hid
      exact two_rowT (by simp) (by simp [go_sem]) (by simp [go_sem]) (RowD.later (RowD.later (one_rowD (by simp) (by simp [go_sem]) (by simp [go_sem]) (by simp [go_sem]) (hz1.later (bel0 _ _))) (bel0 _ _)) (bel0 _ _)) (RowD.later (one_rowD (by simp) (by simp [go_sem]) (by simp [go_sem]) (by simp [go_sem]) (hy1.later (bel2 _ _ _))) (bel0 _ _))
    clear hz1 hy1
    go_wp2_with fail
    refine (sumP_any prodSaysJ _ 0 _ [⟨W1.heap.size, 0, 1, [⟨g, a, c, zs, E⟩]⟩, ⟨W1.heap.size + 1, 0, 1, [⟨g', a', c', ys, E'⟩]⟩] _ (by simp) ?_ HRT.out).mono ?_
    · intro t ht
      simp at ht
      rcases ht with rfl | rfl
      · refine ⟨by simp, fun d hd => ?_⟩
        simp at hd
        subst hd
        exact ⟨hn5, hE0, hE1, HBz.out⟩
      · refine ⟨by simp, fun d hd => ?_⟩
        simp at hd
        subst hd
        exact ⟨hn5', hE2, hE3, HBy.out⟩
    · rintro e W2 ⟨G, a4, c4, f4, m, e4, rfl, hB4, hl4, hK4, he0, he1, hr4, hF4, hb4⟩
      have hVK : atK 100000 m e4 = v := by rw [hK4 100000 (by decide), HV.out]; simp [sumK, prodM, sumE]
      have hl5 : f4.length ≤ 60000 ∧ f4.length ≤ c4 ∧ c4 ≤ maxLen := by simp at hl4; omega
      have hb12 : Below W1.heap.size W1 W2 := (bel3 _ _ _ _).trans (hb4.mono (by simp; omega))
      have F2 : Hid (Bx7 w (.bool g) (.slice a zs.length c) (.int .i64 E) (.bool g') (.slice a' ys.length c') (.int .i64 E') W2) := F1.out.later hb12
      have HB4 : Hid (B1 G f4 m) := hB4
      have HR4 : Hid (RowAt .u32 W2 a4 f4) := hr4
      have hVK' : Hid (atK 100000 m e4 = v) := hVK
      have HT2 : Hid (Tab W2) := (hT.later F1.out.bel).later hb12
      clear hB4 hK4 hr4 hF4 hb4 hVK HRT s0 s1 s2 s3 s4 s5 hb12 hl4
      go_wp2_with fail
      refine (normalI_any G a4 c4 f4 m e4 _ hl5.1 he0 he1 HR4.out HB4.out hl5.2 HT2.out).mono ?_
      rintro e W3 ⟨G5, Z, E5, K, a5, c5, rfl, hres, hr5, hb5⟩
      rw [hVK'.out] at hres
      have F3 : Hid (Bx7 w (.bool g) (.slice a zs.length c) (.int .i64 E) (.bool g') (.slice a' ys.length c') (.int .i64 E') W3) := F2.out.later hb5
      have HR : Hid (ResD true v G5 Z E5 K) := hres
      have HA : Hid (RowNew .u32 W3 (w.heap.size + 1 + 1 + 1) a5 Z) := hr5.down F2.out.le
      have r1 := F3.out.r1
      have r2 := F3.out.r2
      have r3 := F3.out.r3
      have r4 := F3.out.r4
      clear hres hr5 hb5
      go_wp2
      refine bodyPost_ret (v := .tuple #[.agg #[.bool G5, .slice a5 Z.length c5, .int .i64 E5], .int .i64 K]) (by simp [results, Tryd.results65, go_sem, r1, r2, r3]) rfl ?_
      refine ⟨G5, Z, E5, K, a5, c5, rfl, HR.out, ?_, ?_⟩
      · exact (((HA.out.setLow (by simp) _).setLow (by simp) _).setLow (by simp) _).down (by omega)
      · exact ((F3.out.bel.setCell (by simp; omega) _).setCell (by simp; omega) _).setCell (by simp; omega) _

theorem addDI_any (g g' : Bool) (a a' : Option Addr) (c c' : Nat) (zs ys : List Int) (E E' : Int) (w : World) (hn : zs.length ≤ 1048576) (hn' : ys.length ≤ 1048576) (hz : RowAt .u32 w a zs) (hy : RowAt .u32 w a' ys) (hu : U32 zs) (hu' : U32 ys) (hT : Tab w) :
    Calls Tryd.prog 65 #[.agg #[.bool g, .slice a zs.length c, .int .i64 E], .agg #[.bool g', .slice a' ys.length c', .int .i64 E']] w fun e w' => OutDI w (validD g zs E && validD g' ys E') (atK 100000 (sg g (val 4294967296 zs)) E + atK 100000 (sg g' (val 4294967296 ys)) E') e w' := by
  cases hv : validD g zs E && validD g' ys E'
  · exact addDI_bad g g' a a' c c' zs ys E E' _ w hn hn' hz hy hv
  · obtain ⟨v1, v2⟩ := Bool.and_eq_true_iff.1 hv
    exact addDI_ok g g' a a' c c' zs ys E E' w hz hy hu hu' v1 v2 hT

end Go.Proofs.YtladfpljnaippabDoor

/-
  The laws' gap: the distance of a number from a float.
-/
namespace Go.Proofs.YtladfpljnaippabDoor
open Go.RowKit

/-- What gap hands back: the distance d. -/
def GapOut (w : World) (d : Int) (e : Ending) (w' : World) : Prop :=
  ∃ (a : Option Addr) (c : Nat) (Z : List Int) (E : Int), e = .returned (.tuple #[.agg #[.bool false, .slice a Z.length c, .int .i64 E], .bool true]) ∧ validD false Z E = true ∧ atK 100000 (val 4294967296 Z) E = d ∧ U32 Z ∧ Z.length ≤ 512 ∧ RowAt .u32 w' a Z ∧ Below w.heap.size w w'

set_option maxRecDepth 100000 in
set_option maxHeartbeats 4000000 in
theorem gap_any (g : Bool) (a : Option Addr) (c : Nat) (zs : List Int) (E b : Int) (w : World) (hv : validD g zs E = true) (hu : U32 zs) (hl : zs.length ≤ 512) (hz : RowAt .u32 w a zs) (hg : GoodV 6000 (atK 100000 (sg g (val 4294967296 zs)) E)) (h0 : 0 ≤ b) (h1 : b < 4294967296) (hf : fFin b = true) (hT : Tab w) :
    Calls Tryd.prog 19 #[.agg #[.bool g, .slice a zs.length c, .int .i64 E], .int .u32 b] w fun e w' => GapOut w ((atK 100000 (sg g (val 4294967296 zs)) E - vF b).natAbs : Int) e w' := by
  have HT : Hid (Tab w) := hT
  have HZ : Hid (RowAt .u32 w a zs) := hz
  have HU : Hid (U32 zs) := hu
  have HG : Hid (GoodV 6000 (atK 100000 (sg g (val 4294967296 zs)) E)) := hg
  have HV : Hid (validD g zs E = true) := hv
  have HF : Hid (fFin b = true) := hf
  clear hT hz hu hg hv hf
  go_enter Tryd.func19, Tryd.ntmps19
  go_wp2_with fail
  obtain ⟨W0, hW0⟩ : ∃ W0, W0 = (w.alloc (.cells #[.bool g, .slice a zs.length c, .int .i64 E] 29)).alloc (.cells #[.bool false, .slice none 0 0, .int .i64 0] 29) := ⟨_, rfl⟩
  rw [← hW0]
  have hb0 : Below w.heap.size w W0 := by rw [hW0]; exact bel2 _ _ _
  have hs0 : W0.heap.size = w.heap.size + 2 := by rw [hW0]; simp
  have a0 : W0.cell? ⟨w.heap.size, 0, none⟩ = some (.bool g) := by rw [hW0]; simp [go_sem]
  have a1 : W0.cell? ⟨w.heap.size, 1, none⟩ = some (.slice a zs.length c) := by rw [hW0]; simp [go_sem]
  have a2 : W0.cell? ⟨w.heap.size, 2, none⟩ = some (.int .i64 E) := by rw [hW0]; simp [go_sem]
  have r1 : W0.cell? ⟨w.heap.size + 1, 0, none⟩ = some (.bool false) := by rw [hW0]; simp [go_sem]
  have r2 : W0.cell? ⟨w.heap.size + 1, 1, none⟩ = some (.slice none 0 0) := by rw [hW0]; simp [go_sem]
  have r3 : W0.cell? ⟨w.heap.size + 1, 2, none⟩ = some (.int .i64 0) := by rw [hW0]; simp [go_sem]
  have r4 : ∀ j, W0.frozen? ⟨w.heap.size + 1, j, none⟩ = false := by intro j; rw [hW0]; simp [go_sem]
  have HB0 : Hid (Below w.heap.size w W0) := hb0
  clear hW0 hb0
  refine (dyOfI_any b _ h0 h1 (HT.out.later HB0.out)).mono ?_
  rintro e W1 ⟨Gf, Zf, Ef, Kf, af, cf, rfl, hresf, hrf, hb1⟩
  rw [HF.out] at hresf
  have hKf : Kf = 0 := (vF_good h0).ok (by decide) hresf
  subst hKf
  have HRf : Hid (ResD true (vF b) Gf Zf Ef 0) := hresf
  have HRow : Hid (RowAt .u32 W1 af Zf) := hrf.row
  have HB1 : Hid (Below W0.heap.size W0 W1) := hb1
  have hlf : Zf.length ≤ 512 := hresf.len.1
  clear hresf hrf hb1
  obtain ⟨W2, hW2⟩ : ∃ W2, W2 = (W1.alloc (.cells #[.bool Gf, .slice af Zf.length cf, .int .i64 Ef] 29)).alloc (.cells #[.int .u32 1] 33) := ⟨_, rfl⟩
  have hb2 : Below W1.heap.size W1 W2 := by rw [hW2]; exact bel2 _ _ _
  have h1r : RowAt .u32 W2 (some ⟨W1.heap.size + 1, 0, none⟩) [1] := by
    refine .inr ⟨W1.heap.size + 1, 0, rfl, by rw [hW2]; simp, fun j hj => ?_⟩
    have : j = 0 := by simpa using hj
    subst this
    rw [hW2]
    simp [go_sem]
  have u1 : U32 [1] := by
    intro z hz
    have : z = 1 := by simpa using hz
    omega
  have HB2 : Hid (Below w.heap.size w W2) := (HB0.out.trans (HB1.out.mono HB0.out.size)).trans (hb2.mono (by have := HB0.out.size; have := HB1.out.size; omega))
  have HMul := mulDI_any Gf true af (some ⟨W1.heap.size + 1, 0, none⟩) cf 1 Zf [1] Ef 0 W2 (by omega) (by decide) (HRow.out.later hb2) h1r HRf.out.len.2 u1 (HT.out.later HB2.out)
  have HMM : Hid (Calls Tryd.prog 13 #[.agg #[.bool Gf, .slice af Zf.length cf, .int .i64 Ef], .agg #[.bool true, .slice (some ⟨W1.heap.size + 1, 0, none⟩) 1 1, .int .i64 0]] W2 fun e w' => OutDI W2 (validD Gf Zf Ef && validD true [1] 0) (atK 100000 ((sg Gf (val 4294967296 Zf)) * (sg true (val 4294967296 [1]))) (Ef + 0)) e w') := HMul
  clear HMul u1 h1r
  go_wp2_with fail
  rw [← hW2]
  refine HMM.out.mono ?_
  rintro e W3 ⟨Gm, Zm, Em, Km, am, cm, rfl, hresm, hrm, hb3⟩
  have hval : atK 100000 ((sg Gf (val 4294967296 Zf)) * (sg true (val 4294967296 [1]))) (Ef + 0) = -(vF b) := by
    rw [← HRf.out.good.2.2.1, Int.add_zero, show sg true (val 4294967296 [1]) = -1 by decide, Int.mul_neg, Int.mul_one, atK_neg]
  rw [HRf.out.good.2.1, show validD true [1] 0 = true by decide, hval] at hresm
  have hKm : Km = 0 := (vF_good h0).neg.ok (by decide) hresm
  subst hKm
  have HRm : Hid (ResD true (-(vF b)) Gm Zm Em 0) := hresm
  have hbb : Below W0.heap.size W0 W3 := (HB1.out.trans (hb2.mono HB1.out.size)).trans (hb3.mono (by have := HB1.out.size; have := hb2.size; omega))
  have HB3 : Hid (Below W0.heap.size W0 W3) := hbb
  have HRowm : Hid (RowAt .u32 W3 am Zm) := hrm.row
  have hlm : Zm.length ≤ 512 := hresm.len.1
  have b0 : W3.cell? ⟨w.heap.size, 0, none⟩ = some (.bool g) := by rw [(bcell hbb).1 _ _ (by omega)]; exact a0
  have b1 : W3.cell? ⟨w.heap.size, 1, none⟩ = some (.slice a zs.length c) := by rw [(bcell hbb).1 _ _ (by omega)]; exact a1
  have b2 : W3.cell? ⟨w.heap.size, 2, none⟩ = some (.int .i64 E) := by rw [(bcell hbb).1 _ _ (by omega)]; exact a2
  have hs3 : w.heap.size + 2 ≤ W3.heap.size := by have := hbb.size; omega
  have hlt3 : w.heap.size < W3.heap.size := by omega
  have HBw3 : Hid (Below w.heap.size w W3) := HB0.out.trans (hbb.mono HB0.out.size)
  clear hresm hval hb3 hrm hb2 hW2 HMM HRow HB1 HB2 a0 a1 a2
  go_wp2_with fail
  refine (addDI_any g Gm a am c cm zs Zm E Em _ (by omega) (by omega) ((HZ.out.later HBw3.out).later (bel0 _ _)) (HRowm.out.later (bel0 _ _)) HU.out HRm.out.len.2 ((HT.out.later HBw3.out).later (bel0 _ _))).mono ?_
  rintro e W4 ⟨Gd, Zd, Ed, Kd, ad, cd, rfl, hresd, hrd, hb4⟩
  rw [HV.out, HRm.out.good.2.1, HRm.out.good.2.2.1] at hresd
  have hresd' : ResD true (atK 100000 (sg g (val 4294967296 zs)) E - vF b) Gd Zd Ed Kd := by rw [Int.sub_eq_add_neg]; exact hresd
  have hKd : Kd = 0 := (HG.out.sub (vF_good h0)).ok (by decide) hresd'
  subst hKd
  obtain ⟨g1, g2⟩ := abs_good hresd'
  have hbb4 : Below W3.heap.size W3 W4 := (bel0 _ _).trans (hb4.mono (by simp))
  have HO : Hid (∀ W, Below W4.heap.size W4 W → GapOut w ((atK 100000 (sg g (val 4294967296 zs)) E - vF b).natAbs : Int) (.returned (.tuple #[.agg #[.bool false, .slice ad Zd.length cd, .int .i64 Ed], .bool true])) (((W.setCell ⟨w.heap.size + 1, 0, none⟩ (.bool false)).setCell ⟨w.heap.size + 1, 1, none⟩ (.slice ad Zd.length cd)).setCell ⟨w.heap.size + 1, 2, none⟩ (.int .i64 Ed))) := by
    intro W hW
    have hfar : Far (w.heap.size + 2) ad Zd := hrd.far (Nat.le_refl _) (by simp; omega)
    have hBW : Below w.heap.size w W := (HBw3.out.trans (hbb4.mono HBw3.out.size)).trans (hW.mono (by have := hbb4.size; omega))
    refine ⟨ad, cd, Zd, Ed, rfl, g1, g2, hresd'.len.2, hresd'.len.1, ?_, ((hBW.setCell (by simp) _).setCell (by simp) _).setCell (by simp) _⟩
    exact (((hrd.row.later hW).setAway (hfar.away (by simp)) _).setAway (hfar.away (by simp)) _).setAway (hfar.away (by simp)) _
  have hB04 : Below W0.heap.size W0 W4 := HB3.out.trans (hbb4.mono HB3.out.size)
  have s1 : W4.cell? ⟨w.heap.size + 1, 0, none⟩ = some (.bool false) := by rw [(bcell hB04).1 _ _ (by omega)]; exact r1
  have s2 : W4.cell? ⟨w.heap.size + 1, 1, none⟩ = some (.slice none 0 0) := by rw [(bcell hB04).1 _ _ (by omega)]; exact r2
  have s3 : W4.cell? ⟨w.heap.size + 1, 2, none⟩ = some (.int .i64 0) := by rw [(bcell hB04).1 _ _ (by omega)]; exact r3
  have s4 : ∀ j, W4.frozen? ⟨w.heap.size + 1, j, none⟩ = false := fun j => by rw [(bcell hB04).2 _ _ (by omega)]; exact r4 j
  have hs4 : w.heap.size + 1 < W4.heap.size := by have := hB04.size; omega
  clear hresd hresd' hrd hb4 hbb4 hB04 g1 g2 b0 b1 b2 r1 r2 r3 r4
  go_wp2
  refine bodyPost_ret (v := .tuple #[.agg #[.bool false, .slice ad Zd.length cd, .int .i64 Ed], .bool true]) (by simp [results, Tryd.results19, go_sem, s1, s2, s3, hs4]) rfl ?_
  first
    | exact HO.out _ (Below.refl _ _)
    | (have h := HO.out _ (bel0 W4 (.cells #[.bool false, .slice ad Zd.length cd, .int .i64 Ed] 29)); simpa [go_sem, hs4] using h)

end Go.Proofs.YtladfpljnaippabDoor

/-
  Writes within some blocks; rows that lie in some blocks.
-/
namespace Go.Proofs.YtladfpljnaippabDoor
open Go.RowKit

/-- Only blocks from lo to below hi have turned. -/
structure Within (lo hi : Nat) (w w' : World) : Prop where
  os : w'.os = w.os
  tape : w'.tape = w.tape
  output : w'.output = w.output
  size : w'.heap.size = w.heap.size
  block : ∀ k, (k < lo ∨ hi ≤ k) → w'.heap[k]? = w.heap[k]?

theorem Within.refl (lo hi : Nat) (w : World) : Within lo hi w w := ⟨rfl, rfl, rfl, rfl, fun _ _ => rfl⟩

theorem Within.below {lo hi : Nat} {w w' : World} (h : Within lo hi w w') : Below lo w w' := ⟨h.os, h.tape, h.output, by rw [h.size]; omega, fun k hk => h.block k (.inl hk)⟩

theorem Within.setCell {lo hi : Nat} {a w : World} (h : Within lo hi a w) {p : Addr} (h1 : lo ≤ p.block) (h2 : p.block < hi) (u : Value) : Within lo hi a (w.setCell p u) :=
  ⟨h.os, h.tape, h.output, by simpa using h.size, fun k hk => (Below.heap_setCell _ _ _ _ (by omega)).trans (h.block k hk)⟩

theorem Within.cell {lo hi : Nat} {w w' : World} (h : Within lo hi w w') {p : Addr} (hp : p.block < lo ∨ hi ≤ p.block) : w'.cell? p = w.cell? p := World.cell?_of_block (w := w) (h.block p.block hp)
theorem Within.frozen {lo hi : Nat} {w w' : World} (h : Within lo hi w w') {p : Addr} (hp : p.block < lo ∨ hi ≤ p.block) : w'.frozen? p = w.frozen? p := World.frozen?_of_block (w := w) (h.block p.block hp)

/-- A row of numbers that may be written, in blocks from lo to below hi. -/
def RowIn (k : IntKind) (w : World) (lo hi : Nat) (a : Option Addr) (zs : List Int) : Prop :=
  zs = [] ∨ ∃ b off, a = some ⟨b, off, none⟩ ∧ lo ≤ b ∧ b < hi ∧ b < w.heap.size ∧ (∀ j, j < zs.length → w.cell? ⟨b, off + j, none⟩ = some (.int k (zs.getD j 0))) ∧ ∀ j, j < zs.length → w.frozen? ⟨b, off + j, none⟩ = false

theorem RowIn.row {k : IntKind} {w : World} {lo hi : Nat} {a : Option Addr} {zs : List Int} (h : RowIn k w lo hi a zs) : RowAt k w a zs := by
  rcases h with h | ⟨b, off, h1, _, _, h2, h3, _⟩
  · exact .inl h
  · exact .inr ⟨b, off, h1, h2, h3⟩

theorem RowNew.rowIn {k : IntKind} {w : World} {B : Nat} {a : Option Addr} {zs : List Int} (h : RowNew k w B a zs) : RowIn k w B w.heap.size a zs := by
  rcases h with h | ⟨b, off, h1, h0, h2, h3, h4⟩
  · exact .inl h
  · exact .inr ⟨b, off, h1, h0, h2, h2, h3, h4⟩

theorem RowIn.later {k : IntKind} {w w' : World} {lo hi : Nat} {a : Option Addr} {zs : List Int} (h : RowIn k w lo hi a zs) (hb : Below w.heap.size w w') : RowIn k w' lo hi a zs := by
  rcases h with h | ⟨b, off, h1, h0, h00, h2, h3, h4⟩
  · exact .inl h
  · exact .inr ⟨b, off, h1, h0, h00, Nat.lt_of_lt_of_le h2 hb.size, fun j hj => (hb.cell (p := ⟨b, off + j, none⟩) h2).trans (h3 j hj), fun j hj => (hb.frozen (p := ⟨b, off + j, none⟩) h2).trans (h4 j hj)⟩

theorem RowIn.apart {k : IntKind} {w w' : World} {lo hi lo' hi' : Nat} {a : Option Addr} {zs : List Int} (h : RowIn k w lo hi a zs) (hb : Within lo' hi' w w') (hd : hi ≤ lo' ∨ hi' ≤ lo) : RowIn k w' lo hi a zs := by
  rcases h with h | ⟨b, off, h1, h0, h00, h2, h3, h4⟩
  · exact .inl h
  · exact .inr ⟨b, off, h1, h0, h00, by rw [hb.size]; exact h2, fun j hj => (hb.cell (p := ⟨b, off + j, none⟩) (by simp; omega)).trans (h3 j hj), fun j hj => (hb.frozen (p := ⟨b, off + j, none⟩) (by simp; omega)).trans (h4 j hj)⟩

end Go.Proofs.YtladfpljnaippabDoor

/-
  The reader of a code's bytes: what it holds, and what it leaves alone.
-/
namespace Go.Proofs.YtladfpljnaippabDoor
open Go.RowKit

/-- Of the memory of w nothing but block P has turned. -/
structure Aside (P : Nat) (w w' : World) : Prop where
  os : w'.os = w.os
  tape : w'.tape = w.tape
  output : w'.output = w.output
  size : w.heap.size ≤ w'.heap.size
  block : ∀ k, k < w.heap.size → k ≠ P → w'.heap[k]? = w.heap[k]?

theorem Aside.refl (P : Nat) (w : World) : Aside P w w := ⟨rfl, rfl, rfl, Nat.le_refl _, fun _ _ _ => rfl⟩

theorem Aside.trans {P : Nat} {a b c : World} (h : Aside P a b) (k : Aside P b c) : Aside P a c :=
  ⟨k.os.trans h.os, k.tape.trans h.tape, k.output.trans h.output, Nat.le_trans h.size k.size, fun i hi hp => (k.block i (Nat.lt_of_lt_of_le hi h.size) hp).trans (h.block i hi hp)⟩

theorem Aside.of {P : Nat} {w w' : World} (h : Below w.heap.size w w') : Aside P w w' := ⟨h.os, h.tape, h.output, h.size, fun k hk _ => h.block k hk⟩

theorem Aside.set {P : Nat} {w w' : World} (h : Aside P w w') (j : Nat) (v : Value) : Aside P w (w'.setCell ⟨P, j, none⟩ v) := by
  have hb : Within P (P + 1) w' (w'.setCell ⟨P, j, none⟩ v) := (Within.refl P (P + 1) w').setCell (p := ⟨P, j, none⟩) (Nat.le_refl _) (Nat.lt_succ_self _) v
  exact ⟨hb.os.trans h.os, hb.tape.trans h.tape, hb.output.trans h.output, by rw [hb.size]; exact h.size, fun k hk hp => (hb.block k (by omega)).trans (h.block k hk hp)⟩

/-- A store above all of w. -/
theorem Aside.setHigh {P : Nat} {w w' : World} (h : Aside P w w') {p : Addr} (hp : w.heap.size ≤ p.block) (v : Value) : Aside P w (w'.setCell p v) := by
  have hb : Within p.block (p.block + 1) w' (w'.setCell p v) := (Within.refl _ _ _).setCell (Nat.le_refl _) (Nat.lt_succ_self _) v
  exact ⟨hb.os.trans h.os, hb.tape.trans h.tape, hb.output.trans h.output, by rw [hb.size]; exact h.size, fun k hk hp' => (hb.block k (by omega)).trans (h.block k hk hp')⟩

/-- What turns only above all of w. -/
theorem Aside.high {P B : Nat} {w w' w'' : World} (h : Aside P w w') (hb : Below B w' w'') (hB : w.heap.size ≤ B) : Aside P w w'' :=
  ⟨hb.os.trans h.os, hb.tape.trans h.tape, hb.output.trans h.output, Nat.le_trans h.size hb.size, fun k hk hp => (hb.block k (by omega)).trans (h.block k hk hp)⟩

theorem Aside.below {P B : Nat} {w w' : World} (h : Aside P w w') (hB : B ≤ P) (hS : B ≤ w.heap.size) : Below B w w' :=
  ⟨h.os, h.tape, h.output, h.size, fun k hk => h.block k (by omega) (by omega)⟩

theorem Aside.cell {P : Nat} {w w' : World} (h : Aside P w w') {p : Addr} (hp : p.block < w.heap.size) (hq : p.block ≠ P) : w'.cell? p = w.cell? p := World.cell?_of_block (w := w) (h.block p.block hp hq)
theorem Aside.frozen {P : Nat} {w w' : World} (h : Aside P w w') {p : Addr} (hp : p.block < w.heap.size) (hq : p.block ≠ P) : w'.frozen? p = w.frozen? p := World.frozen?_of_block (w := w) (h.block p.block hp hq)

theorem Aside.row {P : Nat} {k : IntKind} {w w' : World} {a : Option Addr} {zs : List Int} (h : Aside P w w') (hr : RowAt k w a zs) (hp : ∀ b off, a = some ⟨b, off, none⟩ → zs ≠ [] → b ≠ P) : RowAt k w' a zs := by
  by_cases e : zs = []
  · exact .inl e
  · rcases hr with hr | ⟨b, off, h1, h2, h3⟩
    · exact .inl hr
    · exact .inr ⟨b, off, h1, Nat.lt_of_lt_of_le h2 h.size, fun j hj => (h.cell (p := ⟨b, off + j, none⟩) h2 (hp b off h1 e)).trans (h3 j hj)⟩

theorem Aside.own {P : Nat} {w w' : World} {base : Nat} {e : TypeId} {v : Value} {n : Nat} {xs : List Value} (h : Aside P w w') (ho : w.ownsRow base e 1 v n xs) (hp : P < base) : w'.ownsRow base e 1 v n xs := by
  refine ⟨ho.1, ?_⟩
  rcases ho.2 with h1 | ⟨g, cap, cur, h1, h2, h3, h4⟩
  · exact .inl h1
  · refine .inr ⟨g, cap, cur, h1, h2, ?_, h4⟩
    have hg : g < w.heap.size := by
      by_cases hp : g < w.heap.size
      · exact hp
      · rw [Array.getElem?_eq_none (by omega)] at h3; cases h3
    rw [h.block g hg (by omega)]
    exact h3

/-- The reader in block P: its bytes, which lie elsewhere, and its place. -/
structure Rd (P : Nat) (W : World) : Prop where
  ex : ∃ (a : Option Addr) (c : Nat) (bs : List Int) (i : Nat), W.cell? ⟨P, 0, none⟩ = some (.slice a bs.length c) ∧ W.cell? ⟨P, 1, none⟩ = some (.int .i64 i) ∧ i ≤ bs.length ∧ bs.length ≤ 500 ∧ RowAt .u8 W a bs ∧ (∀ b off, a = some ⟨b, off, none⟩ → bs ≠ [] → b < P) ∧ Dig 256 bs
  free : ∀ j, W.frozen? ⟨P, j, none⟩ = false
  lt : P < W.heap.size

theorem Rd.later {P : Nat} {W W' : World} (h : Rd P W) (hb : Below W.heap.size W W') : Rd P W' := by
  obtain ⟨⟨a, c, bs, i, h1, h2, h3, h4, h5, h6, h7⟩, hf, hl⟩ := h
  exact ⟨⟨a, c, bs, i, (hb.cell (p := ⟨P, 0, none⟩) hl).trans h1, (hb.cell (p := ⟨P, 1, none⟩) hl).trans h2, h3, h4, h5.later hb, h6, h7⟩, fun j => (hb.frozen (p := ⟨P, j, none⟩) hl).trans (hf j), Nat.lt_of_lt_of_le hl hb.size⟩

/-- What turns only above the reader. -/
theorem Rd.above {P B : Nat} {W W' : World} (h : Rd P W) (hb : Below B W W') (hB : P < B) : Rd P W' := by
  obtain ⟨⟨a, c, bs, i, h1, h2, h3, h4, h5, h6, h7⟩, hf, hl⟩ := h
  refine ⟨⟨a, c, bs, i, (hb.cell (p := ⟨P, 0, none⟩) hB).trans h1, (hb.cell (p := ⟨P, 1, none⟩) hB).trans h2, h3, h4, ?_, h6, h7⟩, fun j => (hb.frozen (p := ⟨P, j, none⟩) hB).trans (hf j), Nat.lt_of_lt_of_le hl hb.size⟩
  by_cases e : bs = []
  · exact .inl e
  · rcases h5 with h5 | ⟨b, off, g1, g2, g3⟩
    · exact .inl h5
    · have := h6 b off g1 e
      exact .inr ⟨b, off, g1, Nat.lt_of_lt_of_le g2 hb.size, fun j hj => (hb.cell (p := ⟨b, off + j, none⟩) (by simp; omega)).trans (g3 j hj)⟩

/-- What next hands back. -/
def NextOut (P : Nat) (w : World) (e : Ending) (w' : World) : Prop := ∃ v : Int, e = .returned (.int .i64 v) ∧ 0 ≤ v ∧ v ≤ 255 ∧ Rd P w' ∧ Aside P w w'

set_option maxHeartbeats 1000000 in
theorem next_any (P : Nat) (w : World) (h : Rd P w) :
    Calls Tryd.prog 29 #[.pointer (some ⟨P, 0, none⟩)] w fun e w' => NextOut P w e w' := by
  have HH : Hid (Rd P w) := h
  obtain ⟨⟨a, c, bs, i, h1, h2, h3, h4, h5, h6, h7⟩, hf, hl⟩ := h
  by_cases hi : i < bs.length
  · obtain ⟨b, off, rfl, g1⟩ := row_cell h5 (Below.refl _ _) hi
    have hb := h7.at (by decide) i
    obtain ⟨y, hy⟩ : ∃ y, y = bs.getD i 0 := ⟨_, rfl⟩
    rw [← hy] at hb g1
    obtain ⟨hb0, hb1⟩ := hb
    have hge : ¬ ((i : Int) ≥ bs.length) := by omega
    have hlt : (i : Int) < bs.length := by omega
    have HO : Hid (∀ W, Below w.heap.size w W → NextOut P w (.returned (.int .i64 y)) (W.setCell ⟨P, 1, none⟩ (.int .i64 ((i : Int) + 1)))) := by
      intro W hW
      have c1 : W.cell? ⟨P, 0, none⟩ = some (.slice (some ⟨b, off, none⟩) bs.length c) := (hW.cell (p := ⟨P, 0, none⟩) hl).trans h1
      have c2 : W.cell? ⟨P, 1, none⟩ = some (.int .i64 i) := (hW.cell (p := ⟨P, 1, none⟩) hl).trans h2
      refine ⟨y, rfl, hb0, by omega, ⟨⟨some ⟨b, off, none⟩, c, bs, i + 1, ?_, ?_, by omega, h4, ?_, h6, h7⟩, fun j => by rw [World.frozen?_setCell]; exact (hW.frozen (p := ⟨P, j, none⟩) hl).trans (hf j), by have := hW.size; simp; omega⟩, (Aside.of hW).set 1 _⟩
      · rw [World.cell?_setCell_other _ _ _ _ (by simp)]; exact c1
      · rw [World.cell?_setCell_same _ _ _ c2]; simp
      · have hbP := h6 b off rfl (by intro e; rw [e] at hi; simp at hi)
        exact ((Aside.of (P := P) hW).set 1 _).row h5 (fun b' off' e _ => by have := congrArg Addr.block (Option.some.inj e); simp at this; omega)
    clear h5 h6 h7 hy HH
    go_enter Tryd.func29, Tryd.ntmps29
    go_wp2
    go_quiet (fail)
    go_wp2
    go_quiet (fail)
    go_wp2
    go_ret
    exact HO.out _ (by first | exact below_drewN (below_drewN (Below.refl _ _) _) _ | exact below_drewN (Below.refl _ _) _)
  · have hge : (bs.length : Int) ≤ i := by omega
    have HO : Hid (∀ W, Below w.heap.size w W → NextOut P w (.returned (.int .i64 0)) W) := fun W hW => ⟨0, rfl, by decide, by decide, HH.out.later hW, Aside.of hW⟩
    clear h5 h6 h7 HH
    go_enter Tryd.func29, Tryd.ntmps29
    go_wp2
    go_quiet (fail)
    go_wp2
    go_ret
    exact HO.out _ (below_drewN (Below.refl _ _) _)

/-- What l1open hands back: a reader in a new block. -/
def OpenOut (w : World) (e : Ending) (w' : World) : Prop := e = .returned (.pointer (some ⟨w.heap.size, 0, none⟩)) ∧ Rd w.heap.size w' ∧ Below w.heap.size w w' ∧ w'.heap.size = w.heap.size + 1

theorem open_rd (w : World) (a : Option Addr) (n c : Nat) (bs : List Int) (t : TypeId) (hn : n = bs.length) (h5 : bs.length ≤ 500) (hb : Dig 256 bs) (hr : RowAt .u8 w a bs) : OpenOut w (.returned (.pointer (some ⟨w.heap.size, 0, none⟩))) (w.alloc (.cells #[.slice a n c, .int .i64 0] t)) := by
  subst hn
  refine ⟨rfl, ⟨⟨a, c, bs, 0, by simp [go_sem], by simp [go_sem], by omega, h5, hr.later (bel0 _ _), ?_, hb⟩, fun j => by simp [go_sem], by simp⟩, bel0 _ _, by simp⟩
  intro b off e hne
  rcases hr with hr | ⟨b', off', g1, g2, _⟩
  · exact absurd hr hne
  · rw [e] at g1
    have := congrArg Addr.block (Option.some.inj g1)
    simp at this
    omega

set_option maxHeartbeats 1000000 in
theorem open_any (a : Option Addr) (c : Nat) (bs : List Int) (w : World) (hn : bs.length ≤ 1048576) (hc : bs.length ≤ c) (hcm : c ≤ maxLen) (hnil : a = none → c = 0) (hr : RowAt .u8 w a bs) (hb : Dig 256 bs) :
    Calls Tryd.prog 28 #[.slice a bs.length c] w fun e w' => OpenOut w e w' := by
  unfold maxLen at hcm
  by_cases h5 : 500 < bs.length
  · have HO : Hid (∀ t, OpenOut w (.returned (.pointer (some ⟨w.heap.size, 0, none⟩))) (w.alloc (.cells #[.slice a 500 c, .int .i64 0] t))) := fun t =>
      open_rd w a 500 c (bs.take 500) t (by rw [List.length_take]; omega) (by rw [List.length_take]; omega) (hb.take 500) (hr.take 500)
    cases a with
    | none => have := hnil rfl; omega
    | some x =>
      clear hr hb
      go_enter Tryd.func28, Tryd.ntmps28
      go_wp2
      go_ret
      exact HO.out _
  · have HO : Hid (∀ t, OpenOut w (.returned (.pointer (some ⟨w.heap.size, 0, none⟩))) (w.alloc (.cells #[.slice a bs.length c, .int .i64 0] t))) := fun t =>
      open_rd w a bs.length c bs t rfl (by omega) hb hr
    cases a with
    | none =>
      have h0 := hnil rfl
      subst h0
      have hl : bs.length = 0 := by omega
      rw [hl] at HO ⊢
      clear hr hb
      go_enter Tryd.func28, Tryd.ntmps28
      go_wp2
      go_ret
      exact HO.out _
    | some x =>
      clear hr hb
      go_enter Tryd.func28, Tryd.ntmps28
      go_wp2
      go_ret
      exact HO.out _

end Go.Proofs.YtladfpljnaippabDoor

/-
  A drawn Big while it grows.
-/
namespace Go.Proofs.YtladfpljnaippabDoor
open Go.RowKit

/-- The answer's box (block R, still zero), the number's own box (block O: sign G, limbs v), the limbs in memory from B on; the reader in block P; of w nothing else has turned. -/
structure DS (w : World) (P R O B : Nat) (e : TypeId) (G : Bool) (v : Value) (ys : List Int) (W : World) : Prop where
  r1 : W.cell? ⟨R, 0, none⟩ = some (.bool false)
  r2 : W.cell? ⟨R, 1, none⟩ = some (.slice none 0 0)
  r3 : ∀ j, W.frozen? ⟨R, j, none⟩ = false
  o0 : W.cell? ⟨O, 0, none⟩ = some (.bool G)
  o1 : W.cell? ⟨O, 1, none⟩ = some v
  o2 : ∀ j, W.frozen? ⟨O, j, none⟩ = false
  own : W.ownsRow B e 1 v ys.length (vals .u32 ys)
  u : U32 ys
  rd : Rd P W
  asd : Aside P w W
  ordR : w.heap.size ≤ R
  ordP : P < w.heap.size
  ordO : R < O
  ordB : O < B
  ordW : B ≤ W.heap.size

section
variable {w : World} {P R O B : Nat} {e : TypeId} {G : Bool} {v : Value} {ys : List Int} {W W' : World}

theorem DS.aside (h : DS w P R O B e G v ys W) (ha : Aside P W W') (hr : Rd P W') : DS w P R O B e G v ys W' := by
  have o1 := h.ordR; have o2 := h.ordP; have o3 := h.ordO; have o4 := h.ordB; have o5 := h.ordW
  exact ⟨(ha.cell (by simp; omega) (by simp; omega)).trans h.r1, (ha.cell (by simp; omega) (by simp; omega)).trans h.r2, fun j => (ha.frozen (by simp; omega) (by simp; omega)).trans (h.r3 j), (ha.cell (by simp; omega) (by simp; omega)).trans h.o0, (ha.cell (by simp; omega) (by simp; omega)).trans h.o1, fun j => (ha.frozen (by simp; omega) (by simp; omega)).trans (h.o2 j),
    ha.own h.own (by omega), h.u, hr, h.asd.trans ha, h.ordR, h.ordP, h.ordO, h.ordB, Nat.le_trans h.ordW ha.size⟩

theorem DS.later (h : DS w P R O B e G v ys W) (hb : Below W.heap.size W W') : DS w P R O B e G v ys W' := h.aside (Aside.of hb) (h.rd.later hb)

/-- The limbs have grown, and lie in the box. -/
theorem DS.grow {v' : Value} {ys' : List Int} (h : DS w P R O B e G v ys W) (hb : Below B W W') (hown : W'.ownsRow B e 1 v' ys'.length (vals .u32 ys')) (hu : U32 ys') : DS w P R O B e G v' ys' (W'.setCell ⟨O, 1, none⟩ v') := by
  have o1 := h.ordR; have o2 := h.ordP; have o3 := h.ordO; have o4 := h.ordB; have o5 := h.ordW
  have c1 : W'.cell? ⟨O, 1, none⟩ = some v := (hb.cell (by simp; omega)).trans h.o1
  refine ⟨?_, ?_, ?_, ?_, ?_, ?_, ?_, hu, ?_, ?_, h.ordR, h.ordP, h.ordO, h.ordB, ?_⟩
  · rw [World.cell?_setCell_other _ _ _ _ (by first | (simp; done) | (simp; omega))]; exact (hb.cell (by simp; omega)).trans h.r1
  · rw [World.cell?_setCell_other _ _ _ _ (by first | (simp; done) | (simp; omega))]; exact (hb.cell (by simp; omega)).trans h.r2
  · intro j; rw [World.frozen?_setCell]; exact (hb.frozen (by simp; omega)).trans (h.r3 j)
  · rw [World.cell?_setCell_other _ _ _ _ (by simp)]; exact (hb.cell (by simp; omega)).trans h.o0
  · exact World.cell?_setCell_same _ _ _ c1
  · intro j; rw [World.frozen?_setCell]; exact (hb.frozen (by simp; omega)).trans (h.o2 j)
  · refine ⟨hown.1, ?_⟩
    rcases hown.2 with g1 | ⟨g, cap, cur, g1, g2, g3, g4⟩
    · exact .inl g1
    · refine .inr ⟨g, cap, cur, g1, g2, ?_, g4⟩
      have hw : Within O (O + 1) W' (W'.setCell ⟨O, 1, none⟩ v') := (Within.refl O (O + 1) W').setCell (p := ⟨O, 1, none⟩) (Nat.le_refl _) (Nat.lt_succ_self _) v'
      rw [hw.block g (by omega)]
      exact g3
  · have hw : Below (P + 1) W' (W'.setCell ⟨O, 1, none⟩ v') := (Below.refl _ _).setCell (by simp; omega) _
    exact (h.rd.above hb (by omega)).above hw (by omega)
  · exact (h.asd.high hb (by omega)).setHigh (by simp; omega) _
  · have := hb.size; simp; omega

/-- Its sign is set. -/
theorem DS.sign (h : DS w P R O B e G v ys W) (G' : Bool) : DS w P R O B e G' v ys (W.setCell ⟨O, 0, none⟩ (.bool G')) := by
  have o1 := h.ordR; have o2 := h.ordP; have o3 := h.ordO; have o4 := h.ordB; have o5 := h.ordW
  refine ⟨?_, ?_, ?_, ?_, ?_, ?_, ?_, h.u, ?_, ?_, h.ordR, h.ordP, h.ordO, h.ordB, by simpa using h.ordW⟩
  · rw [World.cell?_setCell_other _ _ _ _ (by first | (simp; done) | (simp; omega))]; exact h.r1
  · rw [World.cell?_setCell_other _ _ _ _ (by first | (simp; done) | (simp; omega))]; exact h.r2
  · intro j; rw [World.frozen?_setCell]; exact h.r3 j
  · exact World.cell?_setCell_same _ _ _ h.o0
  · rw [World.cell?_setCell_other _ _ _ _ (by simp)]; exact h.o1
  · intro j; rw [World.frozen?_setCell]; exact h.o2 j
  · refine ⟨h.own.1, ?_⟩
    rcases h.own.2 with g1 | ⟨g, cap, cur, g1, g2, g3, g4⟩
    · exact .inl g1
    · refine .inr ⟨g, cap, cur, g1, g2, ?_, g4⟩
      have hw : Within O (O + 1) W (W.setCell ⟨O, 0, none⟩ (.bool G')) := (Within.refl O (O + 1) W).setCell (p := ⟨O, 0, none⟩) (Nat.le_refl _) (Nat.lt_succ_self _) _
      rw [hw.block g (by omega)]
      exact g3
  · have hw : Below (P + 1) W (W.setCell ⟨O, 0, none⟩ (.bool G')) := (Below.refl _ _).setCell (by simp; omega) _
    exact h.rd.above hw (by omega)
  · exact h.asd.setHigh (by simp; omega) _

/-- A drawn Big: what is handed back. -/
def DrawOut (P : Nat) (e' : TypeId) (w : World) (n : Nat) (e : Ending) (w' : World) : Prop :=
  ∃ (G : Bool) (a : Option Addr) (c : Nat) (zs : List Int), e = .returned (.agg #[.bool G, .slice a zs.length c]) ∧ zs.length ≤ n ∧ U32 zs ∧ w'.ownsRow w.heap.size e' 1 (.slice a zs.length c) zs.length (vals .u32 zs) ∧ Rd P w' ∧ Aside P w w'

theorem own_set {X : World} {base : Nat} {e : TypeId} {v : Value} {n : Nat} {xs : List Value} (h : X.ownsRow base e 1 v n xs) {p : Addr} (hp : p.block < base) (u : Value) : (X.setCell p u).ownsRow base e 1 v n xs := by
  refine ⟨h.1, ?_⟩
  rcases h.2 with g1 | ⟨g, cap, cur, g1, g2, g3, g4⟩
  · exact .inl g1
  · refine .inr ⟨g, cap, cur, g1, g2, ?_, g4⟩
    have hw : Within p.block (p.block + 1) X (X.setCell p u) := (Within.refl _ _ X).setCell (p := p) (Nat.le_refl _) (Nat.lt_succ_self _) u
    rw [hw.block g (by omega)]
    exact g3

theorem own_mono {X : World} {base base' : Nat} {e : TypeId} {v : Value} {n : Nat} {xs : List Value} (h : X.ownsRow base e 1 v n xs) (hb : base' ≤ base) : X.ownsRow base' e 1 v n xs := by
  refine ⟨h.1, ?_⟩
  rcases h.2 with g1 | ⟨g, cap, cur, g1, g2, g3⟩
  · exact .inl g1
  · exact .inr ⟨g, cap, cur, g1, Nat.le_trans hb g2, g3⟩

theorem own_slice {X : World} {base : Nat} {e : TypeId} {v : Value} {n : Nat} {xs : List Value} (h : X.ownsRow base e 1 v n xs) : ∃ a c, v = .slice a n c := by
  rcases h.2 with ⟨h1, h2⟩ | ⟨g, cap, cur, h1, _⟩
  · subst h2; exact ⟨none, 0, h1⟩
  · exact ⟨some ⟨g, 0, none⟩, cap, h1⟩

/-- Shorter by its last limb. -/
theorem own_short {X : World} {base : Nat} {e : TypeId} {a : Option Addr} {c : Nat} {ys : List Int} {m : Nat} (h : X.ownsRow base e 1 (.slice a ys.length c) ys.length (vals .u32 ys)) (hm : ys.length = m + 1) : X.ownsRow base e 1 (.slice a m c) (ys.take m).length (vals .u32 (ys.take m)) := by
  have ht : (ys.take m).length = m := by rw [List.length_take]; omega
  refine ⟨by rw [vals_length, Nat.mul_one], ?_⟩
  rw [ht]
  rcases h.2 with ⟨h1, h2⟩ | ⟨g, cap, cur, h1, h2, h3, h4, h5, h6, h7⟩
  · omega
  · injection h1 with e1 e2 e3
    subst e1 e3
    refine .inr ⟨g, c, cur, rfl, h2, h3, by omega, h5, h6, ?_⟩
    have := congrArg (List.take m) h7
    rw [List.take_take, show min m (ys.length * 1) = m by omega] at this
    rw [Nat.mul_one, this]
    simp [vals, List.map_take]

theorem U32.snoc {ys : List Int} {y : Int} (h : U32 ys) (h0 : 0 ≤ y) (h1 : y < 4294967296) : U32 (ys ++ [y]) := by
  intro z hz
  rcases List.mem_append.1 hz with hz | hz
  · exact h z hz
  · have : z = y := by simpa using hz
    subst this
    exact ⟨h0, h1⟩

theorem U32.take {ys : List Int} (h : U32 ys) (m : Nat) : U32 (ys.take m) := fun z hz => h z (List.mem_of_mem_take hz)

/-- The end: the number's box is read into the answer's. -/
theorem DS.out {a : Option Addr} {c n : Nat} (h : DS w P R O B e G (.slice a ys.length c) ys W) (hn : ys.length ≤ n) : DrawOut P e w n (.returned (.agg #[.bool G, .slice a ys.length c])) ((W.setCell ⟨R, 0, none⟩ (.bool G)).setCell ⟨R, 1, none⟩ (.slice a ys.length c)) := by
  have o1 := h.ordR; have o2 := h.ordP; have o3 := h.ordO; have o4 := h.ordB; have o5 := h.ordW
  refine ⟨G, a, c, ys, rfl, hn, h.u, own_mono (own_set (own_set h.own (by simp; omega) _) (by simp; omega) _) (by omega), ?_, (h.asd.setHigh (by simp; omega) _).setHigh (by simp; omega) _⟩
  have hw : Below (P + 1) W ((W.setCell ⟨R, 0, none⟩ (.bool G)).setCell ⟨R, 1, none⟩ (.slice a ys.length c)) := ((Below.refl _ _).setCell (by simp; omega) _).setCell (by simp; omega) _
  exact h.rd.above hw (by omega)

end

end Go.Proofs.YtladfpljnaippabDoor
