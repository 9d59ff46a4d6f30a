/-
  The program's DyAdd.
-/
import Derived.Test.YtladfpljnaippaaDoorDyI5DyI6aNumM
import Derived.Test.YtladfpljnaippaaDoorImplOneDyI4DyI8pDyN1
import Derived.Test.YtladfpljnaippaaDoorDyN2
import Derived.Test.YtladfpljnaippaaDoorDy1Dy3hDySAdd
import Derived.Test.YtladfpljnaippaaDoorDy6
import Derived.Test.YtladfpljnaippaaDoorBigs
import Derived.Test.YtladfpljnaippaaDoorUtil
import Derived.Deep.RegionHeld3
import Derived.Test.YtladfpljnaippaaDoorMarks
namespace Go.Proofs.YtladfpljnaippaaDoor
open Go.RowKit

set_option maxRecDepth 100000 in
set_option maxHeartbeats 8000000 in
theorem addDI_bad (g g' : Bool) (a a' : Option Addr) (c c' : Nat) (zs ys : List Int) (E E' v : Int) (w : World) (hn : zs.length ≤ 1048576) (hn' : ys.length ≤ 1048576) (hz : RowAt .u32 w a zs) (hy : RowAt .u32 w a' ys) (hv : (validD g zs E && validD g' ys E') = false) :
    Calls Tryd.prog 16 #[.agg #[.bool g, .slice a zs.length c, .int .i64 E], .agg #[.bool g', .slice a' ys.length c', .int .i64 E']] w fun e w' => OutDI w false v e w' := by
  have B0 : Hid (∀ t t' t2, Bx7 w (.bool g) (.slice a zs.length c) (.int .i64 E) (.bool g') (.slice a' ys.length c') (.int .i64 E') (((w.alloc (.cells #[.bool g, .slice a zs.length c, .int .i64 E] t)).alloc (.cells #[.bool g', .slice a' ys.length c', .int .i64 E'] t')).alloc (.cells #[.bool false, .slice none 0 0, .int .i64 0] t2))) := fun t t' t2 => Bx7.start w _ _ _ _ _ _ _ _ _
  go_enter Tryd.func16, Tryd.ntmps16
  go_wp2_with fail
  refine (validsI_any _ 0 _ [⟨g, a, c, zs, E⟩, ⟨g', a', c', ys, E'⟩] _ (by simp) ?_ (two_rowD ?_ ?_ ?_ ?_ ?_ ?_ ?_ (hz.later ((B0.out _ _ _).bel.trans ((bel0 _ _).mono (B0.out _ _ _).bel.size))) (hy.later ((B0.out _ _ _).bel.trans ((bel0 _ _).mono (B0.out _ _ _).bel.size))))).mono ?_
  · intro d hd
    simp at hd
    rcases hd with rfl | rfl
    · exact hn
    · exact hn'
  · simp
  · simp [go_sem]
  · simp [go_sem]
  · simp [go_sem]
  · simp [go_sem]
  · simp [go_sem]
  · simp [go_sem]
  · rintro e w1 ⟨rfl, hb1⟩
    have HV : Hid ([(⟨g, a, c, zs, E⟩ : DV), ⟨g', a', c', ys, E'⟩].all DV.ok = false) := by unfold Hid; simpa [DV.ok] using hv
    rw [HV.out]
    have F1 : Hid (Bx7 w (.bool g) (.slice a zs.length c) (.int .i64 E) (.bool g') (.slice a' ys.length c') (.int .i64 E') w1) := ((B0.out _ _ _).later (bel0 _ _)).later hb1
    have r1 := F1.out.r1
    have r2 := F1.out.r2
    have r3 := F1.out.r3
    have r4 := F1.out.r4
    clear hb1 B0
    go_wp2
    refine bodyPost_ret (v := .tuple #[.agg #[.bool false, .slice none 0 0, .int .i64 0], .int .i64 1]) (by simp [results, Tryd.results16, go_sem, r1, r2, r3]) rfl ?_
    refine ⟨false, [], 0, 1, none, 0, rfl, .inl ⟨rfl, rfl, rfl, rfl, rfl⟩, .inl rfl, ?_⟩
    exact ((F1.out.bel.setCell (by simp; omega) _).setCell (by simp; omega) _).setCell (by simp; omega) _

set_option maxRecDepth 100000 in
set_option maxHeartbeats 8000000 in
theorem addDI_ok (g g' : Bool) (a a' : Option Addr) (c c' : Nat) (zs ys : List Int) (E E' : Int) (w : World) (hz : RowAt .u32 w a zs) (hy : RowAt .u32 w a' ys) (hu : U32 zs) (hu' : U32 ys) (v1 : validD g zs E = true) (v2 : validD g' ys E' = true) (hT : Tab w) :
    Calls Tryd.prog 16 #[.agg #[.bool g, .slice a zs.length c, .int .i64 E], .agg #[.bool g', .slice a' ys.length c', .int .i64 E']] w fun e w' => OutDI w true (atK 100000 (sg g (val 4294967296 zs)) E + atK 100000 (sg g' (val 4294967296 ys)) E') e w' := by
  obtain ⟨vb1, hE0, hE1⟩ := validD_parts v1
  obtain ⟨vb2, hE2, hE3⟩ := validD_parts v2
  have hn5 := (valid_canon hu vb1).2.1
  have hn5' := (valid_canon hu' vb2).2.1
  have hn : zs.length ≤ 1048576 := Nat.le_trans hn5 (by decide)
  have hn' : ys.length ≤ 1048576 := Nat.le_trans hn5' (by decide)
  have HBz : Hid (B1 g zs (sg g (val 4294967296 zs))) := B1.of_valid hu vb1
  have HBy : Hid (B1 g' ys (sg g' (val 4294967296 ys))) := B1.of_valid hu' vb2
  obtain ⟨v, hv⟩ : ∃ v, v = atK 100000 (sg g (val 4294967296 zs)) E + atK 100000 (sg g' (val 4294967296 ys)) E' := ⟨_, rfl⟩
  have HV : Hid (v = atK 100000 (sg g (val 4294967296 zs)) E + atK 100000 (sg g' (val 4294967296 ys)) E') := hv
  rw [← hv]
  clear hv
  have B0 : Hid (∀ t t' t2, Bx7 w (.bool g) (.slice a zs.length c) (.int .i64 E) (.bool g') (.slice a' ys.length c') (.int .i64 E') (((w.alloc (.cells #[.bool g, .slice a zs.length c, .int .i64 E] t)).alloc (.cells #[.bool g', .slice a' ys.length c', .int .i64 E'] t')).alloc (.cells #[.bool false, .slice none 0 0, .int .i64 0] t2))) := fun t t' t2 => Bx7.start w _ _ _ _ _ _ _ _ _
  go_enter Tryd.func16, Tryd.ntmps16
  go_wp2_with fail
  refine (validsI_any _ 0 _ [⟨g, a, c, zs, E⟩, ⟨g', a', c', ys, E'⟩] _ (by simp) ?_ (two_rowD ?_ ?_ ?_ ?_ ?_ ?_ ?_ (hz.later ((B0.out _ _ _).bel.trans ((bel0 _ _).mono (B0.out _ _ _).bel.size))) (hy.later ((B0.out _ _ _).bel.trans ((bel0 _ _).mono (B0.out _ _ _).bel.size))))).mono ?_
  · intro d hd
    simp at hd
    rcases hd with rfl | rfl
    · exact hn
    · exact hn'
  · simp
  · simp [go_sem]
  · simp [go_sem]
  · simp [go_sem]
  · simp [go_sem]
  · simp [go_sem]
  · simp [go_sem]
  · rintro e W1 ⟨rfl, hb1⟩
    have HVV : Hid ([(⟨g, a, c, zs, E⟩ : DV), ⟨g', a', c', ys, E'⟩].all DV.ok = true) := by unfold Hid; simp [DV.ok, v1, v2]
    rw [HVV.out]
    have F1 : Hid (Bx7 w (.bool g) (.slice a zs.length c) (.int .i64 E) (.bool g') (.slice a' ys.length c') (.int .i64 E') W1) := ((B0.out _ _ _).later (bel0 _ _)).later hb1
    have s0 := F1.out.q0
    have s1 := F1.out.q1
    have s2 := F1.out.q2
    have s3 := F1.out.p0
    have s4 := F1.out.p1
    have s5 := F1.out.p2
    have hl1 := F1.out.le
    have za : w.heap.size < W1.heap.size := by omega
    have zb : w.heap.size + 1 < W1.heap.size := by omega
    clear hb1 B0
    have hz1 := hz.later F1.out.bel
    have hy1 := hy.later F1.out.bel
    have HRT : Hid (RowT (((W1.alloc (.cells #[.bool g, .slice a zs.length c, .int .i64 E] 27)).alloc (.cells #[.bool g', .slice a' ys.length c', .int .i64 E'] 27)).alloc (.cells #[.slice (some ⟨W1.heap.size, 0, none⟩) 1 1, .slice (some ⟨W1.heap.size + 1, 0, none⟩) 1 1] 70)) (W1.heap.size + 1 + 1) 0 [⟨W1.heap.size, 0, 1, [⟨g, a, c, zs, E⟩]⟩, ⟨W1.heap.size + 1, 0, 1, [⟨g', a', c', ys, E'⟩]⟩]) := by
      unfold Hid
      exact two_rowT (by simp) (by simp [go_sem]) (by simp [go_sem]) (RowD.later (RowD.later (one_rowD (by simp) (by simp [go_sem]) (by simp [go_sem]) (by simp [go_sem]) (hz1.later (bel0 _ _))) (bel0 _ _)) (bel0 _ _)) (RowD.later (one_rowD (by simp) (by simp [go_sem]) (by simp [go_sem]) (by simp [go_sem]) (hy1.later (bel2 _ _ _))) (bel0 _ _))
    clear hz1 hy1
    go_wp2_with fail
    refine (sumP_any prodSaysJ _ 0 _ [⟨W1.heap.size, 0, 1, [⟨g, a, c, zs, E⟩]⟩, ⟨W1.heap.size + 1, 0, 1, [⟨g', a', c', ys, E'⟩]⟩] _ (by simp) ?_ HRT.out).mono ?_
    · intro t ht
      simp at ht
      rcases ht with rfl | rfl
      · refine ⟨by simp, fun d hd => ?_⟩
        simp at hd
        subst hd
        exact ⟨hn5, hE0, hE1, HBz.out⟩
      · refine ⟨by simp, fun d hd => ?_⟩
        simp at hd
        subst hd
        exact ⟨hn5', hE2, hE3, HBy.out⟩
    · rintro e W2 ⟨G, a4, c4, f4, m, e4, rfl, hB4, hl4, hK4, he0, he1, hr4, hF4, hb4⟩
      have hVK : atK 100000 m e4 = v := by rw [hK4 100000 (by decide), HV.out]; simp [sumK, prodM, sumE]
      have hl5 : f4.length ≤ 60000 ∧ f4.length ≤ c4 ∧ c4 ≤ maxLen := by simp at hl4; omega
      have hb12 : Below W1.heap.size W1 W2 := (bel3 _ _ _ _).trans (hb4.mono (by simp; omega))
      have F2 : Hid (Bx7 w (.bool g) (.slice a zs.length c) (.int .i64 E) (.bool g') (.slice a' ys.length c') (.int .i64 E') W2) := F1.out.later hb12
      have HB4 : Hid (B1 G f4 m) := hB4
      have HR4 : Hid (RowAt .u32 W2 a4 f4) := hr4
      have hVK' : Hid (atK 100000 m e4 = v) := hVK
      have HT2 : Hid (Tab W2) := (hT.later F1.out.bel).later hb12
      clear hB4 hK4 hr4 hF4 hb4 hVK HRT s0 s1 s2 s3 s4 s5 hb12 hl4
      go_wp2_with fail
      refine (normalI_any G a4 c4 f4 m e4 _ hl5.1 he0 he1 HR4.out HB4.out hl5.2 HT2.out).mono ?_
      rintro e W3 ⟨G5, Z, E5, K, a5, c5, rfl, hres, hr5, hb5⟩
      rw [hVK'.out] at hres
      have F3 : Hid (Bx7 w (.bool g) (.slice a zs.length c) (.int .i64 E) (.bool g') (.slice a' ys.length c') (.int .i64 E') W3) := F2.out.later hb5
      have HR : Hid (ResD true v G5 Z E5 K) := hres
      have HA : Hid (RowNew .u32 W3 (w.heap.size + 1 + 1 + 1) a5 Z) := hr5.down F2.out.le
      have r1 := F3.out.r1
      have r2 := F3.out.r2
      have r3 := F3.out.r3
      have r4 := F3.out.r4
      clear hres hr5 hb5
      go_wp2
      refine bodyPost_ret (v := .tuple #[.agg #[.bool G5, .slice a5 Z.length c5, .int .i64 E5], .int .i64 K]) (by simp [results, Tryd.results16, go_sem, r1, r2, r3]) rfl ?_
      refine ⟨G5, Z, E5, K, a5, c5, rfl, HR.out, ?_, ?_⟩
      · exact (((HA.out.setLow (by simp) _).setLow (by simp) _).setLow (by simp) _).down (by omega)
      · exact ((F3.out.bel.setCell (by simp; omega) _).setCell (by simp; omega) _).setCell (by simp; omega) _

theorem addDI_any (g g' : Bool) (a a' : Option Addr) (c c' : Nat) (zs ys : List Int) (E E' : Int) (w : World) (hn : zs.length ≤ 1048576) (hn' : ys.length ≤ 1048576) (hz : RowAt .u32 w a zs) (hy : RowAt .u32 w a' ys) (hu : U32 zs) (hu' : U32 ys) (hT : Tab w) :
    Calls Tryd.prog 16 #[.agg #[.bool g, .slice a zs.length c, .int .i64 E], .agg #[.bool g', .slice a' ys.length c', .int .i64 E']] w fun e w' => OutDI w (validD g zs E && validD g' ys E') (atK 100000 (sg g (val 4294967296 zs)) E + atK 100000 (sg g' (val 4294967296 ys)) E') e w' := by
  cases hv : validD g zs E && validD g' ys E'
  · exact addDI_bad g g' a a' c c' zs ys E E' _ w hn hn' hz hy hv
  · obtain ⟨v1, v2⟩ := Bool.and_eq_true_iff.1 hv
    exact addDI_ok g g' a a' c c' zs ys E E' w hz hy hu hu' v1 v2 hT

end Go.Proofs.YtladfpljnaippaaDoor

/-
  The laws' helpers for Dyadics: sizes, copies, whether two are the same.
-/
namespace Go.Proofs.YtladfpljnaippaaDoor
open Go.RowKit

set_option maxHeartbeats 1000000 in
theorem sz2_any (g : Bool) (a : Option Addr) (n c : Nat) (E l : Int) (w : World) (hn : n ≤ maxLen) (h0 : 0 ≤ l) (h1 : l ≤ 1048576) :
    Calls Tryd.prog 11 #[.agg #[.bool g, .slice a n c, .int .i64 E], .int .i64 l] w fun e w' => e = .returned (.int .i64 (if l < n then -1 else l - n)) ∧ Below w.heap.size w w' := by
  by_cases h : l < n
  · rw [if_pos h]
    go_enter Tryd.func11, Tryd.ntmps11
    go_wp2_with fail
    refine (szB_any g a n c l _ hn h0 h1).mono ?_
    rintro e w1 ⟨rfl, hb1⟩
    rw [if_pos h]
    have HB : Hid (Below w.heap.size w w1) := (bel0 _ _).trans (hb1.mono (by simp))
    clear hb1
    go_wp2
    go_ret
    exact ⟨rfl, HB.out⟩
  · rw [if_neg h]
    have hln : ¬ l - n < 0 := by omega
    go_enter Tryd.func11, Tryd.ntmps11
    go_wp2_with fail
    refine (szB_any g a n c l _ hn h0 h1).mono ?_
    rintro e w1 ⟨rfl, hb1⟩
    rw [if_neg (by omega)]
    have HB : Hid (Below w.heap.size w w1) := (bel0 _ _).trans (hb1.mono (by simp))
    clear hb1
    go_wp2
    go_ret
    exact ⟨rfl, HB.out⟩

set_option maxHeartbeats 2000000 in
theorem to2_any (g : Bool) (a : Option Addr) (c : Nat) (zs : List Int) (E : Int) (w : World) (hn : zs.length ≤ 1048576) (hz : RowAt .u32 w a zs) :
    Calls Tryd.prog 13 #[.agg #[.bool g, .slice a zs.length c, .int .i64 E]] w fun e w' => ∃ a', e = .returned (.agg #[.bool g, .slice a' zs.length zs.length, .int .i64 E]) ∧ RowNew .u32 w' w.heap.size a' zs ∧ Below w.heap.size w w' := by
  go_enter Tryd.func13, Tryd.ntmps13
  go_wp2_with fail
  refine (toB_any g a c zs _ hn (hz.later (bel3 _ _ _ _))).mono ?_
  rintro e w1 ⟨a1, rfl, hr1, hb1⟩
  have q2 : w1.cell? ⟨w.heap.size, 2, none⟩ = some (.int .i64 E) := by rw [(bcell hb1).1 _ _ (by simp; omega)]; simp [go_sem]
  have r1 : w1.cell? ⟨w.heap.size + 1, 0, none⟩ = some (.bool false) := by rw [(bcell hb1).1 _ _ (by simp)]; simp [go_sem]
  have r2 : w1.cell? ⟨w.heap.size + 1, 1, none⟩ = some (.slice none 0 0) := by rw [(bcell hb1).1 _ _ (by simp)]; simp [go_sem]
  have r3 : w1.cell? ⟨w.heap.size + 1, 2, none⟩ = some (.int .i64 0) := by rw [(bcell hb1).1 _ _ (by simp)]; simp [go_sem]
  have r4 : ∀ j, w1.frozen? ⟨w.heap.size + 1, j, none⟩ = false := by intro j; rw [(bcell hb1).2 _ _ (by simp)]; simp [go_sem]
  have p1 : w1.cell? ⟨w.heap.size + 1 + 1, 0, none⟩ = some (.bool false) := by rw [(bcell hb1).1 _ _ (by simp)]; simp [go_sem]
  have p2 : w1.cell? ⟨w.heap.size + 1 + 1, 1, none⟩ = some (.slice none 0 0) := by rw [(bcell hb1).1 _ _ (by simp)]; simp [go_sem]
  have p3 : w1.cell? ⟨w.heap.size + 1 + 1, 2, none⟩ = some (.int .i64 0) := by rw [(bcell hb1).1 _ _ (by simp)]; simp [go_sem]
  have p4 : ∀ j, w1.frozen? ⟨w.heap.size + 1 + 1, j, none⟩ = false := by intro j; rw [(bcell hb1).2 _ _ (by simp)]; simp [go_sem]
  have HR : Hid (RowNew .u32 w1 (w.heap.size + 1 + 1 + 1) a1 zs) := by unfold Hid; simpa using hr1
  have HB : Hid (Below w.heap.size w w1) := (bel3 _ _ _ _).trans (hb1.mono (by simp; omega))
  clear hb1 hr1
  go_wp2
  refine bodyPost_ret (v := .agg #[.bool g, .slice a1 zs.length zs.length, .int .i64 E]) (by simp [results, Tryd.results13, go_sem, r1, r2, r3]) rfl ?_
  refine ⟨a1, rfl, ?_, ?_⟩
  · refine RowNew.down (B := w.heap.size + 1 + 1 + 1) ?_ (by omega)
    repeat' (refine RowNew.setLow ?_ (by simp) _)
    exact HR.out
  · repeat' (refine Below.setCell ?_ (by first | (simp; done) | (simp; omega)) _)
    exact HB.out

set_option maxHeartbeats 2000000 in
theorem eq2_any (g : Bool) (a a' : Option Addr) (c c' : Nat) (zs : List Int) (E : Int) (w : World) (hn : zs.length ≤ maxLen) (hz : RowAt .u32 w a zs) (hy : RowAt .u32 w a' zs) :
    Calls Tryd.prog 8 #[.agg #[.bool g, .slice a zs.length c, .int .i64 E], .agg #[.bool g, .slice a' zs.length c', .int .i64 E]] w fun e w' => e = .returned (.bool true) ∧ Below w.heap.size w w' := by
  have B0 : Hid (∀ t t', Bx6 w (.bool g) (.slice a zs.length c) (.int .i64 E) (.bool g) (.slice a' zs.length c') (.int .i64 E) ((w.alloc (.cells #[.bool g, .slice a zs.length c, .int .i64 E] t)).alloc (.cells #[.bool g, .slice a' zs.length c', .int .i64 E] t'))) := fun t t' => Bx6.start w _ _ _ _ _ _ _ _
  have hEE : (E != E) = false := by simp
  go_enter Tryd.func8, Tryd.ntmps8
  go_wp2_with fail
  refine (eqB_any _ _ _ _ _ _ zs zs _ hn hn (hz.later (B0.out _ _).bel) (hy.later (B0.out _ _).bel)).mono ?_
  rintro e w1 ⟨rfl, hb1⟩
  rw [show decide (g = g ∧ zs = zs) = true from by simp]
  have F1 := (B0.out _ _).later hb1
  have q2 := F1.q2
  have p2 := F1.p2
  have HB : Hid (Below w.heap.size w w1) := F1.bel
  clear hb1 F1 B0
  go_wp2
  go_ret
  exact ⟨rfl, HB.out⟩

end Go.Proofs.YtladfpljnaippaaDoor

/-
  Marks in Dyadics.
-/
namespace Go.Proofs.YtladfpljnaippaaDoor
open Go.RowKit

set_option maxHeartbeats 1000000 in
theorem mark2_any (g : Bool) (a : Option Addr) (c : Nat) (zs : List Int) (E k0 : Int) (w : World) (lo hi : Nat) (hn : zs.length ≤ 1048576) (h0 : 1 ≤ k0) (h1 : k0 ≤ 2097152) (hz : RowIn .u32 w lo hi a zs) :
    Calls Tryd.prog 9 #[.agg #[.bool g, .slice a zs.length c, .int .i64 E], .int .i64 k0] w fun e w' => e = .returned (.int .i64 (k0 + zs.length)) ∧ RowIn .u32 w' lo hi a (marksL k0 zs.length) ∧ ∃ w1, Below w.heap.size w w1 ∧ Within lo hi w1 w' := by
  go_enter Tryd.func9, Tryd.ntmps9
  go_wp2_with fail
  refine (markB_any g a c zs k0 _ lo hi hn h0 h1 (hz.later (bel0 _ _))).mono ?_
  rintro e w1 ⟨rfl, hr, w2, hb2, hw⟩
  have HR : Hid (RowIn .u32 w1 lo hi a (marksL k0 zs.length)) := hr
  have HW : Hid (∃ w2, Below w.heap.size w w2 ∧ Within lo hi w2 w1) := ⟨w2, (bel0 _ _).trans (hb2.mono (by simp)), hw⟩
  clear hr hw hz hb2
  go_wp2
  go_ret
  exact ⟨rfl, HR.out, HW.out⟩

set_option maxHeartbeats 1000000 in
theorem held2_any (g : Bool) (a : Option Addr) (c : Nat) (n : Nat) (E k0 : Int) (w : World) (hn : n ≤ 1048576) (h0 : 1 ≤ k0) (h1 : k0 ≤ 2097152) (hz : RowAt .u32 w a (marksL k0 n)) :
    Calls Tryd.prog 10 #[.agg #[.bool g, .slice a n c, .int .i64 E], .int .i64 k0] w fun e w' => e = .returned (.int .i64 (k0 + n)) ∧ Below w.heap.size w w' := by
  have hnn : ¬ k0 + (n : Int) < 0 := by omega
  go_enter Tryd.func10, Tryd.ntmps10
  go_wp2_with fail
  refine (heldB_any g a c n k0 _ hn h0 h1 (hz.later (bel0 _ _))).mono ?_
  rintro e w1 ⟨rfl, hb⟩
  have HB : Hid (Below w.heap.size w w1) := (bel0 _ _).trans (hb.mono (by simp))
  clear hz hb
  go_wp2
  go_ret
  exact ⟨rfl, HB.out⟩

end Go.Proofs.YtladfpljnaippaaDoor
