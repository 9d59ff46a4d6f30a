/-
  Drawn pairs, within the triangle's plane.
-/
import Derived.Test.YtiajhekjojeaeaaGreatBdD
namespace Go.Proofs.YtiajhekjojeaeaaGreat
open Go.RowKit

set_option maxRecDepth 100000 in
set_option maxHeartbeats 4000000 in
theorem pairD1 (wild : Bool) (rs rs1 rs2 : List Int) (t0 t1 t2 t3 t4 t5 t6 t7 t8 r0 r1 r2 r3 r4 r5 kk : Int) (HA : Hid (TriD wild rs.tail t0 t1 t2 t3 t4 t5 t6 t7 t8 rs1)) (HB : Hid (RayD wild rs1 r0 r1 r2 r3 r4 r5 rs2)) (HK : Hid (rs.headD 0 = kk)) (hm : kk % 8 = 1) : ∃ x0 x1 x2 x3 x4 x5 x6 x7 x8 y0 y1 y2 y3 y4 y5 rs', PairD wild rs x0 x1 x2 x3 x4 x5 x6 x7 x8 y0 y1 y2 y3 y4 y5 rs' := by
  have bt0 : 0 ≤ t0 ∧ t0 < 4294967296 := HA.out.r _ (by simp)
  have bt1 : 0 ≤ t1 ∧ t1 < 4294967296 := HA.out.r _ (by simp)
  have bt2 : 0 ≤ t2 ∧ t2 < 4294967296 := HA.out.r _ (by simp)
  have bt3 : 0 ≤ t3 ∧ t3 < 4294967296 := HA.out.r _ (by simp)
  have bt4 : 0 ≤ t4 ∧ t4 < 4294967296 := HA.out.r _ (by simp)
  have bt5 : 0 ≤ t5 ∧ t5 < 4294967296 := HA.out.r _ (by simp)
  have bt6 : 0 ≤ t6 ∧ t6 < 4294967296 := HA.out.r _ (by simp)
  have bt7 : 0 ≤ t7 ∧ t7 < 4294967296 := HA.out.r _ (by simp)
  have bt8 : 0 ≤ t8 ∧ t8 < 4294967296 := HA.out.r _ (by simp)
  have br0 : 0 ≤ r0 ∧ r0 < 4294967296 := HB.out.r _ (by simp)
  have br1 : 0 ≤ r1 ∧ r1 < 4294967296 := HB.out.r _ (by simp)
  have br2 : 0 ≤ r2 ∧ r2 < 4294967296 := HB.out.r _ (by simp)
  have br3 : 0 ≤ r3 ∧ r3 < 4294967296 := HB.out.r _ (by simp)
  have br4 : 0 ≤ r4 ∧ r4 < 4294967296 := HB.out.r _ (by simp)
  have br5 : 0 ≤ r5 ∧ r5 < 4294967296 := HB.out.r _ (by simp)
  have c0 : (0 : Int) ≤ 0 ∧ (0 : Int) < 4294967296 := by decide
  have c1 : (0 : Int) ≤ 1065353216 ∧ (1065353216 : Int) < 4294967296 := by decide
  have c2 : (0 : Int) ≤ 3212836864 ∧ (3212836864 : Int) < 4294967296 := by decide
  have c3 : (0 : Int) ≤ 1077936128 ∧ (1077936128 : Int) < 4294967296 := by decide
  have c4 : (0 : Int) ≤ 3229614080 ∧ (3229614080 : Int) < 4294967296 := by decide
  have c5 : (0 : Int) ≤ 1086324736 ∧ (1086324736 : Int) < 4294967296 := by decide
  have e0 : (kk % 8 == 0) = false := by rw [beq_eq_false_iff_ne]; omega
  have e1 : (kk % 8 == 1) = true := by rw [beq_iff_eq]; exact hm
  have e2 : (kk % 8 == 2) = false := by rw [beq_eq_false_iff_ne]; omega
  have e3 : (kk % 8 == 3) = false := by rw [beq_eq_false_iff_ne]; omega
  cases hnw : noWayB r3 r4 0
  · refine ⟨t0, t1, t2, t3, t4, t2, t6, t7, t2, r0, r1, t2, r3, r4, 0, rs2, u32_9 bt0 bt1 bt2 bt3 bt4 bt2 bt6 bt7 bt2, u32_6 br0 br1 bt2 br3 br4 c0, ?_⟩
    intro P w h
    have hP := h.lt
    have HS : Hid (Rs P rs w) := h
    clear h
    obtain ⟨W0, hW0⟩ : ∃ W, W = (w.alloc (.cells #[.int .u32 0, .int .u32 0, .int .u32 0, .int .u32 0, .int .u32 0, .int .u32 0, .int .u32 0, .int .u32 0, .int .u32 0] 66)).alloc (.cells #[.int .u32 0, .int .u32 0, .int .u32 0, .int .u32 0, .int .u32 0, .int .u32 0] 55) := ⟨_, rfl⟩
    have X0 : Hid (Own .u32 W0 w.heap.size 0 [0, 0, 0, 0, 0, 0, 0, 0, 0] ∧ Own .u32 W0 (w.heap.size + 1) 0 [0, 0, 0, 0, 0, 0]) := by
      unfold Hid
      rw [hW0]
      refine ⟨(own_lit w [0, 0, 0, 0, 0, 0, 0, 0, 0] _ _ rfl).later (bel0 _ _), ?_⟩
      have := own_lit (w.alloc (.cells #[.int .u32 0, .int .u32 0, .int .u32 0, .int .u32 0, .int .u32 0, .int .u32 0, .int .u32 0, .int .u32 0, .int .u32 0] 66)) [0, 0, 0, 0, 0, 0] 55 _ rfl
      simpa using this
    have H0 : Hid (Rs P rs W0 ∧ Aside P w W0) := by unfold Hid; rw [hW0]; exact ⟨HS.out.later (bel2 _ _ _), Aside.of (bel2 _ _ _)⟩
    go_enter Tryz.func47, Tryz.ntmps47
    go_wp2_with fail
    rw [← hW0]
    clear hW0
    refine (nextF_any P rs _ H0.out.1).mono ?_
    rintro e w1 ⟨rfl, hk0, hk1, hr, ha⟩
    rw [HK.out] at hk0 hk1 ⊢
    have O1 : Hid (Own .u32 w1 w.heap.size 0 [0, 0, 0, 0, 0, 0, 0, 0, 0] ∧ Own .u32 w1 (w.heap.size + 1) 0 [0, 0, 0, 0, 0, 0]) := ⟨own_asideP X0.out.1 ha (by omega), own_asideP X0.out.2 ha (by omega)⟩
    have H1 : Hid (Rs P rs.tail w1 ∧ Aside P w w1) := ⟨hr, H0.out.2.trans ha⟩
    have hm8 : kk.tmod 8 = kk % 8 := Int.tmod_eq_emod_of_nonneg hk0
    have z1 := O1.out.2.lt
    clear hr ha X0 H0
    go_wp2_with fail
    refine (HA.out.tells P w1 H1.out.1).mono ?_
    rintro e w2 ⟨rfl, hr, ha⟩
    have OA0 : Own .u32 (w2.alloc (.cells #[.int .u32 t0, .int .u32 t1, .int .u32 t2, .int .u32 t3, .int .u32 t4, .int .u32 t5, .int .u32 t6, .int .u32 t7, .int .u32 t8] 66)) w2.heap.size 0 [t0, t1, t2, t3, t4, t5, t6, t7, t8] := own_lit w2 [t0, t1, t2, t3, t4, t5, t6, t7, t8] _ _ rfl
    obtain ⟨W2, hW2⟩ : ∃ W, W = w2.alloc (.cells #[.int .u32 t0, .int .u32 t1, .int .u32 t2, .int .u32 t3, .int .u32 t4, .int .u32 t5, .int .u32 t6, .int .u32 t7, .int .u32 t8] 66) := ⟨_, rfl⟩
    rw [← hW2] at OA0
    have bW : Below w2.heap.size w2 W2 := by rw [hW2]; exact bel0 _ _
    have X2 : Hid (Own .u32 W2 w.heap.size 0 [0, 0, 0, 0, 0, 0, 0, 0, 0] ∧ Own .u32 W2 (w.heap.size + 1) 0 [0, 0, 0, 0, 0, 0] ∧ Own .u32 W2 w2.heap.size 0 [t0, t1, t2, t3, t4, t5, t6, t7, t8]) := ⟨(own_asideP O1.out.1 ha (by omega)).later bW, (own_asideP O1.out.2 ha (by omega)).later bW, OA0⟩
    have H2 : Hid (Rs P rs1 W2 ∧ Aside P w W2) := ⟨hr.later bW, (H1.out.2.trans ha).trans (Aside.of bW)⟩
    have z2 : w.heap.size + 1 < w2.heap.size := by have := ha.size; omega
    clear hr ha OA0 bW O1 H1
    go_wp2_with fail
    rw [← hW2]
    clear hW2
    refine (HB.out.tells P W2 H2.out.1).mono ?_
    rintro e w3 ⟨rfl, hr, ha⟩
    have OB0 : Own .u32 (w3.alloc (.cells #[.int .u32 r0, .int .u32 r1, .int .u32 r2, .int .u32 r3, .int .u32 r4, .int .u32 r5] 55)) w3.heap.size 0 [r0, r1, r2, r3, r4, r5] := own_lit w3 [r0, r1, r2, r3, r4, r5] _ _ rfl
    obtain ⟨W3, hW3⟩ : ∃ W, W = w3.alloc (.cells #[.int .u32 r0, .int .u32 r1, .int .u32 r2, .int .u32 r3, .int .u32 r4, .int .u32 r5] 55) := ⟨_, rfl⟩
    rw [← hW3] at OB0
    have bW : Below w3.heap.size w3 W3 := by rw [hW3]; exact bel0 _ _
    have X3 : Hid (Own .u32 W3 w.heap.size 0 [0, 0, 0, 0, 0, 0, 0, 0, 0] ∧ Own .u32 W3 (w.heap.size + 1) 0 [0, 0, 0, 0, 0, 0] ∧ Own .u32 W3 w2.heap.size 0 [t0, t1, t2, t3, t4, t5, t6, t7, t8] ∧ Own .u32 W3 w3.heap.size 0 [r0, r1, r2, r3, r4, r5]) := ⟨(own_asideP X2.out.1 ha (by omega)).later bW, (own_asideP X2.out.2.1 ha (by omega)).later bW, (own_asideP X2.out.2.2 ha (by omega)).later bW, OB0⟩
    have H3 : Hid (Rs P rs2 W3 ∧ Aside P w W3) := ⟨hr.later bW, (H2.out.2.trans ha).trans (Aside.of bW)⟩
    have z3 : w2.heap.size < w3.heap.size := by have := ha.size; have := X2.out.2.2.lt; omega
    clear hr ha OB0 bW X2 H2
    go_upto_region 4 with fail
    rw [← hW3]
    clear hW3
    have n1 : w.heap.size ≠ w2.heap.size := by omega
    have n2 : w.heap.size ≠ w3.heap.size := by omega
    have n3 : w2.heap.size ≠ w3.heap.size := by omega
    have n4 : w.heap.size + 1 ≠ w2.heap.size := by omega
    have n5 : w.heap.size + 1 ≠ w3.heap.size := by omega
    have Y : Hid (Own .u32 ((((W3.setCell ⟨w2.heap.size, 5, none⟩ (.int .u32 t2)).setCell ⟨w2.heap.size, 8, none⟩ (.int .u32 t2)).setCell ⟨w3.heap.size, 2, none⟩ (.int .u32 t2)).setCell ⟨w3.heap.size, 5, none⟩ (.int .u32 0)) w.heap.size 0 [0, 0, 0, 0, 0, 0, 0, 0, 0] ∧ Own .u32 ((((W3.setCell ⟨w2.heap.size, 5, none⟩ (.int .u32 t2)).setCell ⟨w2.heap.size, 8, none⟩ (.int .u32 t2)).setCell ⟨w3.heap.size, 2, none⟩ (.int .u32 t2)).setCell ⟨w3.heap.size, 5, none⟩ (.int .u32 0)) (w.heap.size + 1) 0 [0, 0, 0, 0, 0, 0] ∧ Own .u32 ((((W3.setCell ⟨w2.heap.size, 5, none⟩ (.int .u32 t2)).setCell ⟨w2.heap.size, 8, none⟩ (.int .u32 t2)).setCell ⟨w3.heap.size, 2, none⟩ (.int .u32 t2)).setCell ⟨w3.heap.size, 5, none⟩ (.int .u32 0)) w2.heap.size 0 [t0, t1, t2, t3, t4, t2, t6, t7, t2] ∧ Own .u32 ((((W3.setCell ⟨w2.heap.size, 5, none⟩ (.int .u32 t2)).setCell ⟨w2.heap.size, 8, none⟩ (.int .u32 t2)).setCell ⟨w3.heap.size, 2, none⟩ (.int .u32 t2)).setCell ⟨w3.heap.size, 5, none⟩ (.int .u32 0)) w3.heap.size 0 [r0, r1, t2, r3, r4, 0]) := ⟨(own_otherP (own_otherP (own_otherP (own_otherP X3.out.1 (by omega) 5 _) (by omega) 8 _) (by omega) 2 _) (by omega) 5 _), (own_otherP (own_otherP (own_otherP (own_otherP X3.out.2.1 (by omega) 5 _) (by omega) 8 _) (by omega) 2 _) (by omega) 5 _), (own_otherP (own_otherP ((X3.out.2.2.1.set 5 t2 (by simp)).set 8 t2 (by simp)) (by omega) 2 _) (by omega) 5 _), (((own_otherP (own_otherP X3.out.2.2.2 (by omega) 5 _) (by omega) 8 _).set 2 t2 (by simp)).set 5 0 (by simp))⟩
    have HY : Hid (Rs P rs2 ((((W3.setCell ⟨w2.heap.size, 5, none⟩ (.int .u32 t2)).setCell ⟨w2.heap.size, 8, none⟩ (.int .u32 t2)).setCell ⟨w3.heap.size, 2, none⟩ (.int .u32 t2)).setCell ⟨w3.heap.size, 5, none⟩ (.int .u32 0)) ∧ Aside P w ((((W3.setCell ⟨w2.heap.size, 5, none⟩ (.int .u32 t2)).setCell ⟨w2.heap.size, 8, none⟩ (.int .u32 t2)).setCell ⟨w3.heap.size, 2, none⟩ (.int .u32 t2)).setCell ⟨w3.heap.size, 5, none⟩ (.int .u32 0))) := ⟨((((H3.out.1.set (by omega) 5 _).set (by omega) 8 _).set (by omega) 2 _).set (by omega) 5 _), ((((H3.out.2.setHigh (p := ⟨w2.heap.size, 5, none⟩) (by simp; omega) _).setHigh (p := ⟨w2.heap.size, 8, none⟩) (by simp; omega) _).setHigh (p := ⟨w3.heap.size, 2, none⟩) (by simp; omega) _).setHigh (p := ⟨w3.heap.size, 5, none⟩) (by simp; omega) _)⟩
    have pT0 : W3.cell? ⟨w2.heap.size, 0, none⟩ = some (.int .u32 t0) := X3.out.2.2.1.cell 0 (by simp)
    have fT0 : W3.frozen? ⟨w2.heap.size, 0, none⟩ = false := X3.out.2.2.1.free 0 (by simp)
    have pT1 : W3.cell? ⟨w2.heap.size, 1, none⟩ = some (.int .u32 t1) := X3.out.2.2.1.cell 1 (by simp)
    have fT1 : W3.frozen? ⟨w2.heap.size, 1, none⟩ = false := X3.out.2.2.1.free 1 (by simp)
    have pT2 : W3.cell? ⟨w2.heap.size, 2, none⟩ = some (.int .u32 t2) := X3.out.2.2.1.cell 2 (by simp)
    have fT2 : W3.frozen? ⟨w2.heap.size, 2, none⟩ = false := X3.out.2.2.1.free 2 (by simp)
    have pT3 : W3.cell? ⟨w2.heap.size, 3, none⟩ = some (.int .u32 t3) := X3.out.2.2.1.cell 3 (by simp)
    have fT3 : W3.frozen? ⟨w2.heap.size, 3, none⟩ = false := X3.out.2.2.1.free 3 (by simp)
    have pT4 : W3.cell? ⟨w2.heap.size, 4, none⟩ = some (.int .u32 t4) := X3.out.2.2.1.cell 4 (by simp)
    have fT4 : W3.frozen? ⟨w2.heap.size, 4, none⟩ = false := X3.out.2.2.1.free 4 (by simp)
    have pT5 : W3.cell? ⟨w2.heap.size, 5, none⟩ = some (.int .u32 t5) := X3.out.2.2.1.cell 5 (by simp)
    have fT5 : W3.frozen? ⟨w2.heap.size, 5, none⟩ = false := X3.out.2.2.1.free 5 (by simp)
    have pT6 : W3.cell? ⟨w2.heap.size, 6, none⟩ = some (.int .u32 t6) := X3.out.2.2.1.cell 6 (by simp)
    have fT6 : W3.frozen? ⟨w2.heap.size, 6, none⟩ = false := X3.out.2.2.1.free 6 (by simp)
    have pT7 : W3.cell? ⟨w2.heap.size, 7, none⟩ = some (.int .u32 t7) := X3.out.2.2.1.cell 7 (by simp)
    have fT7 : W3.frozen? ⟨w2.heap.size, 7, none⟩ = false := X3.out.2.2.1.free 7 (by simp)
    have pT8 : W3.cell? ⟨w2.heap.size, 8, none⟩ = some (.int .u32 t8) := X3.out.2.2.1.cell 8 (by simp)
    have fT8 : W3.frozen? ⟨w2.heap.size, 8, none⟩ = false := X3.out.2.2.1.free 8 (by simp)
    have pR0 : W3.cell? ⟨w3.heap.size, 0, none⟩ = some (.int .u32 r0) := X3.out.2.2.2.cell 0 (by simp)
    have fR0 : W3.frozen? ⟨w3.heap.size, 0, none⟩ = false := X3.out.2.2.2.free 0 (by simp)
    have pR1 : W3.cell? ⟨w3.heap.size, 1, none⟩ = some (.int .u32 r1) := X3.out.2.2.2.cell 1 (by simp)
    have fR1 : W3.frozen? ⟨w3.heap.size, 1, none⟩ = false := X3.out.2.2.2.free 1 (by simp)
    have pR2 : W3.cell? ⟨w3.heap.size, 2, none⟩ = some (.int .u32 r2) := X3.out.2.2.2.cell 2 (by simp)
    have fR2 : W3.frozen? ⟨w3.heap.size, 2, none⟩ = false := X3.out.2.2.2.free 2 (by simp)
    have pR3 : W3.cell? ⟨w3.heap.size, 3, none⟩ = some (.int .u32 r3) := X3.out.2.2.2.cell 3 (by simp)
    have fR3 : W3.frozen? ⟨w3.heap.size, 3, none⟩ = false := X3.out.2.2.2.free 3 (by simp)
    have pR4 : W3.cell? ⟨w3.heap.size, 4, none⟩ = some (.int .u32 r4) := X3.out.2.2.2.cell 4 (by simp)
    have fR4 : W3.frozen? ⟨w3.heap.size, 4, none⟩ = false := X3.out.2.2.2.free 4 (by simp)
    have pR5 : W3.cell? ⟨w3.heap.size, 5, none⟩ = some (.int .u32 r5) := X3.out.2.2.2.cell 5 (by simp)
    have fR5 : W3.frozen? ⟨w3.heap.size, 5, none⟩ = false := X3.out.2.2.2.free 5 (by simp)
    obtain ⟨Wd, hWd⟩ : ∃ W, W = ((((W3.setCell ⟨w2.heap.size, 5, none⟩ (.int .u32 t2)).setCell ⟨w2.heap.size, 8, none⟩ (.int .u32 t2)).setCell ⟨w3.heap.size, 2, none⟩ (.int .u32 t2)).setCell ⟨w3.heap.size, 5, none⟩ (.int .u32 0)) := ⟨_, rfl⟩
    rw [← hWd] at Y HY
    clear X3 H3
    go_wp2_with fail
    rw [← hWd]
    clear hWd
    clear pT0 fT0 pT1 fT1 pT2 fT2 pT3 fT3 pT4 fT4 pT5 fT5 pT6 fT6 pT7 fT7 pT8 fT8 pR0 fR0 pR1 fR1 pR2 fR2 pR3 fR3 pR4 fR4 pR5 fR5
    refine (noWayV_any r3 r4 0 _ br3.1 br3.2 br4.1 br4.2 (by decide) (by decide)).mono ?_
    rintro e V ⟨rfl, hb⟩
    rw [hnw]
    have OX := Y.out.1.later hb
    have OY := Y.out.2.1.later hb
    have OT := Y.out.2.2.1.later hb
    have OR := Y.out.2.2.2.later hb
    have H9 : Hid (Rs P rs2 V ∧ Aside P w V) := ⟨HY.out.1.later hb, HY.out.2.trans (Aside.of hb)⟩
    have pT0 : V.cell? ⟨w2.heap.size, 0, none⟩ = some (.int .u32 t0) := OT.cell 0 (by simp)
    have fT0 : V.frozen? ⟨w2.heap.size, 0, none⟩ = false := OT.free 0 (by simp)
    have pT1 : V.cell? ⟨w2.heap.size, 1, none⟩ = some (.int .u32 t1) := OT.cell 1 (by simp)
    have fT1 : V.frozen? ⟨w2.heap.size, 1, none⟩ = false := OT.free 1 (by simp)
    have pT2 : V.cell? ⟨w2.heap.size, 2, none⟩ = some (.int .u32 t2) := OT.cell 2 (by simp)
    have fT2 : V.frozen? ⟨w2.heap.size, 2, none⟩ = false := OT.free 2 (by simp)
    have pT3 : V.cell? ⟨w2.heap.size, 3, none⟩ = some (.int .u32 t3) := OT.cell 3 (by simp)
    have fT3 : V.frozen? ⟨w2.heap.size, 3, none⟩ = false := OT.free 3 (by simp)
    have pT4 : V.cell? ⟨w2.heap.size, 4, none⟩ = some (.int .u32 t4) := OT.cell 4 (by simp)
    have fT4 : V.frozen? ⟨w2.heap.size, 4, none⟩ = false := OT.free 4 (by simp)
    have pT5 : V.cell? ⟨w2.heap.size, 5, none⟩ = some (.int .u32 t2) := OT.cell 5 (by simp)
    have fT5 : V.frozen? ⟨w2.heap.size, 5, none⟩ = false := OT.free 5 (by simp)
    have pT6 : V.cell? ⟨w2.heap.size, 6, none⟩ = some (.int .u32 t6) := OT.cell 6 (by simp)
    have fT6 : V.frozen? ⟨w2.heap.size, 6, none⟩ = false := OT.free 6 (by simp)
    have pT7 : V.cell? ⟨w2.heap.size, 7, none⟩ = some (.int .u32 t7) := OT.cell 7 (by simp)
    have fT7 : V.frozen? ⟨w2.heap.size, 7, none⟩ = false := OT.free 7 (by simp)
    have pT8 : V.cell? ⟨w2.heap.size, 8, none⟩ = some (.int .u32 t2) := OT.cell 8 (by simp)
    have fT8 : V.frozen? ⟨w2.heap.size, 8, none⟩ = false := OT.free 8 (by simp)
    have pR0 : V.cell? ⟨w3.heap.size, 0, none⟩ = some (.int .u32 r0) := OR.cell 0 (by simp)
    have fR0 : V.frozen? ⟨w3.heap.size, 0, none⟩ = false := OR.free 0 (by simp)
    have pR1 : V.cell? ⟨w3.heap.size, 1, none⟩ = some (.int .u32 r1) := OR.cell 1 (by simp)
    have fR1 : V.frozen? ⟨w3.heap.size, 1, none⟩ = false := OR.free 1 (by simp)
    have pR2 : V.cell? ⟨w3.heap.size, 2, none⟩ = some (.int .u32 t2) := OR.cell 2 (by simp)
    have fR2 : V.frozen? ⟨w3.heap.size, 2, none⟩ = false := OR.free 2 (by simp)
    have pR3 : V.cell? ⟨w3.heap.size, 3, none⟩ = some (.int .u32 r3) := OR.cell 3 (by simp)
    have fR3 : V.frozen? ⟨w3.heap.size, 3, none⟩ = false := OR.free 3 (by simp)
    have pR4 : V.cell? ⟨w3.heap.size, 4, none⟩ = some (.int .u32 r4) := OR.cell 4 (by simp)
    have fR4 : V.frozen? ⟨w3.heap.size, 4, none⟩ = false := OR.free 4 (by simp)
    have pR5 : V.cell? ⟨w3.heap.size, 5, none⟩ = some (.int .u32 0) := OR.cell 5 (by simp)
    have fR5 : V.frozen? ⟨w3.heap.size, 5, none⟩ = false := OR.free 5 (by simp)
    have pX0 : V.cell? ⟨w.heap.size, 0, none⟩ = some (.int .u32 0) := OX.cell 0 (by simp)
    have fX0 : V.frozen? ⟨w.heap.size, 0, none⟩ = false := OX.free 0 (by simp)
    have pX1 : V.cell? ⟨w.heap.size, 1, none⟩ = some (.int .u32 0) := OX.cell 1 (by simp)
    have fX1 : V.frozen? ⟨w.heap.size, 1, none⟩ = false := OX.free 1 (by simp)
    have pX2 : V.cell? ⟨w.heap.size, 2, none⟩ = some (.int .u32 0) := OX.cell 2 (by simp)
    have fX2 : V.frozen? ⟨w.heap.size, 2, none⟩ = false := OX.free 2 (by simp)
    have pX3 : V.cell? ⟨w.heap.size, 3, none⟩ = some (.int .u32 0) := OX.cell 3 (by simp)
    have fX3 : V.frozen? ⟨w.heap.size, 3, none⟩ = false := OX.free 3 (by simp)
    have pX4 : V.cell? ⟨w.heap.size, 4, none⟩ = some (.int .u32 0) := OX.cell 4 (by simp)
    have fX4 : V.frozen? ⟨w.heap.size, 4, none⟩ = false := OX.free 4 (by simp)
    have pX5 : V.cell? ⟨w.heap.size, 5, none⟩ = some (.int .u32 0) := OX.cell 5 (by simp)
    have fX5 : V.frozen? ⟨w.heap.size, 5, none⟩ = false := OX.free 5 (by simp)
    have pX6 : V.cell? ⟨w.heap.size, 6, none⟩ = some (.int .u32 0) := OX.cell 6 (by simp)
    have fX6 : V.frozen? ⟨w.heap.size, 6, none⟩ = false := OX.free 6 (by simp)
    have pX7 : V.cell? ⟨w.heap.size, 7, none⟩ = some (.int .u32 0) := OX.cell 7 (by simp)
    have fX7 : V.frozen? ⟨w.heap.size, 7, none⟩ = false := OX.free 7 (by simp)
    have pX8 : V.cell? ⟨w.heap.size, 8, none⟩ = some (.int .u32 0) := OX.cell 8 (by simp)
    have fX8 : V.frozen? ⟨w.heap.size, 8, none⟩ = false := OX.free 8 (by simp)
    have pY0 : V.cell? ⟨w.heap.size + 1, 0, none⟩ = some (.int .u32 0) := OY.cell 0 (by simp)
    have fY0 : V.frozen? ⟨w.heap.size + 1, 0, none⟩ = false := OY.free 0 (by simp)
    have pY1 : V.cell? ⟨w.heap.size + 1, 1, none⟩ = some (.int .u32 0) := OY.cell 1 (by simp)
    have fY1 : V.frozen? ⟨w.heap.size + 1, 1, none⟩ = false := OY.free 1 (by simp)
    have pY2 : V.cell? ⟨w.heap.size + 1, 2, none⟩ = some (.int .u32 0) := OY.cell 2 (by simp)
    have fY2 : V.frozen? ⟨w.heap.size + 1, 2, none⟩ = false := OY.free 2 (by simp)
    have pY3 : V.cell? ⟨w.heap.size + 1, 3, none⟩ = some (.int .u32 0) := OY.cell 3 (by simp)
    have fY3 : V.frozen? ⟨w.heap.size + 1, 3, none⟩ = false := OY.free 3 (by simp)
    have pY4 : V.cell? ⟨w.heap.size + 1, 4, none⟩ = some (.int .u32 0) := OY.cell 4 (by simp)
    have fY4 : V.frozen? ⟨w.heap.size + 1, 4, none⟩ = false := OY.free 4 (by simp)
    have pY5 : V.cell? ⟨w.heap.size + 1, 5, none⟩ = some (.int .u32 0) := OY.cell 5 (by simp)
    have fY5 : V.frozen? ⟨w.heap.size + 1, 5, none⟩ = false := OY.free 5 (by simp)
    clear hb Y HY OX OY OT OR
    go_wp2
    go_region
    all_goals go_wp2
    all_goals refine bodyPost_ret (v := .tuple #[.agg #[.int .u32 t0, .int .u32 t1, .int .u32 t2, .int .u32 t3, .int .u32 t4, .int .u32 t2, .int .u32 t6, .int .u32 t7, .int .u32 t2], .agg #[.int .u32 r0, .int .u32 r1, .int .u32 t2, .int .u32 r3, .int .u32 r4, .int .u32 0]]) (by simp [results, Tryz.results47, go_sem, pX0, pX1, pX2, pX3, pX4, pX5, pX6, pX7, pX8, pY0, pY1, pY2, pY3, pY4, pY5]) rfl ?_
    all_goals exact ⟨rfl, (show Rs P rs2 (World.drew _) by refine Rs.above (B := P + 1) ?_ (Below.drew (Below.refl _ _)) (Nat.lt_succ_self _); (repeat refine Rs.set ?_ (by omega) _ _); exact H9.out.1), (show Aside P w (World.drew _) by refine Aside.high (B := w.heap.size) ?_ (Below.drew (Below.refl _ _)) (Nat.le_refl _); (repeat refine Aside.setHigh ?_ (by simp <;> omega) _); exact H9.out.2)⟩
  · refine ⟨t0, t1, t2, t3, t4, t2, t6, t7, t2, r0, r1, t2, 1065353216, r4, 0, rs2, u32_9 bt0 bt1 bt2 bt3 bt4 bt2 bt6 bt7 bt2, u32_6 br0 br1 bt2 c1 br4 c0, ?_⟩
    intro P w h
    have hP := h.lt
    have HS : Hid (Rs P rs w) := h
    clear h
    obtain ⟨W0, hW0⟩ : ∃ W, W = (w.alloc (.cells #[.int .u32 0, .int .u32 0, .int .u32 0, .int .u32 0, .int .u32 0, .int .u32 0, .int .u32 0, .int .u32 0, .int .u32 0] 66)).alloc (.cells #[.int .u32 0, .int .u32 0, .int .u32 0, .int .u32 0, .int .u32 0, .int .u32 0] 55) := ⟨_, rfl⟩
    have X0 : Hid (Own .u32 W0 w.heap.size 0 [0, 0, 0, 0, 0, 0, 0, 0, 0] ∧ Own .u32 W0 (w.heap.size + 1) 0 [0, 0, 0, 0, 0, 0]) := by
      unfold Hid
      rw [hW0]
      refine ⟨(own_lit w [0, 0, 0, 0, 0, 0, 0, 0, 0] _ _ rfl).later (bel0 _ _), ?_⟩
      have := own_lit (w.alloc (.cells #[.int .u32 0, .int .u32 0, .int .u32 0, .int .u32 0, .int .u32 0, .int .u32 0, .int .u32 0, .int .u32 0, .int .u32 0] 66)) [0, 0, 0, 0, 0, 0] 55 _ rfl
      simpa using this
    have H0 : Hid (Rs P rs W0 ∧ Aside P w W0) := by unfold Hid; rw [hW0]; exact ⟨HS.out.later (bel2 _ _ _), Aside.of (bel2 _ _ _)⟩
    go_enter Tryz.func47, Tryz.ntmps47
    go_wp2_with fail
    rw [← hW0]
    clear hW0
    refine (nextF_any P rs _ H0.out.1).mono ?_
    rintro e w1 ⟨rfl, hk0, hk1, hr, ha⟩
    rw [HK.out] at hk0 hk1 ⊢
    have O1 : Hid (Own .u32 w1 w.heap.size 0 [0, 0, 0, 0, 0, 0, 0, 0, 0] ∧ Own .u32 w1 (w.heap.size + 1) 0 [0, 0, 0, 0, 0, 0]) := ⟨own_asideP X0.out.1 ha (by omega), own_asideP X0.out.2 ha (by omega)⟩
    have H1 : Hid (Rs P rs.tail w1 ∧ Aside P w w1) := ⟨hr, H0.out.2.trans ha⟩
    have hm8 : kk.tmod 8 = kk % 8 := Int.tmod_eq_emod_of_nonneg hk0
    have z1 := O1.out.2.lt
    clear hr ha X0 H0
    go_wp2_with fail
    refine (HA.out.tells P w1 H1.out.1).mono ?_
    rintro e w2 ⟨rfl, hr, ha⟩
    have OA0 : Own .u32 (w2.alloc (.cells #[.int .u32 t0, .int .u32 t1, .int .u32 t2, .int .u32 t3, .int .u32 t4, .int .u32 t5, .int .u32 t6, .int .u32 t7, .int .u32 t8] 66)) w2.heap.size 0 [t0, t1, t2, t3, t4, t5, t6, t7, t8] := own_lit w2 [t0, t1, t2, t3, t4, t5, t6, t7, t8] _ _ rfl
    obtain ⟨W2, hW2⟩ : ∃ W, W = w2.alloc (.cells #[.int .u32 t0, .int .u32 t1, .int .u32 t2, .int .u32 t3, .int .u32 t4, .int .u32 t5, .int .u32 t6, .int .u32 t7, .int .u32 t8] 66) := ⟨_, rfl⟩
    rw [← hW2] at OA0
    have bW : Below w2.heap.size w2 W2 := by rw [hW2]; exact bel0 _ _
    have X2 : Hid (Own .u32 W2 w.heap.size 0 [0, 0, 0, 0, 0, 0, 0, 0, 0] ∧ Own .u32 W2 (w.heap.size + 1) 0 [0, 0, 0, 0, 0, 0] ∧ Own .u32 W2 w2.heap.size 0 [t0, t1, t2, t3, t4, t5, t6, t7, t8]) := ⟨(own_asideP O1.out.1 ha (by omega)).later bW, (own_asideP O1.out.2 ha (by omega)).later bW, OA0⟩
    have H2 : Hid (Rs P rs1 W2 ∧ Aside P w W2) := ⟨hr.later bW, (H1.out.2.trans ha).trans (Aside.of bW)⟩
    have z2 : w.heap.size + 1 < w2.heap.size := by have := ha.size; omega
    clear hr ha OA0 bW O1 H1
    go_wp2_with fail
    rw [← hW2]
    clear hW2
    refine (HB.out.tells P W2 H2.out.1).mono ?_
    rintro e w3 ⟨rfl, hr, ha⟩
    have OB0 : Own .u32 (w3.alloc (.cells #[.int .u32 r0, .int .u32 r1, .int .u32 r2, .int .u32 r3, .int .u32 r4, .int .u32 r5] 55)) w3.heap.size 0 [r0, r1, r2, r3, r4, r5] := own_lit w3 [r0, r1, r2, r3, r4, r5] _ _ rfl
    obtain ⟨W3, hW3⟩ : ∃ W, W = w3.alloc (.cells #[.int .u32 r0, .int .u32 r1, .int .u32 r2, .int .u32 r3, .int .u32 r4, .int .u32 r5] 55) := ⟨_, rfl⟩
    rw [← hW3] at OB0
    have bW : Below w3.heap.size w3 W3 := by rw [hW3]; exact bel0 _ _
    have X3 : Hid (Own .u32 W3 w.heap.size 0 [0, 0, 0, 0, 0, 0, 0, 0, 0] ∧ Own .u32 W3 (w.heap.size + 1) 0 [0, 0, 0, 0, 0, 0] ∧ Own .u32 W3 w2.heap.size 0 [t0, t1, t2, t3, t4, t5, t6, t7, t8] ∧ Own .u32 W3 w3.heap.size 0 [r0, r1, r2, r3, r4, r5]) := ⟨(own_asideP X2.out.1 ha (by omega)).later bW, (own_asideP X2.out.2.1 ha (by omega)).later bW, (own_asideP X2.out.2.2 ha (by omega)).later bW, OB0⟩
    have H3 : Hid (Rs P rs2 W3 ∧ Aside P w W3) := ⟨hr.later bW, (H2.out.2.trans ha).trans (Aside.of bW)⟩
    have z3 : w2.heap.size < w3.heap.size := by have := ha.size; have := X2.out.2.2.lt; omega
    clear hr ha OB0 bW X2 H2
    go_upto_region 4 with fail
    rw [← hW3]
    clear hW3
    have n1 : w.heap.size ≠ w2.heap.size := by omega
    have n2 : w.heap.size ≠ w3.heap.size := by omega
    have n3 : w2.heap.size ≠ w3.heap.size := by omega
    have n4 : w.heap.size + 1 ≠ w2.heap.size := by omega
    have n5 : w.heap.size + 1 ≠ w3.heap.size := by omega
    have Y : Hid (Own .u32 ((((W3.setCell ⟨w2.heap.size, 5, none⟩ (.int .u32 t2)).setCell ⟨w2.heap.size, 8, none⟩ (.int .u32 t2)).setCell ⟨w3.heap.size, 2, none⟩ (.int .u32 t2)).setCell ⟨w3.heap.size, 5, none⟩ (.int .u32 0)) w.heap.size 0 [0, 0, 0, 0, 0, 0, 0, 0, 0] ∧ Own .u32 ((((W3.setCell ⟨w2.heap.size, 5, none⟩ (.int .u32 t2)).setCell ⟨w2.heap.size, 8, none⟩ (.int .u32 t2)).setCell ⟨w3.heap.size, 2, none⟩ (.int .u32 t2)).setCell ⟨w3.heap.size, 5, none⟩ (.int .u32 0)) (w.heap.size + 1) 0 [0, 0, 0, 0, 0, 0] ∧ Own .u32 ((((W3.setCell ⟨w2.heap.size, 5, none⟩ (.int .u32 t2)).setCell ⟨w2.heap.size, 8, none⟩ (.int .u32 t2)).setCell ⟨w3.heap.size, 2, none⟩ (.int .u32 t2)).setCell ⟨w3.heap.size, 5, none⟩ (.int .u32 0)) w2.heap.size 0 [t0, t1, t2, t3, t4, t2, t6, t7, t2] ∧ Own .u32 ((((W3.setCell ⟨w2.heap.size, 5, none⟩ (.int .u32 t2)).setCell ⟨w2.heap.size, 8, none⟩ (.int .u32 t2)).setCell ⟨w3.heap.size, 2, none⟩ (.int .u32 t2)).setCell ⟨w3.heap.size, 5, none⟩ (.int .u32 0)) w3.heap.size 0 [r0, r1, t2, r3, r4, 0]) := ⟨(own_otherP (own_otherP (own_otherP (own_otherP X3.out.1 (by omega) 5 _) (by omega) 8 _) (by omega) 2 _) (by omega) 5 _), (own_otherP (own_otherP (own_otherP (own_otherP X3.out.2.1 (by omega) 5 _) (by omega) 8 _) (by omega) 2 _) (by omega) 5 _), (own_otherP (own_otherP ((X3.out.2.2.1.set 5 t2 (by simp)).set 8 t2 (by simp)) (by omega) 2 _) (by omega) 5 _), (((own_otherP (own_otherP X3.out.2.2.2 (by omega) 5 _) (by omega) 8 _).set 2 t2 (by simp)).set 5 0 (by simp))⟩
    have HY : Hid (Rs P rs2 ((((W3.setCell ⟨w2.heap.size, 5, none⟩ (.int .u32 t2)).setCell ⟨w2.heap.size, 8, none⟩ (.int .u32 t2)).setCell ⟨w3.heap.size, 2, none⟩ (.int .u32 t2)).setCell ⟨w3.heap.size, 5, none⟩ (.int .u32 0)) ∧ Aside P w ((((W3.setCell ⟨w2.heap.size, 5, none⟩ (.int .u32 t2)).setCell ⟨w2.heap.size, 8, none⟩ (.int .u32 t2)).setCell ⟨w3.heap.size, 2, none⟩ (.int .u32 t2)).setCell ⟨w3.heap.size, 5, none⟩ (.int .u32 0))) := ⟨((((H3.out.1.set (by omega) 5 _).set (by omega) 8 _).set (by omega) 2 _).set (by omega) 5 _), ((((H3.out.2.setHigh (p := ⟨w2.heap.size, 5, none⟩) (by simp; omega) _).setHigh (p := ⟨w2.heap.size, 8, none⟩) (by simp; omega) _).setHigh (p := ⟨w3.heap.size, 2, none⟩) (by simp; omega) _).setHigh (p := ⟨w3.heap.size, 5, none⟩) (by simp; omega) _)⟩
    have pT0 : W3.cell? ⟨w2.heap.size, 0, none⟩ = some (.int .u32 t0) := X3.out.2.2.1.cell 0 (by simp)
    have fT0 : W3.frozen? ⟨w2.heap.size, 0, none⟩ = false := X3.out.2.2.1.free 0 (by simp)
    have pT1 : W3.cell? ⟨w2.heap.size, 1, none⟩ = some (.int .u32 t1) := X3.out.2.2.1.cell 1 (by simp)
    have fT1 : W3.frozen? ⟨w2.heap.size, 1, none⟩ = false := X3.out.2.2.1.free 1 (by simp)
    have pT2 : W3.cell? ⟨w2.heap.size, 2, none⟩ = some (.int .u32 t2) := X3.out.2.2.1.cell 2 (by simp)
    have fT2 : W3.frozen? ⟨w2.heap.size, 2, none⟩ = false := X3.out.2.2.1.free 2 (by simp)
    have pT3 : W3.cell? ⟨w2.heap.size, 3, none⟩ = some (.int .u32 t3) := X3.out.2.2.1.cell 3 (by simp)
    have fT3 : W3.frozen? ⟨w2.heap.size, 3, none⟩ = false := X3.out.2.2.1.free 3 (by simp)
    have pT4 : W3.cell? ⟨w2.heap.size, 4, none⟩ = some (.int .u32 t4) := X3.out.2.2.1.cell 4 (by simp)
    have fT4 : W3.frozen? ⟨w2.heap.size, 4, none⟩ = false := X3.out.2.2.1.free 4 (by simp)
    have pT5 : W3.cell? ⟨w2.heap.size, 5, none⟩ = some (.int .u32 t5) := X3.out.2.2.1.cell 5 (by simp)
    have fT5 : W3.frozen? ⟨w2.heap.size, 5, none⟩ = false := X3.out.2.2.1.free 5 (by simp)
    have pT6 : W3.cell? ⟨w2.heap.size, 6, none⟩ = some (.int .u32 t6) := X3.out.2.2.1.cell 6 (by simp)
    have fT6 : W3.frozen? ⟨w2.heap.size, 6, none⟩ = false := X3.out.2.2.1.free 6 (by simp)
    have pT7 : W3.cell? ⟨w2.heap.size, 7, none⟩ = some (.int .u32 t7) := X3.out.2.2.1.cell 7 (by simp)
    have fT7 : W3.frozen? ⟨w2.heap.size, 7, none⟩ = false := X3.out.2.2.1.free 7 (by simp)
    have pT8 : W3.cell? ⟨w2.heap.size, 8, none⟩ = some (.int .u32 t8) := X3.out.2.2.1.cell 8 (by simp)
    have fT8 : W3.frozen? ⟨w2.heap.size, 8, none⟩ = false := X3.out.2.2.1.free 8 (by simp)
    have pR0 : W3.cell? ⟨w3.heap.size, 0, none⟩ = some (.int .u32 r0) := X3.out.2.2.2.cell 0 (by simp)
    have fR0 : W3.frozen? ⟨w3.heap.size, 0, none⟩ = false := X3.out.2.2.2.free 0 (by simp)
    have pR1 : W3.cell? ⟨w3.heap.size, 1, none⟩ = some (.int .u32 r1) := X3.out.2.2.2.cell 1 (by simp)
    have fR1 : W3.frozen? ⟨w3.heap.size, 1, none⟩ = false := X3.out.2.2.2.free 1 (by simp)
    have pR2 : W3.cell? ⟨w3.heap.size, 2, none⟩ = some (.int .u32 r2) := X3.out.2.2.2.cell 2 (by simp)
    have fR2 : W3.frozen? ⟨w3.heap.size, 2, none⟩ = false := X3.out.2.2.2.free 2 (by simp)
    have pR3 : W3.cell? ⟨w3.heap.size, 3, none⟩ = some (.int .u32 r3) := X3.out.2.2.2.cell 3 (by simp)
    have fR3 : W3.frozen? ⟨w3.heap.size, 3, none⟩ = false := X3.out.2.2.2.free 3 (by simp)
    have pR4 : W3.cell? ⟨w3.heap.size, 4, none⟩ = some (.int .u32 r4) := X3.out.2.2.2.cell 4 (by simp)
    have fR4 : W3.frozen? ⟨w3.heap.size, 4, none⟩ = false := X3.out.2.2.2.free 4 (by simp)
    have pR5 : W3.cell? ⟨w3.heap.size, 5, none⟩ = some (.int .u32 r5) := X3.out.2.2.2.cell 5 (by simp)
    have fR5 : W3.frozen? ⟨w3.heap.size, 5, none⟩ = false := X3.out.2.2.2.free 5 (by simp)
    obtain ⟨Wd, hWd⟩ : ∃ W, W = ((((W3.setCell ⟨w2.heap.size, 5, none⟩ (.int .u32 t2)).setCell ⟨w2.heap.size, 8, none⟩ (.int .u32 t2)).setCell ⟨w3.heap.size, 2, none⟩ (.int .u32 t2)).setCell ⟨w3.heap.size, 5, none⟩ (.int .u32 0)) := ⟨_, rfl⟩
    rw [← hWd] at Y HY
    clear X3 H3
    go_wp2_with fail
    rw [← hWd]
    clear hWd
    clear pT0 fT0 pT1 fT1 pT2 fT2 pT3 fT3 pT4 fT4 pT5 fT5 pT6 fT6 pT7 fT7 pT8 fT8 pR0 fR0 pR1 fR1 pR2 fR2 pR3 fR3 pR4 fR4 pR5 fR5
    refine (noWayV_any r3 r4 0 _ br3.1 br3.2 br4.1 br4.2 (by decide) (by decide)).mono ?_
    rintro e V ⟨rfl, hb⟩
    rw [hnw]
    have OX := Y.out.1.later hb
    have OY := Y.out.2.1.later hb
    have OT := Y.out.2.2.1.later hb
    have OR := Y.out.2.2.2.later hb
    have H9 : Hid (Rs P rs2 V ∧ Aside P w V) := ⟨HY.out.1.later hb, HY.out.2.trans (Aside.of hb)⟩
    have pT0 : V.cell? ⟨w2.heap.size, 0, none⟩ = some (.int .u32 t0) := OT.cell 0 (by simp)
    have fT0 : V.frozen? ⟨w2.heap.size, 0, none⟩ = false := OT.free 0 (by simp)
    have pT1 : V.cell? ⟨w2.heap.size, 1, none⟩ = some (.int .u32 t1) := OT.cell 1 (by simp)
    have fT1 : V.frozen? ⟨w2.heap.size, 1, none⟩ = false := OT.free 1 (by simp)
    have pT2 : V.cell? ⟨w2.heap.size, 2, none⟩ = some (.int .u32 t2) := OT.cell 2 (by simp)
    have fT2 : V.frozen? ⟨w2.heap.size, 2, none⟩ = false := OT.free 2 (by simp)
    have pT3 : V.cell? ⟨w2.heap.size, 3, none⟩ = some (.int .u32 t3) := OT.cell 3 (by simp)
    have fT3 : V.frozen? ⟨w2.heap.size, 3, none⟩ = false := OT.free 3 (by simp)
    have pT4 : V.cell? ⟨w2.heap.size, 4, none⟩ = some (.int .u32 t4) := OT.cell 4 (by simp)
    have fT4 : V.frozen? ⟨w2.heap.size, 4, none⟩ = false := OT.free 4 (by simp)
    have pT5 : V.cell? ⟨w2.heap.size, 5, none⟩ = some (.int .u32 t2) := OT.cell 5 (by simp)
    have fT5 : V.frozen? ⟨w2.heap.size, 5, none⟩ = false := OT.free 5 (by simp)
    have pT6 : V.cell? ⟨w2.heap.size, 6, none⟩ = some (.int .u32 t6) := OT.cell 6 (by simp)
    have fT6 : V.frozen? ⟨w2.heap.size, 6, none⟩ = false := OT.free 6 (by simp)
    have pT7 : V.cell? ⟨w2.heap.size, 7, none⟩ = some (.int .u32 t7) := OT.cell 7 (by simp)
    have fT7 : V.frozen? ⟨w2.heap.size, 7, none⟩ = false := OT.free 7 (by simp)
    have pT8 : V.cell? ⟨w2.heap.size, 8, none⟩ = some (.int .u32 t2) := OT.cell 8 (by simp)
    have fT8 : V.frozen? ⟨w2.heap.size, 8, none⟩ = false := OT.free 8 (by simp)
    have pR0 : V.cell? ⟨w3.heap.size, 0, none⟩ = some (.int .u32 r0) := OR.cell 0 (by simp)
    have fR0 : V.frozen? ⟨w3.heap.size, 0, none⟩ = false := OR.free 0 (by simp)
    have pR1 : V.cell? ⟨w3.heap.size, 1, none⟩ = some (.int .u32 r1) := OR.cell 1 (by simp)
    have fR1 : V.frozen? ⟨w3.heap.size, 1, none⟩ = false := OR.free 1 (by simp)
    have pR2 : V.cell? ⟨w3.heap.size, 2, none⟩ = some (.int .u32 t2) := OR.cell 2 (by simp)
    have fR2 : V.frozen? ⟨w3.heap.size, 2, none⟩ = false := OR.free 2 (by simp)
    have pR3 : V.cell? ⟨w3.heap.size, 3, none⟩ = some (.int .u32 r3) := OR.cell 3 (by simp)
    have fR3 : V.frozen? ⟨w3.heap.size, 3, none⟩ = false := OR.free 3 (by simp)
    have pR4 : V.cell? ⟨w3.heap.size, 4, none⟩ = some (.int .u32 r4) := OR.cell 4 (by simp)
    have fR4 : V.frozen? ⟨w3.heap.size, 4, none⟩ = false := OR.free 4 (by simp)
    have pR5 : V.cell? ⟨w3.heap.size, 5, none⟩ = some (.int .u32 0) := OR.cell 5 (by simp)
    have fR5 : V.frozen? ⟨w3.heap.size, 5, none⟩ = false := OR.free 5 (by simp)
    have pX0 : V.cell? ⟨w.heap.size, 0, none⟩ = some (.int .u32 0) := OX.cell 0 (by simp)
    have fX0 : V.frozen? ⟨w.heap.size, 0, none⟩ = false := OX.free 0 (by simp)
    have pX1 : V.cell? ⟨w.heap.size, 1, none⟩ = some (.int .u32 0) := OX.cell 1 (by simp)
    have fX1 : V.frozen? ⟨w.heap.size, 1, none⟩ = false := OX.free 1 (by simp)
    have pX2 : V.cell? ⟨w.heap.size, 2, none⟩ = some (.int .u32 0) := OX.cell 2 (by simp)
    have fX2 : V.frozen? ⟨w.heap.size, 2, none⟩ = false := OX.free 2 (by simp)
    have pX3 : V.cell? ⟨w.heap.size, 3, none⟩ = some (.int .u32 0) := OX.cell 3 (by simp)
    have fX3 : V.frozen? ⟨w.heap.size, 3, none⟩ = false := OX.free 3 (by simp)
    have pX4 : V.cell? ⟨w.heap.size, 4, none⟩ = some (.int .u32 0) := OX.cell 4 (by simp)
    have fX4 : V.frozen? ⟨w.heap.size, 4, none⟩ = false := OX.free 4 (by simp)
    have pX5 : V.cell? ⟨w.heap.size, 5, none⟩ = some (.int .u32 0) := OX.cell 5 (by simp)
    have fX5 : V.frozen? ⟨w.heap.size, 5, none⟩ = false := OX.free 5 (by simp)
    have pX6 : V.cell? ⟨w.heap.size, 6, none⟩ = some (.int .u32 0) := OX.cell 6 (by simp)
    have fX6 : V.frozen? ⟨w.heap.size, 6, none⟩ = false := OX.free 6 (by simp)
    have pX7 : V.cell? ⟨w.heap.size, 7, none⟩ = some (.int .u32 0) := OX.cell 7 (by simp)
    have fX7 : V.frozen? ⟨w.heap.size, 7, none⟩ = false := OX.free 7 (by simp)
    have pX8 : V.cell? ⟨w.heap.size, 8, none⟩ = some (.int .u32 0) := OX.cell 8 (by simp)
    have fX8 : V.frozen? ⟨w.heap.size, 8, none⟩ = false := OX.free 8 (by simp)
    have pY0 : V.cell? ⟨w.heap.size + 1, 0, none⟩ = some (.int .u32 0) := OY.cell 0 (by simp)
    have fY0 : V.frozen? ⟨w.heap.size + 1, 0, none⟩ = false := OY.free 0 (by simp)
    have pY1 : V.cell? ⟨w.heap.size + 1, 1, none⟩ = some (.int .u32 0) := OY.cell 1 (by simp)
    have fY1 : V.frozen? ⟨w.heap.size + 1, 1, none⟩ = false := OY.free 1 (by simp)
    have pY2 : V.cell? ⟨w.heap.size + 1, 2, none⟩ = some (.int .u32 0) := OY.cell 2 (by simp)
    have fY2 : V.frozen? ⟨w.heap.size + 1, 2, none⟩ = false := OY.free 2 (by simp)
    have pY3 : V.cell? ⟨w.heap.size + 1, 3, none⟩ = some (.int .u32 0) := OY.cell 3 (by simp)
    have fY3 : V.frozen? ⟨w.heap.size + 1, 3, none⟩ = false := OY.free 3 (by simp)
    have pY4 : V.cell? ⟨w.heap.size + 1, 4, none⟩ = some (.int .u32 0) := OY.cell 4 (by simp)
    have fY4 : V.frozen? ⟨w.heap.size + 1, 4, none⟩ = false := OY.free 4 (by simp)
    have pY5 : V.cell? ⟨w.heap.size + 1, 5, none⟩ = some (.int .u32 0) := OY.cell 5 (by simp)
    have fY5 : V.frozen? ⟨w.heap.size + 1, 5, none⟩ = false := OY.free 5 (by simp)
    clear hb Y HY OX OY OT OR
    go_wp2
    go_region
    all_goals go_wp2
    all_goals refine bodyPost_ret (v := .tuple #[.agg #[.int .u32 t0, .int .u32 t1, .int .u32 t2, .int .u32 t3, .int .u32 t4, .int .u32 t2, .int .u32 t6, .int .u32 t7, .int .u32 t2], .agg #[.int .u32 r0, .int .u32 r1, .int .u32 t2, .int .u32 1065353216, .int .u32 r4, .int .u32 0]]) (by simp [results, Tryz.results47, go_sem, pX0, pX1, pX2, pX3, pX4, pX5, pX6, pX7, pX8, pY0, pY1, pY2, pY3, pY4, pY5]) rfl ?_
    all_goals exact ⟨rfl, (show Rs P rs2 (World.drew _) by refine Rs.above (B := P + 1) ?_ (Below.drew (Below.refl _ _)) (Nat.lt_succ_self _); (repeat refine Rs.set ?_ (by omega) _ _); exact H9.out.1), (show Aside P w (World.drew _) by refine Aside.high (B := w.heap.size) ?_ (Below.drew (Below.refl _ _)) (Nat.le_refl _); (repeat refine Aside.setHigh ?_ (by simp <;> omega) _); exact H9.out.2)⟩

end Go.Proofs.YtiajhekjojeaeaaGreat
