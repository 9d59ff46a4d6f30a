/-
  Drawn rays: what is drawn is told by the reader's bytes alone.
-/
import Derived.Test.YtiajhekjojeaeaaGreatBdB
namespace Go.Proofs.YtiajhekjojeaeaaGreat
open Go.RowKit

theorem own_otherP {k : IntKind} {w : World} {b off : Nat} {ys : List Int} (h : Own k w b off ys) {c : Nat} (hp : c ≠ b) (j : Nat) (v : Value) : Own k (w.setCell ⟨c, j, none⟩ v) b off ys :=
  own_asideP h ((Aside.refl c w).set j v) (fun e => hp e.symm)

set_option maxRecDepth 100000 in
set_option maxHeartbeats 4000000 in
theorem rayD (wild : Bool) (rs : List Int) : ∃ x0 x1 x2 x3 x4 x5 rs', RayD wild rs x0 x1 x2 x3 x4 x5 rs' := by
  obtain ⟨a0, a1, a2, rs1, hA⟩ := ptD wild rs.tail
  obtain ⟨b0, b1, b2, rs2, hB⟩ := ptD wild rs1
  have HA : Hid (PtD wild rs.tail a0 a1 a2 rs1) := hA
  have HB : Hid (PtD wild rs1 b0 b1 b2 rs2) := hB
  have xa := hA.xr
  have ya := hA.yr
  have za := hA.zr
  have xb := hB.xr
  have yb := hB.yr
  have zb := hB.zr
  have h0 : (0 : Int) ≤ 0 ∧ (0 : Int) < 4294967296 := by decide
  have hone : (0 : Int) ≤ 1065353216 ∧ (1065353216 : Int) < 4294967296 := by decide
  clear hA hB
  obtain ⟨kk, hkk⟩ : ∃ k, k = rs.headD 0 := ⟨_, rfl⟩
  have HK : Hid (rs.headD 0 = kk) := hkk.symm
  clear hkk
  by_cases h4 : kk % 4 = 0
  · have c4 : (kk % 4 == 0) = true := by rw [beq_iff_eq]; exact h4
    have c8 : (kk % 8 == 1) = false := by rw [beq_eq_false_iff_ne]; omega
    cases hnw : noWayB 0 0 b2
    · refine ⟨a0, a1, a2, 0, 0, b2, rs2, u32_6 xa ya za h0 h0 zb, ?_⟩
      intro P w h
      have hP := h.lt
      have HS : Hid (Rs P rs w) := h
      clear h
      go_enter Tryz.func74, Tryz.ntmps74
      go_wp2_with fail
      refine (nextF_any P rs _ (HS.out.later (bel0 _ _))).mono ?_
      rintro e w1 ⟨rfl, hk0, hk1, hr, ha⟩
      rw [HK.out] at hk0 hk1 ⊢
      have O1 : Hid (Own .u32 w1 w.heap.size 0 [0, 0, 0, 0, 0, 0]) := own_asideP (own_lit w [0, 0, 0, 0, 0, 0] _ _ rfl) ha (by omega)
      have H1 : Hid (Rs P rs.tail w1 ∧ Aside P w w1) := ⟨hr, (Aside.of (bel0 _ _)).trans ha⟩
      have hm16 : kk.tmod 16 = kk % 16 := Int.tmod_eq_emod_of_nonneg hk0
      have hm8 : kk.tmod 8 = kk % 8 := Int.tmod_eq_emod_of_nonneg hk0
      have hm4 : kk.tmod 4 = kk % 4 := Int.tmod_eq_emod_of_nonneg hk0
      have z1 := O1.out.lt
      clear hr ha
      go_wp2_with fail
      refine (HA.out.tells P w1 H1.out.1).mono ?_
      rintro e w2 ⟨rfl, hr, ha⟩
      have OA0 : Own .u32 (w2.alloc (.cells #[.int .u32 a0, .int .u32 a1, .int .u32 a2] 53)) w2.heap.size 0 [a0, a1, a2] := own_lit w2 [a0, a1, a2] _ _ rfl
      obtain ⟨W2, hW2⟩ : ∃ W, W = w2.alloc (.cells #[.int .u32 a0, .int .u32 a1, .int .u32 a2] 53) := ⟨_, rfl⟩
      rw [← hW2] at OA0
      have bW : Below w2.heap.size w2 W2 := by rw [hW2]; exact bel0 _ _
      have X2 : Hid (Own .u32 W2 w.heap.size 0 [0, 0, 0, 0, 0, 0] ∧ Own .u32 W2 w2.heap.size 0 [a0, a1, a2]) := ⟨(own_asideP O1.out ha (by omega)).later bW, OA0⟩
      have H2 : Hid (Rs P rs1 W2 ∧ Aside P w W2) := ⟨hr.later bW, (H1.out.2.trans ha).trans (Aside.of bW)⟩
      have z2 : w.heap.size < w2.heap.size := by have := ha.size; omega
      clear hr ha OA0 bW O1 H1
      go_wp2_with fail
      rw [← hW2]
      clear hW2
      refine (HB.out.tells P W2 H2.out.1).mono ?_
      rintro e w3 ⟨rfl, hr, ha⟩
      have OB0 : Own .u32 (w3.alloc (.cells #[.int .u32 b0, .int .u32 b1, .int .u32 b2] 53)) w3.heap.size 0 [b0, b1, b2] := own_lit w3 [b0, b1, b2] _ _ rfl
      obtain ⟨W3, hW3⟩ : ∃ W, W = w3.alloc (.cells #[.int .u32 b0, .int .u32 b1, .int .u32 b2] 53) := ⟨_, rfl⟩
      rw [← hW3] at OB0
      have bW : Below w3.heap.size w3 W3 := by rw [hW3]; exact bel0 _ _
      have X3 : Hid (Own .u32 W3 w.heap.size 0 [0, 0, 0, 0, 0, 0] ∧ Own .u32 W3 w2.heap.size 0 [a0, a1, a2] ∧ Own .u32 W3 w3.heap.size 0 [b0, b1, b2]) := ⟨(own_asideP X2.out.1 ha (by omega)).later bW, (own_asideP X2.out.2 ha (by omega)).later bW, OB0⟩
      have H3 : Hid (Rs P rs2 W3 ∧ Aside P w W3) := ⟨hr.later bW, (H2.out.2.trans ha).trans (Aside.of bW)⟩
      have z3 : w2.heap.size < w3.heap.size := by have := ha.size; have := X2.out.2.lt; omega
      clear hr ha OB0 bW X2 H2
      go_upto_region 4 with fail
      rw [← hW3]
      clear hW3
      have t0 : W3.cell? ⟨w3.heap.size, 0, none⟩ = some (.int .u32 b0) := X3.out.2.2.cell 0 (by simp)
      have tf0 : W3.frozen? ⟨w3.heap.size, 0, none⟩ = false := X3.out.2.2.free 0 (by simp)
      have t1 : W3.cell? ⟨w3.heap.size, 1, none⟩ = some (.int .u32 b1) := X3.out.2.2.cell 1 (by simp)
      have tf1 : W3.frozen? ⟨w3.heap.size, 1, none⟩ = false := X3.out.2.2.free 1 (by simp)
      have t2 : W3.cell? ⟨w3.heap.size, 2, none⟩ = some (.int .u32 b2) := X3.out.2.2.cell 2 (by simp)
      have tf2 : W3.frozen? ⟨w3.heap.size, 2, none⟩ = false := X3.out.2.2.free 2 (by simp)
      have Y : Hid (Own .u32 ((W3.setCell ⟨w3.heap.size, 0, none⟩ (.int .u32 0)).setCell ⟨w3.heap.size, 1, none⟩ (.int .u32 0)) w.heap.size 0 [0, 0, 0, 0, 0, 0] ∧ Own .u32 ((W3.setCell ⟨w3.heap.size, 0, none⟩ (.int .u32 0)).setCell ⟨w3.heap.size, 1, none⟩ (.int .u32 0)) w2.heap.size 0 [a0, a1, a2] ∧ Own .u32 ((W3.setCell ⟨w3.heap.size, 0, none⟩ (.int .u32 0)).setCell ⟨w3.heap.size, 1, none⟩ (.int .u32 0)) w3.heap.size 0 [0, 0, b2]) := ⟨(own_otherP (own_otherP X3.out.1 (by omega) 0 _) (by omega) 1 _), (own_otherP (own_otherP X3.out.2.1 (by omega) 0 _) (by omega) 1 _), ((X3.out.2.2.set 0 0 (by simp)).set 1 0 (by simp))⟩
      have HY : Hid (Rs P rs2 ((W3.setCell ⟨w3.heap.size, 0, none⟩ (.int .u32 0)).setCell ⟨w3.heap.size, 1, none⟩ (.int .u32 0)) ∧ Aside P w ((W3.setCell ⟨w3.heap.size, 0, none⟩ (.int .u32 0)).setCell ⟨w3.heap.size, 1, none⟩ (.int .u32 0))) := ⟨((H3.out.1.set (by omega) 0 _).set (by omega) 1 _), ((H3.out.2.setHigh (p := ⟨w3.heap.size, 0, none⟩) (by simp; omega) _).setHigh (p := ⟨w3.heap.size, 1, none⟩) (by simp; omega) _)⟩
      obtain ⟨Wd, hWd⟩ : ∃ W, W = ((W3.setCell ⟨w3.heap.size, 0, none⟩ (.int .u32 0)).setCell ⟨w3.heap.size, 1, none⟩ (.int .u32 0)) := ⟨_, rfl⟩
      rw [← hWd] at Y HY
      clear X3 H3
      go_wp2_with fail
      rw [← hWd]
      clear hWd t0 t1 t2 tf0 tf1 tf2
      refine (noWayV_any 0 0 b2 _ h0.1 h0.2 h0.1 h0.2 zb.1 zb.2).mono ?_
      rintro e V ⟨rfl, hb⟩
      have OX := Y.out.1.later hb
      have OA := Y.out.2.1.later hb
      have OB := Y.out.2.2.later hb
      have H9 : Hid (Rs P rs2 V ∧ Aside P w V) := ⟨HY.out.1.later hb, HY.out.2.trans (Aside.of hb)⟩
      have r0 : V.cell? ⟨w.heap.size, 0, none⟩ = some (.int .u32 0) := OX.cell 0 (by simp)
      have rf0 : V.frozen? ⟨w.heap.size, 0, none⟩ = false := OX.free 0 (by simp)
      have r1 : V.cell? ⟨w.heap.size, 1, none⟩ = some (.int .u32 0) := OX.cell 1 (by simp)
      have rf1 : V.frozen? ⟨w.heap.size, 1, none⟩ = false := OX.free 1 (by simp)
      have r2 : V.cell? ⟨w.heap.size, 2, none⟩ = some (.int .u32 0) := OX.cell 2 (by simp)
      have rf2 : V.frozen? ⟨w.heap.size, 2, none⟩ = false := OX.free 2 (by simp)
      have r3 : V.cell? ⟨w.heap.size, 3, none⟩ = some (.int .u32 0) := OX.cell 3 (by simp)
      have rf3 : V.frozen? ⟨w.heap.size, 3, none⟩ = false := OX.free 3 (by simp)
      have r4 : V.cell? ⟨w.heap.size, 4, none⟩ = some (.int .u32 0) := OX.cell 4 (by simp)
      have rf4 : V.frozen? ⟨w.heap.size, 4, none⟩ = false := OX.free 4 (by simp)
      have r5 : V.cell? ⟨w.heap.size, 5, none⟩ = some (.int .u32 0) := OX.cell 5 (by simp)
      have rf5 : V.frozen? ⟨w.heap.size, 5, none⟩ = false := OX.free 5 (by simp)
      have p0 : V.cell? ⟨w2.heap.size, 0, none⟩ = some (.int .u32 a0) := OA.cell 0 (by simp)
      have p1 : V.cell? ⟨w2.heap.size, 1, none⟩ = some (.int .u32 a1) := OA.cell 1 (by simp)
      have p2 : V.cell? ⟨w2.heap.size, 2, none⟩ = some (.int .u32 a2) := OA.cell 2 (by simp)
      have q0 : V.cell? ⟨w3.heap.size, 0, none⟩ = some (.int .u32 0) := OB.cell 0 (by simp)
      have q1 : V.cell? ⟨w3.heap.size, 1, none⟩ = some (.int .u32 0) := OB.cell 1 (by simp)
      have q2 : V.cell? ⟨w3.heap.size, 2, none⟩ = some (.int .u32 b2) := OB.cell 2 (by simp)
      have qf2 : V.frozen? ⟨w3.heap.size, 2, none⟩ = false := OB.free 2 (by simp)
      have n1 : w.heap.size ≠ w2.heap.size := by omega
      have n2 : w.heap.size ≠ w3.heap.size := by omega
      have n3 : w2.heap.size ≠ w3.heap.size := by omega
      rw [hnw]
      clear hb Y HY OX OA OB
      go_wp2
      refine bodyPost_ret (v := .agg #[.int .u32 a0, .int .u32 a1, .int .u32 a2, .int .u32 0, .int .u32 0, .int .u32 b2]) (by simp [results, Tryz.results74, go_sem, r0, r1, r2, r3, r4, r5]) rfl ?_
      exact ⟨rfl, by (repeat refine Rs.set ?_ (by omega) _ _); exact H9.out.1, by (repeat refine Aside.setHigh ?_ (by simp <;> omega) _); exact H9.out.2⟩
    · by_cases h16 : 0 < kk % 16
      · refine ⟨a0, a1, a2, 0, 0, 1065353216, rs2, u32_6 xa ya za h0 h0 hone, ?_⟩
        intro P w h
        have hP := h.lt
        have HS : Hid (Rs P rs w) := h
        clear h
        go_enter Tryz.func74, Tryz.ntmps74
        go_wp2_with fail
        refine (nextF_any P rs _ (HS.out.later (bel0 _ _))).mono ?_
        rintro e w1 ⟨rfl, hk0, hk1, hr, ha⟩
        rw [HK.out] at hk0 hk1 ⊢
        have O1 : Hid (Own .u32 w1 w.heap.size 0 [0, 0, 0, 0, 0, 0]) := own_asideP (own_lit w [0, 0, 0, 0, 0, 0] _ _ rfl) ha (by omega)
        have H1 : Hid (Rs P rs.tail w1 ∧ Aside P w w1) := ⟨hr, (Aside.of (bel0 _ _)).trans ha⟩
        have hm16 : kk.tmod 16 = kk % 16 := Int.tmod_eq_emod_of_nonneg hk0
        have hm8 : kk.tmod 8 = kk % 8 := Int.tmod_eq_emod_of_nonneg hk0
        have hm4 : kk.tmod 4 = kk % 4 := Int.tmod_eq_emod_of_nonneg hk0
        have z1 := O1.out.lt
        clear hr ha
        go_wp2_with fail
        refine (HA.out.tells P w1 H1.out.1).mono ?_
        rintro e w2 ⟨rfl, hr, ha⟩
        have OA0 : Own .u32 (w2.alloc (.cells #[.int .u32 a0, .int .u32 a1, .int .u32 a2] 53)) w2.heap.size 0 [a0, a1, a2] := own_lit w2 [a0, a1, a2] _ _ rfl
        obtain ⟨W2, hW2⟩ : ∃ W, W = w2.alloc (.cells #[.int .u32 a0, .int .u32 a1, .int .u32 a2] 53) := ⟨_, rfl⟩
        rw [← hW2] at OA0
        have bW : Below w2.heap.size w2 W2 := by rw [hW2]; exact bel0 _ _
        have X2 : Hid (Own .u32 W2 w.heap.size 0 [0, 0, 0, 0, 0, 0] ∧ Own .u32 W2 w2.heap.size 0 [a0, a1, a2]) := ⟨(own_asideP O1.out ha (by omega)).later bW, OA0⟩
        have H2 : Hid (Rs P rs1 W2 ∧ Aside P w W2) := ⟨hr.later bW, (H1.out.2.trans ha).trans (Aside.of bW)⟩
        have z2 : w.heap.size < w2.heap.size := by have := ha.size; omega
        clear hr ha OA0 bW O1 H1
        go_wp2_with fail
        rw [← hW2]
        clear hW2
        refine (HB.out.tells P W2 H2.out.1).mono ?_
        rintro e w3 ⟨rfl, hr, ha⟩
        have OB0 : Own .u32 (w3.alloc (.cells #[.int .u32 b0, .int .u32 b1, .int .u32 b2] 53)) w3.heap.size 0 [b0, b1, b2] := own_lit w3 [b0, b1, b2] _ _ rfl
        obtain ⟨W3, hW3⟩ : ∃ W, W = w3.alloc (.cells #[.int .u32 b0, .int .u32 b1, .int .u32 b2] 53) := ⟨_, rfl⟩
        rw [← hW3] at OB0
        have bW : Below w3.heap.size w3 W3 := by rw [hW3]; exact bel0 _ _
        have X3 : Hid (Own .u32 W3 w.heap.size 0 [0, 0, 0, 0, 0, 0] ∧ Own .u32 W3 w2.heap.size 0 [a0, a1, a2] ∧ Own .u32 W3 w3.heap.size 0 [b0, b1, b2]) := ⟨(own_asideP X2.out.1 ha (by omega)).later bW, (own_asideP X2.out.2 ha (by omega)).later bW, OB0⟩
        have H3 : Hid (Rs P rs2 W3 ∧ Aside P w W3) := ⟨hr.later bW, (H2.out.2.trans ha).trans (Aside.of bW)⟩
        have z3 : w2.heap.size < w3.heap.size := by have := ha.size; have := X2.out.2.lt; omega
        clear hr ha OB0 bW X2 H2
        go_upto_region 4 with fail
        rw [← hW3]
        clear hW3
        have t0 : W3.cell? ⟨w3.heap.size, 0, none⟩ = some (.int .u32 b0) := X3.out.2.2.cell 0 (by simp)
        have tf0 : W3.frozen? ⟨w3.heap.size, 0, none⟩ = false := X3.out.2.2.free 0 (by simp)
        have t1 : W3.cell? ⟨w3.heap.size, 1, none⟩ = some (.int .u32 b1) := X3.out.2.2.cell 1 (by simp)
        have tf1 : W3.frozen? ⟨w3.heap.size, 1, none⟩ = false := X3.out.2.2.free 1 (by simp)
        have t2 : W3.cell? ⟨w3.heap.size, 2, none⟩ = some (.int .u32 b2) := X3.out.2.2.cell 2 (by simp)
        have tf2 : W3.frozen? ⟨w3.heap.size, 2, none⟩ = false := X3.out.2.2.free 2 (by simp)
        have Y : Hid (Own .u32 ((W3.setCell ⟨w3.heap.size, 0, none⟩ (.int .u32 0)).setCell ⟨w3.heap.size, 1, none⟩ (.int .u32 0)) w.heap.size 0 [0, 0, 0, 0, 0, 0] ∧ Own .u32 ((W3.setCell ⟨w3.heap.size, 0, none⟩ (.int .u32 0)).setCell ⟨w3.heap.size, 1, none⟩ (.int .u32 0)) w2.heap.size 0 [a0, a1, a2] ∧ Own .u32 ((W3.setCell ⟨w3.heap.size, 0, none⟩ (.int .u32 0)).setCell ⟨w3.heap.size, 1, none⟩ (.int .u32 0)) w3.heap.size 0 [0, 0, b2]) := ⟨(own_otherP (own_otherP X3.out.1 (by omega) 0 _) (by omega) 1 _), (own_otherP (own_otherP X3.out.2.1 (by omega) 0 _) (by omega) 1 _), ((X3.out.2.2.set 0 0 (by simp)).set 1 0 (by simp))⟩
        have HY : Hid (Rs P rs2 ((W3.setCell ⟨w3.heap.size, 0, none⟩ (.int .u32 0)).setCell ⟨w3.heap.size, 1, none⟩ (.int .u32 0)) ∧ Aside P w ((W3.setCell ⟨w3.heap.size, 0, none⟩ (.int .u32 0)).setCell ⟨w3.heap.size, 1, none⟩ (.int .u32 0))) := ⟨((H3.out.1.set (by omega) 0 _).set (by omega) 1 _), ((H3.out.2.setHigh (p := ⟨w3.heap.size, 0, none⟩) (by simp; omega) _).setHigh (p := ⟨w3.heap.size, 1, none⟩) (by simp; omega) _)⟩
        obtain ⟨Wd, hWd⟩ : ∃ W, W = ((W3.setCell ⟨w3.heap.size, 0, none⟩ (.int .u32 0)).setCell ⟨w3.heap.size, 1, none⟩ (.int .u32 0)) := ⟨_, rfl⟩
        rw [← hWd] at Y HY
        clear X3 H3
        go_wp2_with fail
        rw [← hWd]
        clear hWd t0 t1 t2 tf0 tf1 tf2
        refine (noWayV_any 0 0 b2 _ h0.1 h0.2 h0.1 h0.2 zb.1 zb.2).mono ?_
        rintro e V ⟨rfl, hb⟩
        have OX := Y.out.1.later hb
        have OA := Y.out.2.1.later hb
        have OB := Y.out.2.2.later hb
        have H9 : Hid (Rs P rs2 V ∧ Aside P w V) := ⟨HY.out.1.later hb, HY.out.2.trans (Aside.of hb)⟩
        have r0 : V.cell? ⟨w.heap.size, 0, none⟩ = some (.int .u32 0) := OX.cell 0 (by simp)
        have rf0 : V.frozen? ⟨w.heap.size, 0, none⟩ = false := OX.free 0 (by simp)
        have r1 : V.cell? ⟨w.heap.size, 1, none⟩ = some (.int .u32 0) := OX.cell 1 (by simp)
        have rf1 : V.frozen? ⟨w.heap.size, 1, none⟩ = false := OX.free 1 (by simp)
        have r2 : V.cell? ⟨w.heap.size, 2, none⟩ = some (.int .u32 0) := OX.cell 2 (by simp)
        have rf2 : V.frozen? ⟨w.heap.size, 2, none⟩ = false := OX.free 2 (by simp)
        have r3 : V.cell? ⟨w.heap.size, 3, none⟩ = some (.int .u32 0) := OX.cell 3 (by simp)
        have rf3 : V.frozen? ⟨w.heap.size, 3, none⟩ = false := OX.free 3 (by simp)
        have r4 : V.cell? ⟨w.heap.size, 4, none⟩ = some (.int .u32 0) := OX.cell 4 (by simp)
        have rf4 : V.frozen? ⟨w.heap.size, 4, none⟩ = false := OX.free 4 (by simp)
        have r5 : V.cell? ⟨w.heap.size, 5, none⟩ = some (.int .u32 0) := OX.cell 5 (by simp)
        have rf5 : V.frozen? ⟨w.heap.size, 5, none⟩ = false := OX.free 5 (by simp)
        have p0 : V.cell? ⟨w2.heap.size, 0, none⟩ = some (.int .u32 a0) := OA.cell 0 (by simp)
        have p1 : V.cell? ⟨w2.heap.size, 1, none⟩ = some (.int .u32 a1) := OA.cell 1 (by simp)
        have p2 : V.cell? ⟨w2.heap.size, 2, none⟩ = some (.int .u32 a2) := OA.cell 2 (by simp)
        have q0 : V.cell? ⟨w3.heap.size, 0, none⟩ = some (.int .u32 0) := OB.cell 0 (by simp)
        have q1 : V.cell? ⟨w3.heap.size, 1, none⟩ = some (.int .u32 0) := OB.cell 1 (by simp)
        have q2 : V.cell? ⟨w3.heap.size, 2, none⟩ = some (.int .u32 b2) := OB.cell 2 (by simp)
        have qf2 : V.frozen? ⟨w3.heap.size, 2, none⟩ = false := OB.free 2 (by simp)
        have n1 : w.heap.size ≠ w2.heap.size := by omega
        have n2 : w.heap.size ≠ w3.heap.size := by omega
        have n3 : w2.heap.size ≠ w3.heap.size := by omega
        rw [hnw]
        clear hb Y HY OX OA OB
        go_wp2
        refine bodyPost_ret (v := .agg #[.int .u32 a0, .int .u32 a1, .int .u32 a2, .int .u32 0, .int .u32 0, .int .u32 1065353216]) (by simp [results, Tryz.results74, go_sem, r0, r1, r2, r3, r4, r5]) rfl ?_
        exact ⟨rfl, by (repeat refine Rs.set ?_ (by omega) _ _); exact H9.out.1, by (repeat refine Aside.setHigh ?_ (by simp <;> omega) _); exact H9.out.2⟩
      · refine ⟨a0, a1, a2, 0, 0, b2, rs2, u32_6 xa ya za h0 h0 zb, ?_⟩
        intro P w h
        have hP := h.lt
        have HS : Hid (Rs P rs w) := h
        clear h
        go_enter Tryz.func74, Tryz.ntmps74
        go_wp2_with fail
        refine (nextF_any P rs _ (HS.out.later (bel0 _ _))).mono ?_
        rintro e w1 ⟨rfl, hk0, hk1, hr, ha⟩
        rw [HK.out] at hk0 hk1 ⊢
        have O1 : Hid (Own .u32 w1 w.heap.size 0 [0, 0, 0, 0, 0, 0]) := own_asideP (own_lit w [0, 0, 0, 0, 0, 0] _ _ rfl) ha (by omega)
        have H1 : Hid (Rs P rs.tail w1 ∧ Aside P w w1) := ⟨hr, (Aside.of (bel0 _ _)).trans ha⟩
        have hm16 : kk.tmod 16 = kk % 16 := Int.tmod_eq_emod_of_nonneg hk0
        have hm8 : kk.tmod 8 = kk % 8 := Int.tmod_eq_emod_of_nonneg hk0
        have hm4 : kk.tmod 4 = kk % 4 := Int.tmod_eq_emod_of_nonneg hk0
        have z1 := O1.out.lt
        clear hr ha
        go_wp2_with fail
        refine (HA.out.tells P w1 H1.out.1).mono ?_
        rintro e w2 ⟨rfl, hr, ha⟩
        have OA0 : Own .u32 (w2.alloc (.cells #[.int .u32 a0, .int .u32 a1, .int .u32 a2] 53)) w2.heap.size 0 [a0, a1, a2] := own_lit w2 [a0, a1, a2] _ _ rfl
        obtain ⟨W2, hW2⟩ : ∃ W, W = w2.alloc (.cells #[.int .u32 a0, .int .u32 a1, .int .u32 a2] 53) := ⟨_, rfl⟩
        rw [← hW2] at OA0
        have bW : Below w2.heap.size w2 W2 := by rw [hW2]; exact bel0 _ _
        have X2 : Hid (Own .u32 W2 w.heap.size 0 [0, 0, 0, 0, 0, 0] ∧ Own .u32 W2 w2.heap.size 0 [a0, a1, a2]) := ⟨(own_asideP O1.out ha (by omega)).later bW, OA0⟩
        have H2 : Hid (Rs P rs1 W2 ∧ Aside P w W2) := ⟨hr.later bW, (H1.out.2.trans ha).trans (Aside.of bW)⟩
        have z2 : w.heap.size < w2.heap.size := by have := ha.size; omega
        clear hr ha OA0 bW O1 H1
        go_wp2_with fail
        rw [← hW2]
        clear hW2
        refine (HB.out.tells P W2 H2.out.1).mono ?_
        rintro e w3 ⟨rfl, hr, ha⟩
        have OB0 : Own .u32 (w3.alloc (.cells #[.int .u32 b0, .int .u32 b1, .int .u32 b2] 53)) w3.heap.size 0 [b0, b1, b2] := own_lit w3 [b0, b1, b2] _ _ rfl
        obtain ⟨W3, hW3⟩ : ∃ W, W = w3.alloc (.cells #[.int .u32 b0, .int .u32 b1, .int .u32 b2] 53) := ⟨_, rfl⟩
        rw [← hW3] at OB0
        have bW : Below w3.heap.size w3 W3 := by rw [hW3]; exact bel0 _ _
        have X3 : Hid (Own .u32 W3 w.heap.size 0 [0, 0, 0, 0, 0, 0] ∧ Own .u32 W3 w2.heap.size 0 [a0, a1, a2] ∧ Own .u32 W3 w3.heap.size 0 [b0, b1, b2]) := ⟨(own_asideP X2.out.1 ha (by omega)).later bW, (own_asideP X2.out.2 ha (by omega)).later bW, OB0⟩
        have H3 : Hid (Rs P rs2 W3 ∧ Aside P w W3) := ⟨hr.later bW, (H2.out.2.trans ha).trans (Aside.of bW)⟩
        have z3 : w2.heap.size < w3.heap.size := by have := ha.size; have := X2.out.2.lt; omega
        clear hr ha OB0 bW X2 H2
        go_upto_region 4 with fail
        rw [← hW3]
        clear hW3
        have t0 : W3.cell? ⟨w3.heap.size, 0, none⟩ = some (.int .u32 b0) := X3.out.2.2.cell 0 (by simp)
        have tf0 : W3.frozen? ⟨w3.heap.size, 0, none⟩ = false := X3.out.2.2.free 0 (by simp)
        have t1 : W3.cell? ⟨w3.heap.size, 1, none⟩ = some (.int .u32 b1) := X3.out.2.2.cell 1 (by simp)
        have tf1 : W3.frozen? ⟨w3.heap.size, 1, none⟩ = false := X3.out.2.2.free 1 (by simp)
        have t2 : W3.cell? ⟨w3.heap.size, 2, none⟩ = some (.int .u32 b2) := X3.out.2.2.cell 2 (by simp)
        have tf2 : W3.frozen? ⟨w3.heap.size, 2, none⟩ = false := X3.out.2.2.free 2 (by simp)
        have Y : Hid (Own .u32 ((W3.setCell ⟨w3.heap.size, 0, none⟩ (.int .u32 0)).setCell ⟨w3.heap.size, 1, none⟩ (.int .u32 0)) w.heap.size 0 [0, 0, 0, 0, 0, 0] ∧ Own .u32 ((W3.setCell ⟨w3.heap.size, 0, none⟩ (.int .u32 0)).setCell ⟨w3.heap.size, 1, none⟩ (.int .u32 0)) w2.heap.size 0 [a0, a1, a2] ∧ Own .u32 ((W3.setCell ⟨w3.heap.size, 0, none⟩ (.int .u32 0)).setCell ⟨w3.heap.size, 1, none⟩ (.int .u32 0)) w3.heap.size 0 [0, 0, b2]) := ⟨(own_otherP (own_otherP X3.out.1 (by omega) 0 _) (by omega) 1 _), (own_otherP (own_otherP X3.out.2.1 (by omega) 0 _) (by omega) 1 _), ((X3.out.2.2.set 0 0 (by simp)).set 1 0 (by simp))⟩
        have HY : Hid (Rs P rs2 ((W3.setCell ⟨w3.heap.size, 0, none⟩ (.int .u32 0)).setCell ⟨w3.heap.size, 1, none⟩ (.int .u32 0)) ∧ Aside P w ((W3.setCell ⟨w3.heap.size, 0, none⟩ (.int .u32 0)).setCell ⟨w3.heap.size, 1, none⟩ (.int .u32 0))) := ⟨((H3.out.1.set (by omega) 0 _).set (by omega) 1 _), ((H3.out.2.setHigh (p := ⟨w3.heap.size, 0, none⟩) (by simp; omega) _).setHigh (p := ⟨w3.heap.size, 1, none⟩) (by simp; omega) _)⟩
        obtain ⟨Wd, hWd⟩ : ∃ W, W = ((W3.setCell ⟨w3.heap.size, 0, none⟩ (.int .u32 0)).setCell ⟨w3.heap.size, 1, none⟩ (.int .u32 0)) := ⟨_, rfl⟩
        rw [← hWd] at Y HY
        clear X3 H3
        go_wp2_with fail
        rw [← hWd]
        clear hWd t0 t1 t2 tf0 tf1 tf2
        refine (noWayV_any 0 0 b2 _ h0.1 h0.2 h0.1 h0.2 zb.1 zb.2).mono ?_
        rintro e V ⟨rfl, hb⟩
        have OX := Y.out.1.later hb
        have OA := Y.out.2.1.later hb
        have OB := Y.out.2.2.later hb
        have H9 : Hid (Rs P rs2 V ∧ Aside P w V) := ⟨HY.out.1.later hb, HY.out.2.trans (Aside.of hb)⟩
        have r0 : V.cell? ⟨w.heap.size, 0, none⟩ = some (.int .u32 0) := OX.cell 0 (by simp)
        have rf0 : V.frozen? ⟨w.heap.size, 0, none⟩ = false := OX.free 0 (by simp)
        have r1 : V.cell? ⟨w.heap.size, 1, none⟩ = some (.int .u32 0) := OX.cell 1 (by simp)
        have rf1 : V.frozen? ⟨w.heap.size, 1, none⟩ = false := OX.free 1 (by simp)
        have r2 : V.cell? ⟨w.heap.size, 2, none⟩ = some (.int .u32 0) := OX.cell 2 (by simp)
        have rf2 : V.frozen? ⟨w.heap.size, 2, none⟩ = false := OX.free 2 (by simp)
        have r3 : V.cell? ⟨w.heap.size, 3, none⟩ = some (.int .u32 0) := OX.cell 3 (by simp)
        have rf3 : V.frozen? ⟨w.heap.size, 3, none⟩ = false := OX.free 3 (by simp)
        have r4 : V.cell? ⟨w.heap.size, 4, none⟩ = some (.int .u32 0) := OX.cell 4 (by simp)
        have rf4 : V.frozen? ⟨w.heap.size, 4, none⟩ = false := OX.free 4 (by simp)
        have r5 : V.cell? ⟨w.heap.size, 5, none⟩ = some (.int .u32 0) := OX.cell 5 (by simp)
        have rf5 : V.frozen? ⟨w.heap.size, 5, none⟩ = false := OX.free 5 (by simp)
        have p0 : V.cell? ⟨w2.heap.size, 0, none⟩ = some (.int .u32 a0) := OA.cell 0 (by simp)
        have p1 : V.cell? ⟨w2.heap.size, 1, none⟩ = some (.int .u32 a1) := OA.cell 1 (by simp)
        have p2 : V.cell? ⟨w2.heap.size, 2, none⟩ = some (.int .u32 a2) := OA.cell 2 (by simp)
        have q0 : V.cell? ⟨w3.heap.size, 0, none⟩ = some (.int .u32 0) := OB.cell 0 (by simp)
        have q1 : V.cell? ⟨w3.heap.size, 1, none⟩ = some (.int .u32 0) := OB.cell 1 (by simp)
        have q2 : V.cell? ⟨w3.heap.size, 2, none⟩ = some (.int .u32 b2) := OB.cell 2 (by simp)
        have qf2 : V.frozen? ⟨w3.heap.size, 2, none⟩ = false := OB.free 2 (by simp)
        have n1 : w.heap.size ≠ w2.heap.size := by omega
        have n2 : w.heap.size ≠ w3.heap.size := by omega
        have n3 : w2.heap.size ≠ w3.heap.size := by omega
        rw [hnw]
        clear hb Y HY OX OA OB
        go_wp2
        refine bodyPost_ret (v := .agg #[.int .u32 a0, .int .u32 a1, .int .u32 a2, .int .u32 0, .int .u32 0, .int .u32 b2]) (by simp [results, Tryz.results74, go_sem, r0, r1, r2, r3, r4, r5]) rfl ?_
        exact ⟨rfl, by (repeat refine Rs.set ?_ (by omega) _ _); exact H9.out.1, by (repeat refine Aside.setHigh ?_ (by simp <;> omega) _); exact H9.out.2⟩
  · have c4 : (kk % 4 == 0) = false := by rw [beq_eq_false_iff_ne]; exact h4
    by_cases h8 : kk % 8 = 1
    · have c8 : (kk % 8 == 1) = true := by rw [beq_iff_eq]; exact h8
      cases hnw : noWayB b0 b1 0
      · refine ⟨a0, a1, a2, b0, b1, 0, rs2, u32_6 xa ya za xb yb h0, ?_⟩
        intro P w h
        have hP := h.lt
        have HS : Hid (Rs P rs w) := h
        clear h
        go_enter Tryz.func74, Tryz.ntmps74
        go_wp2_with fail
        refine (nextF_any P rs _ (HS.out.later (bel0 _ _))).mono ?_
        rintro e w1 ⟨rfl, hk0, hk1, hr, ha⟩
        rw [HK.out] at hk0 hk1 ⊢
        have O1 : Hid (Own .u32 w1 w.heap.size 0 [0, 0, 0, 0, 0, 0]) := own_asideP (own_lit w [0, 0, 0, 0, 0, 0] _ _ rfl) ha (by omega)
        have H1 : Hid (Rs P rs.tail w1 ∧ Aside P w w1) := ⟨hr, (Aside.of (bel0 _ _)).trans ha⟩
        have hm16 : kk.tmod 16 = kk % 16 := Int.tmod_eq_emod_of_nonneg hk0
        have hm8 : kk.tmod 8 = kk % 8 := Int.tmod_eq_emod_of_nonneg hk0
        have hm4 : kk.tmod 4 = kk % 4 := Int.tmod_eq_emod_of_nonneg hk0
        have z1 := O1.out.lt
        clear hr ha
        go_wp2_with fail
        refine (HA.out.tells P w1 H1.out.1).mono ?_
        rintro e w2 ⟨rfl, hr, ha⟩
        have OA0 : Own .u32 (w2.alloc (.cells #[.int .u32 a0, .int .u32 a1, .int .u32 a2] 53)) w2.heap.size 0 [a0, a1, a2] := own_lit w2 [a0, a1, a2] _ _ rfl
        obtain ⟨W2, hW2⟩ : ∃ W, W = w2.alloc (.cells #[.int .u32 a0, .int .u32 a1, .int .u32 a2] 53) := ⟨_, rfl⟩
        rw [← hW2] at OA0
        have bW : Below w2.heap.size w2 W2 := by rw [hW2]; exact bel0 _ _
        have X2 : Hid (Own .u32 W2 w.heap.size 0 [0, 0, 0, 0, 0, 0] ∧ Own .u32 W2 w2.heap.size 0 [a0, a1, a2]) := ⟨(own_asideP O1.out ha (by omega)).later bW, OA0⟩
        have H2 : Hid (Rs P rs1 W2 ∧ Aside P w W2) := ⟨hr.later bW, (H1.out.2.trans ha).trans (Aside.of bW)⟩
        have z2 : w.heap.size < w2.heap.size := by have := ha.size; omega
        clear hr ha OA0 bW O1 H1
        go_wp2_with fail
        rw [← hW2]
        clear hW2
        refine (HB.out.tells P W2 H2.out.1).mono ?_
        rintro e w3 ⟨rfl, hr, ha⟩
        have OB0 : Own .u32 (w3.alloc (.cells #[.int .u32 b0, .int .u32 b1, .int .u32 b2] 53)) w3.heap.size 0 [b0, b1, b2] := own_lit w3 [b0, b1, b2] _ _ rfl
        obtain ⟨W3, hW3⟩ : ∃ W, W = w3.alloc (.cells #[.int .u32 b0, .int .u32 b1, .int .u32 b2] 53) := ⟨_, rfl⟩
        rw [← hW3] at OB0
        have bW : Below w3.heap.size w3 W3 := by rw [hW3]; exact bel0 _ _
        have X3 : Hid (Own .u32 W3 w.heap.size 0 [0, 0, 0, 0, 0, 0] ∧ Own .u32 W3 w2.heap.size 0 [a0, a1, a2] ∧ Own .u32 W3 w3.heap.size 0 [b0, b1, b2]) := ⟨(own_asideP X2.out.1 ha (by omega)).later bW, (own_asideP X2.out.2 ha (by omega)).later bW, OB0⟩
        have H3 : Hid (Rs P rs2 W3 ∧ Aside P w W3) := ⟨hr.later bW, (H2.out.2.trans ha).trans (Aside.of bW)⟩
        have z3 : w2.heap.size < w3.heap.size := by have := ha.size; have := X2.out.2.lt; omega
        clear hr ha OB0 bW X2 H2
        go_upto_region 4 with fail
        rw [← hW3]
        clear hW3
        have t0 : W3.cell? ⟨w3.heap.size, 0, none⟩ = some (.int .u32 b0) := X3.out.2.2.cell 0 (by simp)
        have tf0 : W3.frozen? ⟨w3.heap.size, 0, none⟩ = false := X3.out.2.2.free 0 (by simp)
        have t1 : W3.cell? ⟨w3.heap.size, 1, none⟩ = some (.int .u32 b1) := X3.out.2.2.cell 1 (by simp)
        have tf1 : W3.frozen? ⟨w3.heap.size, 1, none⟩ = false := X3.out.2.2.free 1 (by simp)
        have t2 : W3.cell? ⟨w3.heap.size, 2, none⟩ = some (.int .u32 b2) := X3.out.2.2.cell 2 (by simp)
        have tf2 : W3.frozen? ⟨w3.heap.size, 2, none⟩ = false := X3.out.2.2.free 2 (by simp)
        have Y : Hid (Own .u32 (W3.setCell ⟨w3.heap.size, 2, none⟩ (.int .u32 0)) w.heap.size 0 [0, 0, 0, 0, 0, 0] ∧ Own .u32 (W3.setCell ⟨w3.heap.size, 2, none⟩ (.int .u32 0)) w2.heap.size 0 [a0, a1, a2] ∧ Own .u32 (W3.setCell ⟨w3.heap.size, 2, none⟩ (.int .u32 0)) w3.heap.size 0 [b0, b1, 0]) := ⟨(own_otherP X3.out.1 (by omega) 2 _), (own_otherP X3.out.2.1 (by omega) 2 _), (X3.out.2.2.set 2 0 (by simp))⟩
        have HY : Hid (Rs P rs2 (W3.setCell ⟨w3.heap.size, 2, none⟩ (.int .u32 0)) ∧ Aside P w (W3.setCell ⟨w3.heap.size, 2, none⟩ (.int .u32 0))) := ⟨(H3.out.1.set (by omega) 2 _), (H3.out.2.setHigh (p := ⟨w3.heap.size, 2, none⟩) (by simp; omega) _)⟩
        obtain ⟨Wd, hWd⟩ : ∃ W, W = (W3.setCell ⟨w3.heap.size, 2, none⟩ (.int .u32 0)) := ⟨_, rfl⟩
        rw [← hWd] at Y HY
        clear X3 H3
        go_wp2_with fail
        rw [← hWd]
        clear hWd t0 t1 t2 tf0 tf1 tf2
        refine (noWayV_any b0 b1 0 _ xb.1 xb.2 yb.1 yb.2 h0.1 h0.2).mono ?_
        rintro e V ⟨rfl, hb⟩
        have OX := Y.out.1.later hb
        have OA := Y.out.2.1.later hb
        have OB := Y.out.2.2.later hb
        have H9 : Hid (Rs P rs2 V ∧ Aside P w V) := ⟨HY.out.1.later hb, HY.out.2.trans (Aside.of hb)⟩
        have r0 : V.cell? ⟨w.heap.size, 0, none⟩ = some (.int .u32 0) := OX.cell 0 (by simp)
        have rf0 : V.frozen? ⟨w.heap.size, 0, none⟩ = false := OX.free 0 (by simp)
        have r1 : V.cell? ⟨w.heap.size, 1, none⟩ = some (.int .u32 0) := OX.cell 1 (by simp)
        have rf1 : V.frozen? ⟨w.heap.size, 1, none⟩ = false := OX.free 1 (by simp)
        have r2 : V.cell? ⟨w.heap.size, 2, none⟩ = some (.int .u32 0) := OX.cell 2 (by simp)
        have rf2 : V.frozen? ⟨w.heap.size, 2, none⟩ = false := OX.free 2 (by simp)
        have r3 : V.cell? ⟨w.heap.size, 3, none⟩ = some (.int .u32 0) := OX.cell 3 (by simp)
        have rf3 : V.frozen? ⟨w.heap.size, 3, none⟩ = false := OX.free 3 (by simp)
        have r4 : V.cell? ⟨w.heap.size, 4, none⟩ = some (.int .u32 0) := OX.cell 4 (by simp)
        have rf4 : V.frozen? ⟨w.heap.size, 4, none⟩ = false := OX.free 4 (by simp)
        have r5 : V.cell? ⟨w.heap.size, 5, none⟩ = some (.int .u32 0) := OX.cell 5 (by simp)
        have rf5 : V.frozen? ⟨w.heap.size, 5, none⟩ = false := OX.free 5 (by simp)
        have p0 : V.cell? ⟨w2.heap.size, 0, none⟩ = some (.int .u32 a0) := OA.cell 0 (by simp)
        have p1 : V.cell? ⟨w2.heap.size, 1, none⟩ = some (.int .u32 a1) := OA.cell 1 (by simp)
        have p2 : V.cell? ⟨w2.heap.size, 2, none⟩ = some (.int .u32 a2) := OA.cell 2 (by simp)
        have q0 : V.cell? ⟨w3.heap.size, 0, none⟩ = some (.int .u32 b0) := OB.cell 0 (by simp)
        have q1 : V.cell? ⟨w3.heap.size, 1, none⟩ = some (.int .u32 b1) := OB.cell 1 (by simp)
        have q2 : V.cell? ⟨w3.heap.size, 2, none⟩ = some (.int .u32 0) := OB.cell 2 (by simp)
        have qf2 : V.frozen? ⟨w3.heap.size, 2, none⟩ = false := OB.free 2 (by simp)
        have n1 : w.heap.size ≠ w2.heap.size := by omega
        have n2 : w.heap.size ≠ w3.heap.size := by omega
        have n3 : w2.heap.size ≠ w3.heap.size := by omega
        rw [hnw]
        clear hb Y HY OX OA OB
        go_wp2
        refine bodyPost_ret (v := .agg #[.int .u32 a0, .int .u32 a1, .int .u32 a2, .int .u32 b0, .int .u32 b1, .int .u32 0]) (by simp [results, Tryz.results74, go_sem, r0, r1, r2, r3, r4, r5]) rfl ?_
        exact ⟨rfl, by (repeat refine Rs.set ?_ (by omega) _ _); exact H9.out.1, by (repeat refine Aside.setHigh ?_ (by simp <;> omega) _); exact H9.out.2⟩
      · by_cases h16 : 0 < kk % 16
        · refine ⟨a0, a1, a2, b0, b1, 1065353216, rs2, u32_6 xa ya za xb yb hone, ?_⟩
          intro P w h
          have hP := h.lt
          have HS : Hid (Rs P rs w) := h
          clear h
          go_enter Tryz.func74, Tryz.ntmps74
          go_wp2_with fail
          refine (nextF_any P rs _ (HS.out.later (bel0 _ _))).mono ?_
          rintro e w1 ⟨rfl, hk0, hk1, hr, ha⟩
          rw [HK.out] at hk0 hk1 ⊢
          have O1 : Hid (Own .u32 w1 w.heap.size 0 [0, 0, 0, 0, 0, 0]) := own_asideP (own_lit w [0, 0, 0, 0, 0, 0] _ _ rfl) ha (by omega)
          have H1 : Hid (Rs P rs.tail w1 ∧ Aside P w w1) := ⟨hr, (Aside.of (bel0 _ _)).trans ha⟩
          have hm16 : kk.tmod 16 = kk % 16 := Int.tmod_eq_emod_of_nonneg hk0
          have hm8 : kk.tmod 8 = kk % 8 := Int.tmod_eq_emod_of_nonneg hk0
          have hm4 : kk.tmod 4 = kk % 4 := Int.tmod_eq_emod_of_nonneg hk0
          have z1 := O1.out.lt
          clear hr ha
          go_wp2_with fail
          refine (HA.out.tells P w1 H1.out.1).mono ?_
          rintro e w2 ⟨rfl, hr, ha⟩
          have OA0 : Own .u32 (w2.alloc (.cells #[.int .u32 a0, .int .u32 a1, .int .u32 a2] 53)) w2.heap.size 0 [a0, a1, a2] := own_lit w2 [a0, a1, a2] _ _ rfl
          obtain ⟨W2, hW2⟩ : ∃ W, W = w2.alloc (.cells #[.int .u32 a0, .int .u32 a1, .int .u32 a2] 53) := ⟨_, rfl⟩
          rw [← hW2] at OA0
          have bW : Below w2.heap.size w2 W2 := by rw [hW2]; exact bel0 _ _
          have X2 : Hid (Own .u32 W2 w.heap.size 0 [0, 0, 0, 0, 0, 0] ∧ Own .u32 W2 w2.heap.size 0 [a0, a1, a2]) := ⟨(own_asideP O1.out ha (by omega)).later bW, OA0⟩
          have H2 : Hid (Rs P rs1 W2 ∧ Aside P w W2) := ⟨hr.later bW, (H1.out.2.trans ha).trans (Aside.of bW)⟩
          have z2 : w.heap.size < w2.heap.size := by have := ha.size; omega
          clear hr ha OA0 bW O1 H1
          go_wp2_with fail
          rw [← hW2]
          clear hW2
          refine (HB.out.tells P W2 H2.out.1).mono ?_
          rintro e w3 ⟨rfl, hr, ha⟩
          have OB0 : Own .u32 (w3.alloc (.cells #[.int .u32 b0, .int .u32 b1, .int .u32 b2] 53)) w3.heap.size 0 [b0, b1, b2] := own_lit w3 [b0, b1, b2] _ _ rfl
          obtain ⟨W3, hW3⟩ : ∃ W, W = w3.alloc (.cells #[.int .u32 b0, .int .u32 b1, .int .u32 b2] 53) := ⟨_, rfl⟩
          rw [← hW3] at OB0
          have bW : Below w3.heap.size w3 W3 := by rw [hW3]; exact bel0 _ _
          have X3 : Hid (Own .u32 W3 w.heap.size 0 [0, 0, 0, 0, 0, 0] ∧ Own .u32 W3 w2.heap.size 0 [a0, a1, a2] ∧ Own .u32 W3 w3.heap.size 0 [b0, b1, b2]) := ⟨(own_asideP X2.out.1 ha (by omega)).later bW, (own_asideP X2.out.2 ha (by omega)).later bW, OB0⟩
          have H3 : Hid (Rs P rs2 W3 ∧ Aside P w W3) := ⟨hr.later bW, (H2.out.2.trans ha).trans (Aside.of bW)⟩
          have z3 : w2.heap.size < w3.heap.size := by have := ha.size; have := X2.out.2.lt; omega
          clear hr ha OB0 bW X2 H2
          go_upto_region 4 with fail
          rw [← hW3]
          clear hW3
          have t0 : W3.cell? ⟨w3.heap.size, 0, none⟩ = some (.int .u32 b0) := X3.out.2.2.cell 0 (by simp)
          have tf0 : W3.frozen? ⟨w3.heap.size, 0, none⟩ = false := X3.out.2.2.free 0 (by simp)
          have t1 : W3.cell? ⟨w3.heap.size, 1, none⟩ = some (.int .u32 b1) := X3.out.2.2.cell 1 (by simp)
          have tf1 : W3.frozen? ⟨w3.heap.size, 1, none⟩ = false := X3.out.2.2.free 1 (by simp)
          have t2 : W3.cell? ⟨w3.heap.size, 2, none⟩ = some (.int .u32 b2) := X3.out.2.2.cell 2 (by simp)
          have tf2 : W3.frozen? ⟨w3.heap.size, 2, none⟩ = false := X3.out.2.2.free 2 (by simp)
          have Y : Hid (Own .u32 (W3.setCell ⟨w3.heap.size, 2, none⟩ (.int .u32 0)) w.heap.size 0 [0, 0, 0, 0, 0, 0] ∧ Own .u32 (W3.setCell ⟨w3.heap.size, 2, none⟩ (.int .u32 0)) w2.heap.size 0 [a0, a1, a2] ∧ Own .u32 (W3.setCell ⟨w3.heap.size, 2, none⟩ (.int .u32 0)) w3.heap.size 0 [b0, b1, 0]) := ⟨(own_otherP X3.out.1 (by omega) 2 _), (own_otherP X3.out.2.1 (by omega) 2 _), (X3.out.2.2.set 2 0 (by simp))⟩
          have HY : Hid (Rs P rs2 (W3.setCell ⟨w3.heap.size, 2, none⟩ (.int .u32 0)) ∧ Aside P w (W3.setCell ⟨w3.heap.size, 2, none⟩ (.int .u32 0))) := ⟨(H3.out.1.set (by omega) 2 _), (H3.out.2.setHigh (p := ⟨w3.heap.size, 2, none⟩) (by simp; omega) _)⟩
          obtain ⟨Wd, hWd⟩ : ∃ W, W = (W3.setCell ⟨w3.heap.size, 2, none⟩ (.int .u32 0)) := ⟨_, rfl⟩
          rw [← hWd] at Y HY
          clear X3 H3
          go_wp2_with fail
          rw [← hWd]
          clear hWd t0 t1 t2 tf0 tf1 tf2
          refine (noWayV_any b0 b1 0 _ xb.1 xb.2 yb.1 yb.2 h0.1 h0.2).mono ?_
          rintro e V ⟨rfl, hb⟩
          have OX := Y.out.1.later hb
          have OA := Y.out.2.1.later hb
          have OB := Y.out.2.2.later hb
          have H9 : Hid (Rs P rs2 V ∧ Aside P w V) := ⟨HY.out.1.later hb, HY.out.2.trans (Aside.of hb)⟩
          have r0 : V.cell? ⟨w.heap.size, 0, none⟩ = some (.int .u32 0) := OX.cell 0 (by simp)
          have rf0 : V.frozen? ⟨w.heap.size, 0, none⟩ = false := OX.free 0 (by simp)
          have r1 : V.cell? ⟨w.heap.size, 1, none⟩ = some (.int .u32 0) := OX.cell 1 (by simp)
          have rf1 : V.frozen? ⟨w.heap.size, 1, none⟩ = false := OX.free 1 (by simp)
          have r2 : V.cell? ⟨w.heap.size, 2, none⟩ = some (.int .u32 0) := OX.cell 2 (by simp)
          have rf2 : V.frozen? ⟨w.heap.size, 2, none⟩ = false := OX.free 2 (by simp)
          have r3 : V.cell? ⟨w.heap.size, 3, none⟩ = some (.int .u32 0) := OX.cell 3 (by simp)
          have rf3 : V.frozen? ⟨w.heap.size, 3, none⟩ = false := OX.free 3 (by simp)
          have r4 : V.cell? ⟨w.heap.size, 4, none⟩ = some (.int .u32 0) := OX.cell 4 (by simp)
          have rf4 : V.frozen? ⟨w.heap.size, 4, none⟩ = false := OX.free 4 (by simp)
          have r5 : V.cell? ⟨w.heap.size, 5, none⟩ = some (.int .u32 0) := OX.cell 5 (by simp)
          have rf5 : V.frozen? ⟨w.heap.size, 5, none⟩ = false := OX.free 5 (by simp)
          have p0 : V.cell? ⟨w2.heap.size, 0, none⟩ = some (.int .u32 a0) := OA.cell 0 (by simp)
          have p1 : V.cell? ⟨w2.heap.size, 1, none⟩ = some (.int .u32 a1) := OA.cell 1 (by simp)
          have p2 : V.cell? ⟨w2.heap.size, 2, none⟩ = some (.int .u32 a2) := OA.cell 2 (by simp)
          have q0 : V.cell? ⟨w3.heap.size, 0, none⟩ = some (.int .u32 b0) := OB.cell 0 (by simp)
          have q1 : V.cell? ⟨w3.heap.size, 1, none⟩ = some (.int .u32 b1) := OB.cell 1 (by simp)
          have q2 : V.cell? ⟨w3.heap.size, 2, none⟩ = some (.int .u32 0) := OB.cell 2 (by simp)
          have qf2 : V.frozen? ⟨w3.heap.size, 2, none⟩ = false := OB.free 2 (by simp)
          have n1 : w.heap.size ≠ w2.heap.size := by omega
          have n2 : w.heap.size ≠ w3.heap.size := by omega
          have n3 : w2.heap.size ≠ w3.heap.size := by omega
          rw [hnw]
          clear hb Y HY OX OA OB
          go_wp2
          refine bodyPost_ret (v := .agg #[.int .u32 a0, .int .u32 a1, .int .u32 a2, .int .u32 b0, .int .u32 b1, .int .u32 1065353216]) (by simp [results, Tryz.results74, go_sem, r0, r1, r2, r3, r4, r5]) rfl ?_
          exact ⟨rfl, by (repeat refine Rs.set ?_ (by omega) _ _); exact H9.out.1, by (repeat refine Aside.setHigh ?_ (by simp <;> omega) _); exact H9.out.2⟩
        · exfalso; omega
    · have c8 : (kk % 8 == 1) = false := by rw [beq_eq_false_iff_ne]; exact h8
      cases hnw : noWayB b0 b1 b2
      · refine ⟨a0, a1, a2, b0, b1, b2, rs2, u32_6 xa ya za xb yb zb, ?_⟩
        intro P w h
        have hP := h.lt
        have HS : Hid (Rs P rs w) := h
        clear h
        go_enter Tryz.func74, Tryz.ntmps74
        go_wp2_with fail
        refine (nextF_any P rs _ (HS.out.later (bel0 _ _))).mono ?_
        rintro e w1 ⟨rfl, hk0, hk1, hr, ha⟩
        rw [HK.out] at hk0 hk1 ⊢
        have O1 : Hid (Own .u32 w1 w.heap.size 0 [0, 0, 0, 0, 0, 0]) := own_asideP (own_lit w [0, 0, 0, 0, 0, 0] _ _ rfl) ha (by omega)
        have H1 : Hid (Rs P rs.tail w1 ∧ Aside P w w1) := ⟨hr, (Aside.of (bel0 _ _)).trans ha⟩
        have hm16 : kk.tmod 16 = kk % 16 := Int.tmod_eq_emod_of_nonneg hk0
        have hm8 : kk.tmod 8 = kk % 8 := Int.tmod_eq_emod_of_nonneg hk0
        have hm4 : kk.tmod 4 = kk % 4 := Int.tmod_eq_emod_of_nonneg hk0
        have z1 := O1.out.lt
        clear hr ha
        go_wp2_with fail
        refine (HA.out.tells P w1 H1.out.1).mono ?_
        rintro e w2 ⟨rfl, hr, ha⟩
        have OA0 : Own .u32 (w2.alloc (.cells #[.int .u32 a0, .int .u32 a1, .int .u32 a2] 53)) w2.heap.size 0 [a0, a1, a2] := own_lit w2 [a0, a1, a2] _ _ rfl
        obtain ⟨W2, hW2⟩ : ∃ W, W = w2.alloc (.cells #[.int .u32 a0, .int .u32 a1, .int .u32 a2] 53) := ⟨_, rfl⟩
        rw [← hW2] at OA0
        have bW : Below w2.heap.size w2 W2 := by rw [hW2]; exact bel0 _ _
        have X2 : Hid (Own .u32 W2 w.heap.size 0 [0, 0, 0, 0, 0, 0] ∧ Own .u32 W2 w2.heap.size 0 [a0, a1, a2]) := ⟨(own_asideP O1.out ha (by omega)).later bW, OA0⟩
        have H2 : Hid (Rs P rs1 W2 ∧ Aside P w W2) := ⟨hr.later bW, (H1.out.2.trans ha).trans (Aside.of bW)⟩
        have z2 : w.heap.size < w2.heap.size := by have := ha.size; omega
        clear hr ha OA0 bW O1 H1
        go_wp2_with fail
        rw [← hW2]
        clear hW2
        refine (HB.out.tells P W2 H2.out.1).mono ?_
        rintro e w3 ⟨rfl, hr, ha⟩
        have OB0 : Own .u32 (w3.alloc (.cells #[.int .u32 b0, .int .u32 b1, .int .u32 b2] 53)) w3.heap.size 0 [b0, b1, b2] := own_lit w3 [b0, b1, b2] _ _ rfl
        obtain ⟨W3, hW3⟩ : ∃ W, W = w3.alloc (.cells #[.int .u32 b0, .int .u32 b1, .int .u32 b2] 53) := ⟨_, rfl⟩
        rw [← hW3] at OB0
        have bW : Below w3.heap.size w3 W3 := by rw [hW3]; exact bel0 _ _
        have X3 : Hid (Own .u32 W3 w.heap.size 0 [0, 0, 0, 0, 0, 0] ∧ Own .u32 W3 w2.heap.size 0 [a0, a1, a2] ∧ Own .u32 W3 w3.heap.size 0 [b0, b1, b2]) := ⟨(own_asideP X2.out.1 ha (by omega)).later bW, (own_asideP X2.out.2 ha (by omega)).later bW, OB0⟩
        have H3 : Hid (Rs P rs2 W3 ∧ Aside P w W3) := ⟨hr.later bW, (H2.out.2.trans ha).trans (Aside.of bW)⟩
        have z3 : w2.heap.size < w3.heap.size := by have := ha.size; have := X2.out.2.lt; omega
        clear hr ha OB0 bW X2 H2
        go_upto_region 4 with fail
        rw [← hW3]
        clear hW3
        have t0 : W3.cell? ⟨w3.heap.size, 0, none⟩ = some (.int .u32 b0) := X3.out.2.2.cell 0 (by simp)
        have tf0 : W3.frozen? ⟨w3.heap.size, 0, none⟩ = false := X3.out.2.2.free 0 (by simp)
        have t1 : W3.cell? ⟨w3.heap.size, 1, none⟩ = some (.int .u32 b1) := X3.out.2.2.cell 1 (by simp)
        have tf1 : W3.frozen? ⟨w3.heap.size, 1, none⟩ = false := X3.out.2.2.free 1 (by simp)
        have t2 : W3.cell? ⟨w3.heap.size, 2, none⟩ = some (.int .u32 b2) := X3.out.2.2.cell 2 (by simp)
        have tf2 : W3.frozen? ⟨w3.heap.size, 2, none⟩ = false := X3.out.2.2.free 2 (by simp)
        have Y : Hid (Own .u32 W3 w.heap.size 0 [0, 0, 0, 0, 0, 0] ∧ Own .u32 W3 w2.heap.size 0 [a0, a1, a2] ∧ Own .u32 W3 w3.heap.size 0 [b0, b1, b2]) := ⟨X3.out.1, X3.out.2.1, X3.out.2.2⟩
        have HY : Hid (Rs P rs2 W3 ∧ Aside P w W3) := ⟨H3.out.1, H3.out.2⟩
        obtain ⟨Wd, hWd⟩ : ∃ W, W = W3 := ⟨_, rfl⟩
        rw [← hWd] at Y HY
        clear X3 H3
        go_wp2_with fail
        rw [← hWd]
        clear hWd t0 t1 t2 tf0 tf1 tf2
        refine (noWayV_any b0 b1 b2 _ xb.1 xb.2 yb.1 yb.2 zb.1 zb.2).mono ?_
        rintro e V ⟨rfl, hb⟩
        have OX := Y.out.1.later hb
        have OA := Y.out.2.1.later hb
        have OB := Y.out.2.2.later hb
        have H9 : Hid (Rs P rs2 V ∧ Aside P w V) := ⟨HY.out.1.later hb, HY.out.2.trans (Aside.of hb)⟩
        have r0 : V.cell? ⟨w.heap.size, 0, none⟩ = some (.int .u32 0) := OX.cell 0 (by simp)
        have rf0 : V.frozen? ⟨w.heap.size, 0, none⟩ = false := OX.free 0 (by simp)
        have r1 : V.cell? ⟨w.heap.size, 1, none⟩ = some (.int .u32 0) := OX.cell 1 (by simp)
        have rf1 : V.frozen? ⟨w.heap.size, 1, none⟩ = false := OX.free 1 (by simp)
        have r2 : V.cell? ⟨w.heap.size, 2, none⟩ = some (.int .u32 0) := OX.cell 2 (by simp)
        have rf2 : V.frozen? ⟨w.heap.size, 2, none⟩ = false := OX.free 2 (by simp)
        have r3 : V.cell? ⟨w.heap.size, 3, none⟩ = some (.int .u32 0) := OX.cell 3 (by simp)
        have rf3 : V.frozen? ⟨w.heap.size, 3, none⟩ = false := OX.free 3 (by simp)
        have r4 : V.cell? ⟨w.heap.size, 4, none⟩ = some (.int .u32 0) := OX.cell 4 (by simp)
        have rf4 : V.frozen? ⟨w.heap.size, 4, none⟩ = false := OX.free 4 (by simp)
        have r5 : V.cell? ⟨w.heap.size, 5, none⟩ = some (.int .u32 0) := OX.cell 5 (by simp)
        have rf5 : V.frozen? ⟨w.heap.size, 5, none⟩ = false := OX.free 5 (by simp)
        have p0 : V.cell? ⟨w2.heap.size, 0, none⟩ = some (.int .u32 a0) := OA.cell 0 (by simp)
        have p1 : V.cell? ⟨w2.heap.size, 1, none⟩ = some (.int .u32 a1) := OA.cell 1 (by simp)
        have p2 : V.cell? ⟨w2.heap.size, 2, none⟩ = some (.int .u32 a2) := OA.cell 2 (by simp)
        have q0 : V.cell? ⟨w3.heap.size, 0, none⟩ = some (.int .u32 b0) := OB.cell 0 (by simp)
        have q1 : V.cell? ⟨w3.heap.size, 1, none⟩ = some (.int .u32 b1) := OB.cell 1 (by simp)
        have q2 : V.cell? ⟨w3.heap.size, 2, none⟩ = some (.int .u32 b2) := OB.cell 2 (by simp)
        have qf2 : V.frozen? ⟨w3.heap.size, 2, none⟩ = false := OB.free 2 (by simp)
        have n1 : w.heap.size ≠ w2.heap.size := by omega
        have n2 : w.heap.size ≠ w3.heap.size := by omega
        have n3 : w2.heap.size ≠ w3.heap.size := by omega
        rw [hnw]
        clear hb Y HY OX OA OB
        go_wp2
        refine bodyPost_ret (v := .agg #[.int .u32 a0, .int .u32 a1, .int .u32 a2, .int .u32 b0, .int .u32 b1, .int .u32 b2]) (by simp [results, Tryz.results74, go_sem, r0, r1, r2, r3, r4, r5]) rfl ?_
        exact ⟨rfl, by (repeat refine Rs.set ?_ (by omega) _ _); exact H9.out.1, by (repeat refine Aside.setHigh ?_ (by simp <;> omega) _); exact H9.out.2⟩
      · by_cases h16 : 0 < kk % 16
        · refine ⟨a0, a1, a2, b0, b1, 1065353216, rs2, u32_6 xa ya za xb yb hone, ?_⟩
          intro P w h
          have hP := h.lt
          have HS : Hid (Rs P rs w) := h
          clear h
          go_enter Tryz.func74, Tryz.ntmps74
          go_wp2_with fail
          refine (nextF_any P rs _ (HS.out.later (bel0 _ _))).mono ?_
          rintro e w1 ⟨rfl, hk0, hk1, hr, ha⟩
          rw [HK.out] at hk0 hk1 ⊢
          have O1 : Hid (Own .u32 w1 w.heap.size 0 [0, 0, 0, 0, 0, 0]) := own_asideP (own_lit w [0, 0, 0, 0, 0, 0] _ _ rfl) ha (by omega)
          have H1 : Hid (Rs P rs.tail w1 ∧ Aside P w w1) := ⟨hr, (Aside.of (bel0 _ _)).trans ha⟩
          have hm16 : kk.tmod 16 = kk % 16 := Int.tmod_eq_emod_of_nonneg hk0
          have hm8 : kk.tmod 8 = kk % 8 := Int.tmod_eq_emod_of_nonneg hk0
          have hm4 : kk.tmod 4 = kk % 4 := Int.tmod_eq_emod_of_nonneg hk0
          have z1 := O1.out.lt
          clear hr ha
          go_wp2_with fail
          refine (HA.out.tells P w1 H1.out.1).mono ?_
          rintro e w2 ⟨rfl, hr, ha⟩
          have OA0 : Own .u32 (w2.alloc (.cells #[.int .u32 a0, .int .u32 a1, .int .u32 a2] 53)) w2.heap.size 0 [a0, a1, a2] := own_lit w2 [a0, a1, a2] _ _ rfl
          obtain ⟨W2, hW2⟩ : ∃ W, W = w2.alloc (.cells #[.int .u32 a0, .int .u32 a1, .int .u32 a2] 53) := ⟨_, rfl⟩
          rw [← hW2] at OA0
          have bW : Below w2.heap.size w2 W2 := by rw [hW2]; exact bel0 _ _
          have X2 : Hid (Own .u32 W2 w.heap.size 0 [0, 0, 0, 0, 0, 0] ∧ Own .u32 W2 w2.heap.size 0 [a0, a1, a2]) := ⟨(own_asideP O1.out ha (by omega)).later bW, OA0⟩
          have H2 : Hid (Rs P rs1 W2 ∧ Aside P w W2) := ⟨hr.later bW, (H1.out.2.trans ha).trans (Aside.of bW)⟩
          have z2 : w.heap.size < w2.heap.size := by have := ha.size; omega
          clear hr ha OA0 bW O1 H1
          go_wp2_with fail
          rw [← hW2]
          clear hW2
          refine (HB.out.tells P W2 H2.out.1).mono ?_
          rintro e w3 ⟨rfl, hr, ha⟩
          have OB0 : Own .u32 (w3.alloc (.cells #[.int .u32 b0, .int .u32 b1, .int .u32 b2] 53)) w3.heap.size 0 [b0, b1, b2] := own_lit w3 [b0, b1, b2] _ _ rfl
          obtain ⟨W3, hW3⟩ : ∃ W, W = w3.alloc (.cells #[.int .u32 b0, .int .u32 b1, .int .u32 b2] 53) := ⟨_, rfl⟩
          rw [← hW3] at OB0
          have bW : Below w3.heap.size w3 W3 := by rw [hW3]; exact bel0 _ _
          have X3 : Hid (Own .u32 W3 w.heap.size 0 [0, 0, 0, 0, 0, 0] ∧ Own .u32 W3 w2.heap.size 0 [a0, a1, a2] ∧ Own .u32 W3 w3.heap.size 0 [b0, b1, b2]) := ⟨(own_asideP X2.out.1 ha (by omega)).later bW, (own_asideP X2.out.2 ha (by omega)).later bW, OB0⟩
          have H3 : Hid (Rs P rs2 W3 ∧ Aside P w W3) := ⟨hr.later bW, (H2.out.2.trans ha).trans (Aside.of bW)⟩
          have z3 : w2.heap.size < w3.heap.size := by have := ha.size; have := X2.out.2.lt; omega
          clear hr ha OB0 bW X2 H2
          go_upto_region 4 with fail
          rw [← hW3]
          clear hW3
          have t0 : W3.cell? ⟨w3.heap.size, 0, none⟩ = some (.int .u32 b0) := X3.out.2.2.cell 0 (by simp)
          have tf0 : W3.frozen? ⟨w3.heap.size, 0, none⟩ = false := X3.out.2.2.free 0 (by simp)
          have t1 : W3.cell? ⟨w3.heap.size, 1, none⟩ = some (.int .u32 b1) := X3.out.2.2.cell 1 (by simp)
          have tf1 : W3.frozen? ⟨w3.heap.size, 1, none⟩ = false := X3.out.2.2.free 1 (by simp)
          have t2 : W3.cell? ⟨w3.heap.size, 2, none⟩ = some (.int .u32 b2) := X3.out.2.2.cell 2 (by simp)
          have tf2 : W3.frozen? ⟨w3.heap.size, 2, none⟩ = false := X3.out.2.2.free 2 (by simp)
          have Y : Hid (Own .u32 W3 w.heap.size 0 [0, 0, 0, 0, 0, 0] ∧ Own .u32 W3 w2.heap.size 0 [a0, a1, a2] ∧ Own .u32 W3 w3.heap.size 0 [b0, b1, b2]) := ⟨X3.out.1, X3.out.2.1, X3.out.2.2⟩
          have HY : Hid (Rs P rs2 W3 ∧ Aside P w W3) := ⟨H3.out.1, H3.out.2⟩
          obtain ⟨Wd, hWd⟩ : ∃ W, W = W3 := ⟨_, rfl⟩
          rw [← hWd] at Y HY
          clear X3 H3
          go_wp2_with fail
          rw [← hWd]
          clear hWd t0 t1 t2 tf0 tf1 tf2
          refine (noWayV_any b0 b1 b2 _ xb.1 xb.2 yb.1 yb.2 zb.1 zb.2).mono ?_
          rintro e V ⟨rfl, hb⟩
          have OX := Y.out.1.later hb
          have OA := Y.out.2.1.later hb
          have OB := Y.out.2.2.later hb
          have H9 : Hid (Rs P rs2 V ∧ Aside P w V) := ⟨HY.out.1.later hb, HY.out.2.trans (Aside.of hb)⟩
          have r0 : V.cell? ⟨w.heap.size, 0, none⟩ = some (.int .u32 0) := OX.cell 0 (by simp)
          have rf0 : V.frozen? ⟨w.heap.size, 0, none⟩ = false := OX.free 0 (by simp)
          have r1 : V.cell? ⟨w.heap.size, 1, none⟩ = some (.int .u32 0) := OX.cell 1 (by simp)
          have rf1 : V.frozen? ⟨w.heap.size, 1, none⟩ = false := OX.free 1 (by simp)
          have r2 : V.cell? ⟨w.heap.size, 2, none⟩ = some (.int .u32 0) := OX.cell 2 (by simp)
          have rf2 : V.frozen? ⟨w.heap.size, 2, none⟩ = false := OX.free 2 (by simp)
          have r3 : V.cell? ⟨w.heap.size, 3, none⟩ = some (.int .u32 0) := OX.cell 3 (by simp)
          have rf3 : V.frozen? ⟨w.heap.size, 3, none⟩ = false := OX.free 3 (by simp)
          have r4 : V.cell? ⟨w.heap.size, 4, none⟩ = some (.int .u32 0) := OX.cell 4 (by simp)
          have rf4 : V.frozen? ⟨w.heap.size, 4, none⟩ = false := OX.free 4 (by simp)
          have r5 : V.cell? ⟨w.heap.size, 5, none⟩ = some (.int .u32 0) := OX.cell 5 (by simp)
          have rf5 : V.frozen? ⟨w.heap.size, 5, none⟩ = false := OX.free 5 (by simp)
          have p0 : V.cell? ⟨w2.heap.size, 0, none⟩ = some (.int .u32 a0) := OA.cell 0 (by simp)
          have p1 : V.cell? ⟨w2.heap.size, 1, none⟩ = some (.int .u32 a1) := OA.cell 1 (by simp)
          have p2 : V.cell? ⟨w2.heap.size, 2, none⟩ = some (.int .u32 a2) := OA.cell 2 (by simp)
          have q0 : V.cell? ⟨w3.heap.size, 0, none⟩ = some (.int .u32 b0) := OB.cell 0 (by simp)
          have q1 : V.cell? ⟨w3.heap.size, 1, none⟩ = some (.int .u32 b1) := OB.cell 1 (by simp)
          have q2 : V.cell? ⟨w3.heap.size, 2, none⟩ = some (.int .u32 b2) := OB.cell 2 (by simp)
          have qf2 : V.frozen? ⟨w3.heap.size, 2, none⟩ = false := OB.free 2 (by simp)
          have n1 : w.heap.size ≠ w2.heap.size := by omega
          have n2 : w.heap.size ≠ w3.heap.size := by omega
          have n3 : w2.heap.size ≠ w3.heap.size := by omega
          rw [hnw]
          clear hb Y HY OX OA OB
          go_wp2
          refine bodyPost_ret (v := .agg #[.int .u32 a0, .int .u32 a1, .int .u32 a2, .int .u32 b0, .int .u32 b1, .int .u32 1065353216]) (by simp [results, Tryz.results74, go_sem, r0, r1, r2, r3, r4, r5]) rfl ?_
          exact ⟨rfl, by (repeat refine Rs.set ?_ (by omega) _ _); exact H9.out.1, by (repeat refine Aside.setHigh ?_ (by simp <;> omega) _); exact H9.out.2⟩
        · exfalso; omega

end Go.Proofs.YtiajhekjojeaeaaGreat
