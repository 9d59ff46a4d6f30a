/-
  The law of FnDet, walked.
-/
import Derived.Test.YtladfpljnaippabDoorDySMulDyI6aDyJMulLawFD0
import Derived.Deep.CutRange
import Derived.Deep.Light
import Derived.Deep.RegionHeld3
namespace Go.Proofs.YtladfpljnaippabDoor
open Go.RowKit

set_option maxRecDepth 100000 in
set_option maxHeartbeats 16000000 in
theorem lawFD_any (a a' : Option Addr) (c c' : Nat) (bs bs' : List Int) (w : World) (hc0 : Code8 a c bs w) (hc1 : Code8 a' c' bs' w) (hT : Tab w) :
    Calls Tryd.prog 3 #[.slice a bs.length c, .slice a' bs'.length c'] w fun e w' => e = .returned (.bool true) ∧ Below w.heap.size w w' := by
  have HC0 : Hid (Code8 a c bs w) := hc0
  have HC1 : Hid (Code8 a' c' bs' w) := hc1
  have HT : Hid (Tab w) := hT
  have l0 : ¬ (1048576 : Int) < bs.length := by have := hc0.len; omega
  have l1 : ¬ (1048576 : Int) < bs'.length := by have := hc1.len; omega
  have l0' : ¬ (bs.length : Int) > 1048576 := l0
  have l1' : ¬ (bs'.length : Int) > 1048576 := l1
  clear hc0 hc1 hT
  go_enter Tryd.func3, Tryd.ntmps3
  go_wp2_with fail
  refine HC0.out.draw.mono ?_
  rintro e W1 ⟨X1, c1, ds1, rfl, hs1, hl1, hsm1, hb1⟩
  have HS1 : Hid (ds1.map strip = detF bs) := hs1
  have HL1 : Hid (LstW w.heap.size X1 ds1 W1) := hl1
  have HM1 : Hid (Small ds1) := hsm1
  have HB1 : Hid (Below w.heap.size w W1) := hb1
  clear hs1 hl1 hsm1 hb1
  go_wp2_with fail
  refine (detS_row HM1.out HL1.out.rowD).mono ?_
  rintro e W2 ⟨G, Z, EZ, K, aw, cw, rfl, hres, hrw, _, hb2⟩
  have HRes : Hid (ResD (okN ds1) (detK 100000 ds1) G Z EZ K) := hres
  have HB2 : Hid (Below w.heap.size w W2) := HB1.out.trans (hb2.mono HB1.out.size)
  have HBw2 : Hid (∀ t, BoxD W2.heap.size ⟨G, aw, cw, Z, EZ⟩ (W2.alloc (.cells #[.bool G, .slice aw Z.length cw, .int .i64 EZ] t))) := fun t => BoxD.start (d := ⟨G, aw, cw, Z, EZ⟩) hrw t
  have HL2 : Hid (LstW w.heap.size X1 ds1 W2) := HL1.out.later hb2
  clear hres hrw hb2 HL1 HB1
  go_wp2_with fail
  obtain ⟨W3, hW3⟩ : ∃ W3, W3 = W2.alloc (.cells #[.bool G, .slice aw Z.length cw, .int .i64 EZ] 29) := ⟨_, rfl⟩
  rw [← hW3]
  have HW3 : Hid (BoxD W2.heap.size ⟨G, aw, cw, Z, EZ⟩ W3) := by unfold Hid; rw [hW3]; exact HBw2.out _
  have hb3 : Below W2.heap.size W2 W3 := by rw [hW3]; exact bel0 _ _
  have HB3 : Hid (Below w.heap.size w W3) := HB2.out.trans (hb3.mono HB2.out.size)
  have HL3 : Hid (LstW w.heap.size X1 ds1 W3) := HL2.out.later hb3
  clear hW3 hb3 HBw2 HL2
  refine (HC1.out.later HB3.out).of.mono ?_
  rintro e W4 ⟨Bt, rfl, hB0, hB1, hb4⟩
  have HW4 : Hid (BoxD W2.heap.size ⟨G, aw, cw, Z, EZ⟩ W4) := HW3.out.later hb4
  have HB4 : Hid (Below w.heap.size w W4) := HB3.out.trans (hb4.mono HB3.out.size)
  have HL4 : Hid (LstW w.heap.size X1 ds1 W4) := HL3.out.later hb4
  clear hb4 HW3 HB3 HL3 HC1
  go_wp2_with fail
  refine (dyOfS_any Bt _ hB0 hB1).mono ?_
  rintro e W5 ⟨Gk, Zk, Ek, Kk, ak, ck, rfl, hresk, hrwk, _, hb5⟩
  have HResk : Hid (ResD (fFin Bt) (atK 100000 (fNum Bt) (fExp Bt - 150)) Gk Zk Ek Kk) := hresk
  have HB5 : Hid (Below w.heap.size w W5) := HB4.out.trans (hb5.mono HB4.out.size)
  have HBk : Hid (∀ t, BoxD W5.heap.size ⟨Gk, ak, ck, Zk, Ek⟩ (W5.alloc (.cells #[.bool Gk, .slice ak Zk.length ck, .int .i64 Ek] t))) := fun t => BoxD.start (d := ⟨Gk, ak, ck, Zk, Ek⟩) hrwk t
  have HW5 : Hid (BoxD W2.heap.size ⟨G, aw, cw, Z, EZ⟩ W5) := HW4.out.later hb5
  have HL5 : Hid (LstW w.heap.size X1 ds1 W5) := HL4.out.later hb5
  clear hresk hrwk hb5 HW4 HB4 HL4
  by_cases hK : K = 0
  · by_cases hKk : Kk = 0
    · subst hK hKk
      obtain ⟨Dw, hDw⟩ : ∃ Dw : DV, Dw = ⟨G, aw, cw, Z, EZ⟩ := ⟨_, rfl⟩
      obtain ⟨Dk, hDk⟩ : ∃ Dk : DV, Dk = ⟨Gk, ak, ck, Zk, Ek⟩ := ⟨_, rfl⟩
      obtain ⟨T6, hT6⟩ : ∃ T6, T6 = W2.heap.size := ⟨_, rfl⟩
      obtain ⟨T8, hT8⟩ : ∃ T8, T8 = W5.heap.size := ⟨_, rfl⟩
      obtain ⟨W6, hW6⟩ : ∃ W6, W6 = W5.alloc (.cells #[.bool Gk, .slice ak Zk.length ck, .int .i64 Ek] 29) := ⟨_, rfl⟩
      have hb6 : Below W5.heap.size W5 W6 := by rw [hW6]; exact bel0 _ _
      have HST : Hid (StF w T6 Dw T8 Dk X1 ds1 W6) := by
        refine ⟨?_, ?_, HL5.out.later hb6, HB5.out.trans (hb6.mono HB5.out.size)⟩
        · rw [hT6, hDw]; exact HW5.out.later hb6
        · rw [hT8, hDk, hW6]; exact HBk.out _
      have HR : Hid (ResD (okN ds1) (detK 100000 ds1) Dw.g Dw.zs Dw.E 0) := by unfold Hid; rw [hDw]; exact HRes.out
      have HRk : Hid (validD Dk.g Dk.zs Dk.E = true ∧ U32 Dk.zs ∧ Dk.zs.length ≤ 512) := by
        unfold Hid; rw [hDk]
        exact ⟨HResk.out.good.2.1, HResk.out.len.2, HResk.out.len.1⟩
      have hZl : Dw.zs.length ≤ 512 := HR.out.len.1
      have e6 : T8 < W6.heap.size := HST.out.k.lt
      go_wp2_with fail
      rw [← hW6]
      rw [← hT6, ← hT8]
      clear HRes HResk HBk HW5 HL5 HB5 HB2 hb6 hDw hDk hT6 hT8 hW6 hB0 hB1
      refine (HC0.out.later HST.out.bel).draw.mono ?_
      rintro e W7 ⟨X2, c2, ds2, rfl, hs2, hl2, hsm2, hb7⟩
      have HST7 : Hid (StF w T6 Dw T8 Dk X1 ds1 W7) := HST.out.later hb7
      have HS2 : Hid (SameD ds1 ds2) := same_of HS1.out hs2
      have HL2 : Hid (LstW W6.heap.size X2 ds2 W7) := hl2
      have HM2 : Hid (Small ds2) := hsm2
      clear hs2 hl2 hsm2 hb7 HST e6
      go_wp2_with fail
      refine (detI_row HM2.out HL2.out.rowD (HT.out.later HST7.out.bel)).mono ?_
      rintro e W8 ⟨G8, Z8, E8, K8, ag, cg, rfl, hres8, hrg, hb8⟩
      have hR8 : ResD (okN ds1) (detK 100000 ds1) G8 Z8 E8 K8 := by
        rw [HS2.out.okN, HS2.out.det2] at hres8
        exact hres8
      obtain ⟨eG, eZ, eE, eK⟩ := hR8.inj HR.out
      obtain ⟨Dd, hDd⟩ : ∃ Dd : DV, Dd = ⟨Dw.g, ag, cg, Dw.zs, Dw.E⟩ := ⟨_, rfl⟩
      subst eK eG eZ eE
      have HST8 : Hid (StF w T6 Dw T8 Dk X1 ds1 W8) := HST7.out.later hb8
      have HBD : Hid (∀ t, BoxD W8.heap.size Dd (W8.alloc (.cells #[.bool Dw.g, .slice ag Dw.zs.length cg, .int .i64 Dw.E] t))) := by
        intro t; rw [hDd]; exact BoxD.start (d := ⟨Dw.g, ag, cg, Dw.zs, Dw.E⟩) hrg.row t
      have HRg : Hid (RowAt .u32 W8 ag Dw.zs) := hrg.row
      have y0 := HST8.out.want.c0
      have y1 := HST8.out.want.c1
      have y2 := HST8.out.want.c2
      have hlt8 : T6 < W8.heap.size := HST8.out.want.lt
      have hEE : (Dw.E != Dw.E) = false := by simp
      clear hres8 hR8 hrg hb8 HL2 HM2 HS2 HST7
      go_wp2_with fail
      refine (same_any Dw.g ag Dw.a cg Dw.c Dw.zs _ (by unfold maxLen; omega) (HRg.out.later (bel0 _ _)) (HST8.out.want.row.later (bel0 _ _))).mono ?_
      rintro e W9 ⟨rfl, hb9⟩
      obtain ⟨T10, hT10⟩ : ∃ T10, T10 = W8.heap.size := ⟨_, rfl⟩
      have HST9 : Hid (StF w T6 Dw T8 Dk X1 ds1 W9) := (HST8.out.later (bel0 _ _)).later hb9
      have HD9 : Hid (BoxD T10 Dd W9) := by unfold Hid; rw [hT10]; exact (HBD.out _).later hb9
      have z0 : W9.cell? ⟨T10, 2, none⟩ = some (.int .i64 Dw.E) := by have := HD9.out.c2; rw [hDd] at this; exact this
      have z1 := HST9.out.want.c2
      rw [← hT10]
      have HDd : Hid (Dd = ⟨Dw.g, ag, cg, Dw.zs, Dw.E⟩) := hDd
      clear hb9 HBD HRg y0 y1 y2 hlt8 hT10 HST8 hDd
      go_wp2_with fail
      refine (HC0.out.later HST9.out.bel).draw.mono ?_
      rintro e WA ⟨X3, c3, ds3, rfl, hs3, hl3, hsm3, hbA⟩
      have HSTA : Hid (StF w T6 Dw T8 Dk X1 ds1 WA) := HST9.out.later hbA
      have HDA : Hid (BoxD T10 Dd WA) := HD9.out.later hbA
      have hSd3 : SameD ds1 ds3 := same_of HS1.out hs3
      obtain ⟨hln1, hok1⟩ := okN_parts HR.out.good.1
      obtain ⟨d0, d1, d2, d3, d4, d5, d6, d7, d8, hds3⟩ := nine_of (hSd3.length.trans hln1)
      rw [hds3] at hSd3 hl3 hsm3 ⊢
      have HS3 : Hid (SameD ds1 [d0, d1, d2, d3, d4, d5, d6, d7, d8]) := hSd3
      have HL3 : Hid (LstW W9.heap.size X3 [d0, d1, d2, d3, d4, d5, d6, d7, d8] WA) := hl3
      have HM3 : Hid (Small [d0, d1, d2, d3, d4, d5, d6, d7, d8]) := hsm3
      have HLn1 : Hid (ds1.length = 9) := hln1
      have HOk1 : Hid (ds1.all DV.ok = true) := hok1
      clear hs3 hl3 hsm3 hbA hSd3 hln1 hok1 hds3 z0 z1 HST9 HD9
      have HH : Hid (∀ w', Below WA.heap.size WA w' → w'.cell? ⟨X3, 0, none⟩ = some (.bool d0.g) ∧ w'.cell? ⟨X3, 1, none⟩ = some (.slice d0.a d0.zs.length d0.c) ∧ w'.cell? ⟨X3, 2, none⟩ = some (.int .i64 d0.E) ∧ w'.cell? ⟨X3, 3, none⟩ = some (.bool d1.g) ∧ w'.cell? ⟨X3, 4, none⟩ = some (.slice d1.a d1.zs.length d1.c) ∧ w'.cell? ⟨X3, 5, none⟩ = some (.int .i64 d1.E) ∧ w'.cell? ⟨X3, 6, none⟩ = some (.bool d2.g) ∧ w'.cell? ⟨X3, 7, none⟩ = some (.slice d2.a d2.zs.length d2.c) ∧ w'.cell? ⟨X3, 8, none⟩ = some (.int .i64 d2.E) ∧ w'.cell? ⟨X3, 9, none⟩ = some (.bool d3.g) ∧ w'.cell? ⟨X3, 10, none⟩ = some (.slice d3.a d3.zs.length d3.c) ∧ w'.cell? ⟨X3, 11, none⟩ = some (.int .i64 d3.E) ∧ w'.cell? ⟨X3, 12, none⟩ = some (.bool d4.g) ∧ w'.cell? ⟨X3, 13, none⟩ = some (.slice d4.a d4.zs.length d4.c) ∧ w'.cell? ⟨X3, 14, none⟩ = some (.int .i64 d4.E) ∧ w'.cell? ⟨X3, 15, none⟩ = some (.bool d5.g) ∧ w'.cell? ⟨X3, 16, none⟩ = some (.slice d5.a d5.zs.length d5.c) ∧ w'.cell? ⟨X3, 17, none⟩ = some (.int .i64 d5.E) ∧ w'.cell? ⟨X3, 18, none⟩ = some (.bool d6.g) ∧ w'.cell? ⟨X3, 19, none⟩ = some (.slice d6.a d6.zs.length d6.c) ∧ w'.cell? ⟨X3, 20, none⟩ = some (.int .i64 d6.E) ∧ w'.cell? ⟨X3, 21, none⟩ = some (.bool d7.g) ∧ w'.cell? ⟨X3, 22, none⟩ = some (.slice d7.a d7.zs.length d7.c) ∧ w'.cell? ⟨X3, 23, none⟩ = some (.int .i64 d7.E) ∧ w'.cell? ⟨X3, 24, none⟩ = some (.bool d8.g) ∧ w'.cell? ⟨X3, 25, none⟩ = some (.slice d8.a d8.zs.length d8.c) ∧ w'.cell? ⟨X3, 26, none⟩ = some (.int .i64 d8.E) ∧ Below WA.heap.size WA w') := by
        intro w' hw
        have L := HL3.out.later hw
        obtain ⟨q0, q1, q2, q3, q4, q5, q6, q7, q8, q9, q10, q11, q12, q13, q14, q15, q16, q17, q18, q19, q20, q21, q22, q23, q24, q25, q26⟩ := nine_cells L
        exact ⟨q0, q1, q2, q3, q4, q5, q6, q7, q8, q9, q10, q11, q12, q13, q14, q15, q16, q17, q18, q19, q20, q21, q22, q23, q24, q25, q26, hw⟩
      go_wp2
      go_region_held3 (fun w' => w'.cell? ⟨X3, 0, none⟩ = some (.bool d0.g) ∧ w'.cell? ⟨X3, 1, none⟩ = some (.slice d0.a d0.zs.length d0.c) ∧ w'.cell? ⟨X3, 2, none⟩ = some (.int .i64 d0.E) ∧ w'.cell? ⟨X3, 3, none⟩ = some (.bool d1.g) ∧ w'.cell? ⟨X3, 4, none⟩ = some (.slice d1.a d1.zs.length d1.c) ∧ w'.cell? ⟨X3, 5, none⟩ = some (.int .i64 d1.E) ∧ w'.cell? ⟨X3, 6, none⟩ = some (.bool d2.g) ∧ w'.cell? ⟨X3, 7, none⟩ = some (.slice d2.a d2.zs.length d2.c) ∧ w'.cell? ⟨X3, 8, none⟩ = some (.int .i64 d2.E) ∧ w'.cell? ⟨X3, 9, none⟩ = some (.bool d3.g) ∧ w'.cell? ⟨X3, 10, none⟩ = some (.slice d3.a d3.zs.length d3.c) ∧ w'.cell? ⟨X3, 11, none⟩ = some (.int .i64 d3.E) ∧ w'.cell? ⟨X3, 12, none⟩ = some (.bool d4.g) ∧ w'.cell? ⟨X3, 13, none⟩ = some (.slice d4.a d4.zs.length d4.c) ∧ w'.cell? ⟨X3, 14, none⟩ = some (.int .i64 d4.E) ∧ w'.cell? ⟨X3, 15, none⟩ = some (.bool d5.g) ∧ w'.cell? ⟨X3, 16, none⟩ = some (.slice d5.a d5.zs.length d5.c) ∧ w'.cell? ⟨X3, 17, none⟩ = some (.int .i64 d5.E) ∧ w'.cell? ⟨X3, 18, none⟩ = some (.bool d6.g) ∧ w'.cell? ⟨X3, 19, none⟩ = some (.slice d6.a d6.zs.length d6.c) ∧ w'.cell? ⟨X3, 20, none⟩ = some (.int .i64 d6.E) ∧ w'.cell? ⟨X3, 21, none⟩ = some (.bool d7.g) ∧ w'.cell? ⟨X3, 22, none⟩ = some (.slice d7.a d7.zs.length d7.c) ∧ w'.cell? ⟨X3, 23, none⟩ = some (.int .i64 d7.E) ∧ w'.cell? ⟨X3, 24, none⟩ = some (.bool d8.g) ∧ w'.cell? ⟨X3, 25, none⟩ = some (.slice d8.a d8.zs.length d8.c) ∧ w'.cell? ⟨X3, 26, none⟩ = some (.int .i64 d8.E) ∧ Below WA.heap.size WA w')
        (first | exact HH.out _ (Below.refl _ _).drew | exact HH.out _ (by assumption) | exact HH.out _ (bel0 _ _).drew | exact HH.out _ (Below.alloc (Below.refl _ _).drew (by simp) _))
        (fail)
      clear HH
      obtain ⟨s0, s1, s2, s3, s4, s5, s6, s7, s8⟩ := nine_small HM3.out
      obtain ⟨k0, k1, k2, k3, k4, k5, k6, k7, k8⟩ := nine_ok (HS3.out.ok.trans HOk1.out)
      have HSMs : Hid (Small [d3, d4, d5, d0, d1, d2, d6, d7, d8]) := small_nine s3 s4 s5 s0 s1 s2 s6 s7 s8
      have HOKs : Hid (okN [d3, d4, d5, d0, d1, d2, d6, d7, d8] = true) := nine_okN k3 k4 k5 k0 k1 k2 k6 k7 k8
      have HRDs : Hid (∀ t, RowD (WA.alloc (.cells #[.bool d3.g, .slice d3.a d3.zs.length d3.c, .int .i64 d3.E, .bool d4.g, .slice d4.a d4.zs.length d4.c, .int .i64 d4.E, .bool d5.g, .slice d5.a d5.zs.length d5.c, .int .i64 d5.E, .bool d0.g, .slice d0.a d0.zs.length d0.c, .int .i64 d0.E, .bool d1.g, .slice d1.a d1.zs.length d1.c, .int .i64 d1.E, .bool d2.g, .slice d2.a d2.zs.length d2.c, .int .i64 d2.E, .bool d6.g, .slice d6.a d6.zs.length d6.c, .int .i64 d6.E, .bool d7.g, .slice d7.a d7.zs.length d7.c, .int .i64 d7.E, .bool d8.g, .slice d8.a d8.zs.length d8.c, .int .i64 d8.E] t)).drew WA.heap.size 0 [d3, d4, d5, d0, d1, d2, d6, d7, d8]) := fun t => nine_drew (HL3.out.row 3 (show 3 < 9 by decide)) (HL3.out.row 4 (show 4 < 9 by decide)) (HL3.out.row 5 (show 5 < 9 by decide)) (HL3.out.row 0 (show 0 < 9 by decide)) (HL3.out.row 1 (show 1 < 9 by decide)) (HL3.out.row 2 (show 2 < 9 by decide)) (HL3.out.row 6 (show 6 < 9 by decide)) (HL3.out.row 7 (show 7 < 9 by decide)) (HL3.out.row 8 (show 8 < 9 by decide))
      have HDts : Hid (detK 100000 [d3, d4, d5, d0, d1, d2, d6, d7, d8] = - detK 100000 ds1) := by unfold Hid; rw [detK_swap, HS3.out.det2]
      have HSTB : Hid (∀ t, StF w T6 Dw T8 Dk X1 ds1 (WA.alloc (.cells #[.bool d3.g, .slice d3.a d3.zs.length d3.c, .int .i64 d3.E, .bool d4.g, .slice d4.a d4.zs.length d4.c, .int .i64 d4.E, .bool d5.g, .slice d5.a d5.zs.length d5.c, .int .i64 d5.E, .bool d0.g, .slice d0.a d0.zs.length d0.c, .int .i64 d0.E, .bool d1.g, .slice d1.a d1.zs.length d1.c, .int .i64 d1.E, .bool d2.g, .slice d2.a d2.zs.length d2.c, .int .i64 d2.E, .bool d6.g, .slice d6.a d6.zs.length d6.c, .int .i64 d6.E, .bool d7.g, .slice d7.a d7.zs.length d7.c, .int .i64 d7.E, .bool d8.g, .slice d8.a d8.zs.length d8.c, .int .i64 d8.E] t)).drew) := fun t => HSTA.out.later (bel0 _ _).drew
      have HDB : Hid (∀ t, BoxD T10 Dd (WA.alloc (.cells #[.bool d3.g, .slice d3.a d3.zs.length d3.c, .int .i64 d3.E, .bool d4.g, .slice d4.a d4.zs.length d4.c, .int .i64 d4.E, .bool d5.g, .slice d5.a d5.zs.length d5.c, .int .i64 d5.E, .bool d0.g, .slice d0.a d0.zs.length d0.c, .int .i64 d0.E, .bool d1.g, .slice d1.a d1.zs.length d1.c, .int .i64 d1.E, .bool d2.g, .slice d2.a d2.zs.length d2.c, .int .i64 d2.E, .bool d6.g, .slice d6.a d6.zs.length d6.c, .int .i64 d6.E, .bool d7.g, .slice d7.a d7.zs.length d7.c, .int .i64 d7.E, .bool d8.g, .slice d8.a d8.zs.length d8.c, .int .i64 d8.E] t)).drew) := fun t => HDA.out.later (bel0 _ _).drew
      clear s0 s1 s2 s3 s4 s5 s6 s7 s8 k0 k1 k2 k3 k4 k5 k6 k7 k8 HL3 HM3 HSTA HDA
      go_wp2_with fail
      refine (detI_row (ds := [d3, d4, d5, d0, d1, d2, d6, d7, d8]) HSMs.out (HRDs.out _) (HT.out.later (HSTB.out _).bel)).mono ?_
      rintro e WC ⟨Gs, Zs, Es, Ks, aS, cs, rfl, hresS, hrS, hbC⟩
      have HSTC : Hid (StF w T6 Dw T8 Dk X1 ds1 WC) := (HSTB.out _).later hbC
      have HDC : Hid (BoxD T10 Dd WC) := (HDB.out _).later hbC
      have hRs : ResD true (- detK 100000 ds1) Gs Zs Es Ks := by
        rw [HOKs.out, HDts.out] at hresS
        exact hresS
      have hR1 : ResD true (detK 100000 ds1) Dw.g Dw.zs Dw.E 0 := by have := HR.out; rw [HR.out.good.1] at this; exact this
      obtain ⟨eK, eE, eZ, hGs⟩ := hR1.turn hRs
      subst eK eE
      rw [eZ] at hrS ⊢
      have HRs : Hid (RowAt .u32 WC aS Dw.zs) := hrS.row
      have HGs : Hid (Dw.zs ≠ [] → Gs = !Dw.g) := hGs
      have z0 : WC.cell? ⟨T10, 0, none⟩ = some (.bool Dw.g) := by have := HDC.out.c0; rw [HDd.out] at this; exact this
      have z1 : WC.cell? ⟨T10, 1, none⟩ = some (.slice ag Dw.zs.length cg) := by have := HDC.out.c1; rw [HDd.out] at this; exact this
      have z2 : WC.cell? ⟨T10, 2, none⟩ = some (.int .i64 Dw.E) := by have := HDC.out.c2; rw [HDd.out] at this; exact this
      have hltC : T10 < WC.heap.size := HDC.out.lt
      have hLL : ((Dw.zs.length : Int) != Dw.zs.length) = false := by simp
      clear hresS hrS hbC hRs hR1 hGs eZ HSMs HOKs HRDs HDts HSTB HDB
      go_upto_region 14 with fail
      go_cut [150] from 115 to 149 (fun s150 wx => s150 = .bool false ∧ wx = WC.alloc (.cells #[.bool Gs, .slice aS Dw.zs.length cs, .int .i64 Dw.E] 29))
      case first =>
        by_cases hz : Dw.zs = []
        · have hl0 : (Dw.zs.length : Int) = 0 := by rw [hz]; rfl
          have hl1 : ¬ (0 : Int) < Dw.zs.length := by omega
          have hl2 : ¬ (Dw.zs.length : Int) > 0 := by omega
          clear hl0 hz
          go_wp2
          go_meet
          case rel => exact ⟨rfl, rfl⟩
        · have hl1 : (0 : Int) < Dw.zs.length := by have := List.length_pos_iff.2 hz; omega
          have hl2 : (Dw.zs.length : Int) > 0 := hl1
          have hg : (Gs == Dw.g) = false := by rw [HGs.out hz]; cases Dw.g <;> rfl
          go_wp2
          go_meet
          case rel => exact ⟨rfl, rfl⟩
      case rest =>
        obtain ⟨rfl, rfl⟩ := hcut
        go_wp2_with fail
        refine (same_any Dw.g aS ag cs cg Dw.zs _ (by unfold maxLen; omega) (HRs.out.later (bel0 _ _)) ((show RowAt .u32 WC ag Dw.zs by have := HDC.out.row; rw [HDd.out] at this; exact this).later (bel0 _ _))).mono ?_
        rintro e WD ⟨rfl, hbD⟩
        have HSTD : Hid (StF w T6 Dw T8 Dk X1 ds1 WD) := (HSTC.out.later (bel0 _ _)).later hbD
        have HDD : Hid (BoxD T10 Dd WD) := (HDC.out.later (bel0 _ _)).later hbD
        clear hbD z0 z1 z2 hltC HSTC HDC HRs HGs hLL HS3
        go_wp2_with fail
        refine (HC0.out.later HSTD.out.bel).draw.mono ?_
        rintro e WE ⟨X4, c4, ds4, rfl, hs4, hl4, hsm4, hbE⟩
        have HSTE : Hid (StF w T6 Dw T8 Dk X1 ds1 WE) := HSTD.out.later hbE
        have HDE : Hid (BoxD T10 Dd WE) := HDD.out.later hbE
        have hSd4 : SameD ds1 ds4 := same_of HS1.out hs4
        obtain ⟨f0, f1, f2, f3, f4, f5, f6, f7, f8, hds4⟩ := nine_of (hSd4.length.trans HLn1.out)
        rw [hds4] at hSd4 hl4 hsm4 ⊢
        have HS3 : Hid (SameD ds1 [f0, f1, f2, f3, f4, f5, f6, f7, f8]) := hSd4
        have HL3 : Hid (LstW WD.heap.size X4 [f0, f1, f2, f3, f4, f5, f6, f7, f8] WE) := hl4
        have HM3 : Hid (Small [f0, f1, f2, f3, f4, f5, f6, f7, f8]) := hsm4
        clear hs4 hl4 hsm4 hbE hSd4 hds4 HSTD HDD
        have HH : Hid (∀ w', Below WE.heap.size WE w' → w'.cell? ⟨X4, 0, none⟩ = some (.bool f0.g) ∧ w'.cell? ⟨X4, 1, none⟩ = some (.slice f0.a f0.zs.length f0.c) ∧ w'.cell? ⟨X4, 2, none⟩ = some (.int .i64 f0.E) ∧ w'.cell? ⟨X4, 3, none⟩ = some (.bool f1.g) ∧ w'.cell? ⟨X4, 4, none⟩ = some (.slice f1.a f1.zs.length f1.c) ∧ w'.cell? ⟨X4, 5, none⟩ = some (.int .i64 f1.E) ∧ w'.cell? ⟨X4, 6, none⟩ = some (.bool f2.g) ∧ w'.cell? ⟨X4, 7, none⟩ = some (.slice f2.a f2.zs.length f2.c) ∧ w'.cell? ⟨X4, 8, none⟩ = some (.int .i64 f2.E) ∧ w'.cell? ⟨X4, 9, none⟩ = some (.bool f3.g) ∧ w'.cell? ⟨X4, 10, none⟩ = some (.slice f3.a f3.zs.length f3.c) ∧ w'.cell? ⟨X4, 11, none⟩ = some (.int .i64 f3.E) ∧ w'.cell? ⟨X4, 12, none⟩ = some (.bool f4.g) ∧ w'.cell? ⟨X4, 13, none⟩ = some (.slice f4.a f4.zs.length f4.c) ∧ w'.cell? ⟨X4, 14, none⟩ = some (.int .i64 f4.E) ∧ w'.cell? ⟨X4, 15, none⟩ = some (.bool f5.g) ∧ w'.cell? ⟨X4, 16, none⟩ = some (.slice f5.a f5.zs.length f5.c) ∧ w'.cell? ⟨X4, 17, none⟩ = some (.int .i64 f5.E) ∧ w'.cell? ⟨X4, 18, none⟩ = some (.bool f6.g) ∧ w'.cell? ⟨X4, 19, none⟩ = some (.slice f6.a f6.zs.length f6.c) ∧ w'.cell? ⟨X4, 20, none⟩ = some (.int .i64 f6.E) ∧ w'.cell? ⟨X4, 21, none⟩ = some (.bool f7.g) ∧ w'.cell? ⟨X4, 22, none⟩ = some (.slice f7.a f7.zs.length f7.c) ∧ w'.cell? ⟨X4, 23, none⟩ = some (.int .i64 f7.E) ∧ w'.cell? ⟨X4, 24, none⟩ = some (.bool f8.g) ∧ w'.cell? ⟨X4, 25, none⟩ = some (.slice f8.a f8.zs.length f8.c) ∧ w'.cell? ⟨X4, 26, none⟩ = some (.int .i64 f8.E) ∧ Below WE.heap.size WE w') := by
          intro w' hw
          have L := HL3.out.later hw
          obtain ⟨q0, q1, q2, q3, q4, q5, q6, q7, q8, q9, q10, q11, q12, q13, q14, q15, q16, q17, q18, q19, q20, q21, q22, q23, q24, q25, q26⟩ := nine_cells L
          exact ⟨q0, q1, q2, q3, q4, q5, q6, q7, q8, q9, q10, q11, q12, q13, q14, q15, q16, q17, q18, q19, q20, q21, q22, q23, q24, q25, q26, hw⟩
        go_wp2
        go_region_held3 (fun w' => w'.cell? ⟨X4, 0, none⟩ = some (.bool f0.g) ∧ w'.cell? ⟨X4, 1, none⟩ = some (.slice f0.a f0.zs.length f0.c) ∧ w'.cell? ⟨X4, 2, none⟩ = some (.int .i64 f0.E) ∧ w'.cell? ⟨X4, 3, none⟩ = some (.bool f1.g) ∧ w'.cell? ⟨X4, 4, none⟩ = some (.slice f1.a f1.zs.length f1.c) ∧ w'.cell? ⟨X4, 5, none⟩ = some (.int .i64 f1.E) ∧ w'.cell? ⟨X4, 6, none⟩ = some (.bool f2.g) ∧ w'.cell? ⟨X4, 7, none⟩ = some (.slice f2.a f2.zs.length f2.c) ∧ w'.cell? ⟨X4, 8, none⟩ = some (.int .i64 f2.E) ∧ w'.cell? ⟨X4, 9, none⟩ = some (.bool f3.g) ∧ w'.cell? ⟨X4, 10, none⟩ = some (.slice f3.a f3.zs.length f3.c) ∧ w'.cell? ⟨X4, 11, none⟩ = some (.int .i64 f3.E) ∧ w'.cell? ⟨X4, 12, none⟩ = some (.bool f4.g) ∧ w'.cell? ⟨X4, 13, none⟩ = some (.slice f4.a f4.zs.length f4.c) ∧ w'.cell? ⟨X4, 14, none⟩ = some (.int .i64 f4.E) ∧ w'.cell? ⟨X4, 15, none⟩ = some (.bool f5.g) ∧ w'.cell? ⟨X4, 16, none⟩ = some (.slice f5.a f5.zs.length f5.c) ∧ w'.cell? ⟨X4, 17, none⟩ = some (.int .i64 f5.E) ∧ w'.cell? ⟨X4, 18, none⟩ = some (.bool f6.g) ∧ w'.cell? ⟨X4, 19, none⟩ = some (.slice f6.a f6.zs.length f6.c) ∧ w'.cell? ⟨X4, 20, none⟩ = some (.int .i64 f6.E) ∧ w'.cell? ⟨X4, 21, none⟩ = some (.bool f7.g) ∧ w'.cell? ⟨X4, 22, none⟩ = some (.slice f7.a f7.zs.length f7.c) ∧ w'.cell? ⟨X4, 23, none⟩ = some (.int .i64 f7.E) ∧ w'.cell? ⟨X4, 24, none⟩ = some (.bool f8.g) ∧ w'.cell? ⟨X4, 25, none⟩ = some (.slice f8.a f8.zs.length f8.c) ∧ w'.cell? ⟨X4, 26, none⟩ = some (.int .i64 f8.E) ∧ Below WE.heap.size WE w')
          (first | exact HH.out _ (Below.refl _ _).drew | exact HH.out _ (by assumption) | exact HH.out _ (bel0 _ _).drew | exact HH.out _ (Below.alloc (Below.refl _ _).drew (by simp) _))
          (fail)
        clear HH
        obtain ⟨s0, s1, s2, s3, s4, s5, s6, s7, s8⟩ := nine_small HM3.out
        obtain ⟨k0, k1, k2, k3, k4, k5, k6, k7, k8⟩ := nine_ok (HS3.out.ok.trans HOk1.out)
        have HSMs : Hid (Small [f0, f3, f6, f1, f4, f7, f2, f5, f8]) := small_nine s0 s3 s6 s1 s4 s7 s2 s5 s8
        have HOKs : Hid (okN [f0, f3, f6, f1, f4, f7, f2, f5, f8] = true) := nine_okN k0 k3 k6 k1 k4 k7 k2 k5 k8
        have HRDs : Hid (∀ t, RowD (WE.alloc (.cells #[.bool f0.g, .slice f0.a f0.zs.length f0.c, .int .i64 f0.E, .bool f3.g, .slice f3.a f3.zs.length f3.c, .int .i64 f3.E, .bool f6.g, .slice f6.a f6.zs.length f6.c, .int .i64 f6.E, .bool f1.g, .slice f1.a f1.zs.length f1.c, .int .i64 f1.E, .bool f4.g, .slice f4.a f4.zs.length f4.c, .int .i64 f4.E, .bool f7.g, .slice f7.a f7.zs.length f7.c, .int .i64 f7.E, .bool f2.g, .slice f2.a f2.zs.length f2.c, .int .i64 f2.E, .bool f5.g, .slice f5.a f5.zs.length f5.c, .int .i64 f5.E, .bool f8.g, .slice f8.a f8.zs.length f8.c, .int .i64 f8.E] t)).drew WE.heap.size 0 [f0, f3, f6, f1, f4, f7, f2, f5, f8]) := fun t => nine_drew (HL3.out.row 0 (show 0 < 9 by decide)) (HL3.out.row 3 (show 3 < 9 by decide)) (HL3.out.row 6 (show 6 < 9 by decide)) (HL3.out.row 1 (show 1 < 9 by decide)) (HL3.out.row 4 (show 4 < 9 by decide)) (HL3.out.row 7 (show 7 < 9 by decide)) (HL3.out.row 2 (show 2 < 9 by decide)) (HL3.out.row 5 (show 5 < 9 by decide)) (HL3.out.row 8 (show 8 < 9 by decide))
        have HDts : Hid (detK 100000 [f0, f3, f6, f1, f4, f7, f2, f5, f8] = detK 100000 ds1) := by unfold Hid; rw [detK_turn, HS3.out.det2]
        have HSTB : Hid (∀ t, StF w T6 Dw T8 Dk X1 ds1 (WE.alloc (.cells #[.bool f0.g, .slice f0.a f0.zs.length f0.c, .int .i64 f0.E, .bool f3.g, .slice f3.a f3.zs.length f3.c, .int .i64 f3.E, .bool f6.g, .slice f6.a f6.zs.length f6.c, .int .i64 f6.E, .bool f1.g, .slice f1.a f1.zs.length f1.c, .int .i64 f1.E, .bool f4.g, .slice f4.a f4.zs.length f4.c, .int .i64 f4.E, .bool f7.g, .slice f7.a f7.zs.length f7.c, .int .i64 f7.E, .bool f2.g, .slice f2.a f2.zs.length f2.c, .int .i64 f2.E, .bool f5.g, .slice f5.a f5.zs.length f5.c, .int .i64 f5.E, .bool f8.g, .slice f8.a f8.zs.length f8.c, .int .i64 f8.E] t)).drew) := fun t => HSTE.out.later (bel0 _ _).drew
        have HDB : Hid (∀ t, BoxD T10 Dd (WE.alloc (.cells #[.bool f0.g, .slice f0.a f0.zs.length f0.c, .int .i64 f0.E, .bool f3.g, .slice f3.a f3.zs.length f3.c, .int .i64 f3.E, .bool f6.g, .slice f6.a f6.zs.length f6.c, .int .i64 f6.E, .bool f1.g, .slice f1.a f1.zs.length f1.c, .int .i64 f1.E, .bool f4.g, .slice f4.a f4.zs.length f4.c, .int .i64 f4.E, .bool f7.g, .slice f7.a f7.zs.length f7.c, .int .i64 f7.E, .bool f2.g, .slice f2.a f2.zs.length f2.c, .int .i64 f2.E, .bool f5.g, .slice f5.a f5.zs.length f5.c, .int .i64 f5.E, .bool f8.g, .slice f8.a f8.zs.length f8.c, .int .i64 f8.E] t)).drew) := fun t => HDE.out.later (bel0 _ _).drew
        clear s0 s1 s2 s3 s4 s5 s6 s7 s8 k0 k1 k2 k3 k4 k5 k6 k7 k8 HL3 HM3 HSTE HDE
        go_wp2_with fail
        refine (detI_row (ds := [f0, f3, f6, f1, f4, f7, f2, f5, f8]) HSMs.out (HRDs.out _) (HT.out.later (HSTB.out _).bel)).mono ?_
        rintro e WF ⟨Gt, Zt, Et, Kt, aT, cT, rfl, hresT, hrT, hbF⟩
        have HSTF : Hid (StF w T6 Dw T8 Dk X1 ds1 WF) := (HSTB.out _).later hbF
        have HDF : Hid (BoxD T10 Dd WF) := (HDB.out _).later hbF
        have hRt : ResD (okN ds1) (detK 100000 ds1) Gt Zt Et Kt := by
          rw [HOKs.out, HDts.out, ← HR.out.good.1] at hresT
          exact hresT
        obtain ⟨eG, eZ, eE, eK⟩ := hRt.inj HR.out
        subst eK eG eZ eE
        have HRt : Hid (RowAt .u32 WF aT Dw.zs) := hrT.row
        have z0 : WF.cell? ⟨T10, 0, none⟩ = some (.bool Dw.g) := by have := HDF.out.c0; rw [HDd.out] at this; exact this
        have z1 : WF.cell? ⟨T10, 1, none⟩ = some (.slice ag Dw.zs.length cg) := by have := HDF.out.c1; rw [HDd.out] at this; exact this
        have z2 : WF.cell? ⟨T10, 2, none⟩ = some (.int .i64 Dw.E) := by have := HDF.out.c2; rw [HDd.out] at this; exact this
        have hltF : T10 < WF.heap.size := HDF.out.lt
        clear hresT hrT hbF hRt HSMs HOKs HRDs HDts HSTB HDB HS3
        go_wp2_with fail
        refine (same_any Dw.g aT ag cT cg Dw.zs _ (by unfold maxLen; omega) (HRt.out.later (bel0 _ _)) ((show RowAt .u32 WF ag Dw.zs by have := HDF.out.row; rw [HDd.out] at this; exact this).later (bel0 _ _))).mono ?_
        rintro e WG ⟨rfl, hbG⟩
        have HSTG : Hid (StF w T6 Dw T8 Dk X1 ds1 WG) := (HSTF.out.later (bel0 _ _)).later hbG
        have HDG : Hid (BoxD T10 Dd WG) := (HDF.out.later (bel0 _ _)).later hbG
        have HTt : Hid (WG.cell? ⟨WF.heap.size, 2, none⟩ = some (.int .i64 Dw.E)) := by
          unfold Hid
          rw [(bcell hbG).1 _ _ (by simp)]
          simp [go_sem]
        have x0 := HTt.out
        have x1 : WG.cell? ⟨T10, 2, none⟩ = some (.int .i64 Dw.E) := by have := HDG.out.c2; rw [HDd.out] at this; exact this
        have y0 := HSTG.out.want.c0
        have y1 := HSTG.out.want.c1
        have y2 := HSTG.out.want.c2
        have v0 := HSTG.out.k.c0
        have v1 := HSTG.out.k.c1
        have v2 := HSTG.out.k.c2
        clear hbG z0 z1 z2 hltF HSTF HDF HRt HTt
        go_wp2_with fail
        refine (mulDS_any Dw.g Dk.g Dw.a Dk.a Dw.c Dk.c Dw.zs Dk.zs Dw.E Dk.E _ (by omega) (by have := HRk.out.2.2; omega) HSTG.out.want.row HSTG.out.k.row HR.out.len.2 HRk.out.2.1).mono ?_
        rintro e WH ⟨Gp, Zp, Ep, Kp, ap, cp, rfl, hresP, hrp, _, hbH⟩
        obtain ⟨Dp, hDp⟩ : ∃ Dp : DV, Dp = ⟨Gp, ap, cp, Zp, Ep⟩ := ⟨_, rfl⟩
        obtain ⟨WI, hWI⟩ : ∃ WI, WI = WH.alloc (.cells #[.bool Gp, .slice ap Zp.length cp, .int .i64 Ep] 29) := ⟨_, rfl⟩
        obtain ⟨T20, hT20⟩ : ∃ T20, T20 = WH.heap.size := ⟨_, rfl⟩
        have hbI : Below WH.heap.size WH WI := by rw [hWI]; exact bel0 _ _
        have HRP : Hid (ResD true (atK 100000 (numD Dw * numD Dk) (Dw.E + Dk.E)) Dp.g Dp.zs Dp.E Kp) := by
          unfold Hid
          rw [HR.out.good.2.1, HRk.out.1] at hresP
          rw [hDp]
          exact hresP
        have HSTI : Hid (StF w T6 Dw T8 Dk X1 ds1 WI) := (HSTG.out.later hbH).later hbI
        have HDI : Hid (BoxD T20 Dp WI) := by unfold Hid; rw [hDp, hWI, hT20]; exact BoxD.start (d := ⟨Gp, ap, cp, Zp, Ep⟩) hrp _
        clear hresP hrp hbH hbI HSTG HDG x0 x1 y0 y1 y2 v0 v1 v2
        go_wp2_with fail
        rw [← hWI, ← hT20]
        clear hWI hT20 hDp
        refine (HC0.out.later HSTI.out.bel).draw.mono ?_
        rintro e WJ ⟨X5, c5, ds5, rfl, hs5, hl5, hsm5, hbJ⟩
        have HL5 : Hid (LstW WI.heap.size X5 ds5 WJ) := hl5
        have HM5 : Hid (Small ds5) := hsm5
        have HBJ : Hid (Below WI.heap.size WI WJ) := hbJ
        have HRC : Hid (RelC 20000 ds1 Dk 0 ds5) := RelC.start (same_of HS1.out hs5) HLn1.out
        have hlen5 : ds5.length = 9 := HRC.out.1
        rw [hlen5]
        have HML : Hid (∀ j, j < 9 → ds1.getD j default ∈ ds1) := fun j hj => by rw [List.getD_eq_getElem?_getD, List.getElem?_eq_getElem (by rw [HLn1.out]; exact hj)]; exact List.getElem_mem _
        clear hs5 hl5 hsm5 hbJ hlen5
        go_wp2
        go_loopw [23, 24, 25, 26, 27] (fun si _ _ _ _ wr => ∃ (i : Nat) (dsc : List DV), i ≤ 3 ∧ si = .int .i64 i ∧ Hid (LstW WI.heap.size X5 dsc wr) ∧ Hid (Small dsc) ∧ Hid (RelC 20000 ds1 Dk i dsc) ∧ Hid (Below WI.heap.size WI wr)) (fun si _ _ _ _ _ => 3 - (intOf si).toNat)
        case atStart => exact ⟨0, ds5, by decide, rfl, HL5, HM5, HRC, HBJ⟩
        case round =>
          obtain ⟨i, dsc, hi3, rfl, hLc, hMc, hRc, hBc⟩ := hrel
          clear HL5 HM5 HBJ HRC
          have HSTr : Hid (StF w T6 Dw T8 Dk X1 ds1 wr) := HSTI.out.later hBc.out
          by_cases hlt : i < 3
          · have hib : (i : Int) < 3 := by omega
            have hi1 : (i : Int) < ds1.length := by rw [HLn1.out]; omega
            have hi9 : (i : Int) < 9 := by omega
            have hi1n : i < ds1.length := by rw [HLn1.out]; omega
            have hicn : i < dsc.length := by rw [hRc.out.1]; omega
            have hok : (ds1.getD i default).ok = true := List.all_eq_true.1 HOk1.out _ (HML.out i (by omega))
            have hsm : U32 (ds1.getD i default).zs ∧ (ds1.getD i default).zs.length ≤ 513 := HM1.out _ (HML.out i (by omega))
            have hst := hRc.out.at (show i < 9 by omega)
            have HH0 : ∀ w', Below wr.heap.size wr w' → w'.cell? ⟨X1, i * 3, none⟩ = some (.bool (ds1.getD i default).g) ∧ w'.cell? ⟨X1, i * 3 + 1, none⟩ = some (.slice (ds1.getD i default).a (ds1.getD i default).zs.length (ds1.getD i default).c) ∧ w'.cell? ⟨X1, i * 3 + 2, none⟩ = some (.int .i64 (ds1.getD i default).E) ∧ w'.cell? ⟨T8, 0, none⟩ = some (.bool Dk.g) ∧ w'.cell? ⟨T8, 1, none⟩ = some (.slice Dk.a Dk.zs.length Dk.c) ∧ w'.cell? ⟨T8, 2, none⟩ = some (.int .i64 Dk.E) ∧ Below wr.heap.size wr w' := fun w' hw =>
              have S := HSTr.out.later hw
              ⟨S.m.c0 i hi1n, S.m.c1 i hi1n, S.m.c2 i hi1n, S.k.c0, S.k.c1, S.k.c2, hw⟩
            have hrow := HSTr.out.m.row i hi1n
            obtain ⟨d, hd⟩ : ∃ d, d = ds1.getD i default := ⟨_, rfl⟩
            rw [← hd] at hok hsm hst HH0 hrow
            have HH : Hid (∀ w', Below wr.heap.size wr w' → w'.cell? ⟨X1, i * 3, none⟩ = some (.bool d.g) ∧ w'.cell? ⟨X1, i * 3 + 1, none⟩ = some (.slice d.a d.zs.length d.c) ∧ w'.cell? ⟨X1, i * 3 + 2, none⟩ = some (.int .i64 d.E) ∧ w'.cell? ⟨T8, 0, none⟩ = some (.bool Dk.g) ∧ w'.cell? ⟨T8, 1, none⟩ = some (.slice Dk.a Dk.zs.length Dk.c) ∧ w'.cell? ⟨T8, 2, none⟩ = some (.int .i64 Dk.E) ∧ Below wr.heap.size wr w') := HH0
            have HRow : Hid (RowAt .u32 wr d.a d.zs) := hrow
            have HOKd : Hid (d.ok = true) := hok
            have HSMd : Hid (U32 d.zs ∧ d.zs.length ≤ 513) := hsm
            have HSTd : Hid (strip (dsc.getD i default) = strip d) := hst
            have HDd2 : Hid (d = ds1.getD i default) := hd
            have hdl : d.zs.length ≤ 1048576 := by omega
            have hkl : Dk.zs.length ≤ 1048576 := by have := HRk.out.2.2; omega
            clear hok hsm hst HH0 hrow hd
            go_upto_region 29 with fail
            go_cut [24, 25] from 222 to 256 (fun _ s25 wx => ∃ (G3 : Bool) (Z3 : List Int) (E3 K3 : Int), s25 = .int .i64 K3 ∧ Hid (ResD true (atK 100000 (numD d * numD Dk) (d.E + Dk.E)) G3 Z3 E3 K3) ∧ Hid (Below wr.heap.size wr wx))
            case first =>
              go_region_held3 (fun w' => w'.cell? ⟨X1, i * 3, none⟩ = some (.bool d.g) ∧ w'.cell? ⟨X1, i * 3 + 1, none⟩ = some (.slice d.a d.zs.length d.c) ∧ w'.cell? ⟨X1, i * 3 + 2, none⟩ = some (.int .i64 d.E) ∧ w'.cell? ⟨T8, 0, none⟩ = some (.bool Dk.g) ∧ w'.cell? ⟨T8, 1, none⟩ = some (.slice Dk.a Dk.zs.length Dk.c) ∧ w'.cell? ⟨T8, 2, none⟩ = some (.int .i64 Dk.E) ∧ Below wr.heap.size wr w')
                (first | exact HH.out _ (Below.refl _ _).drew | exact HH.out _ (by assumption) | exact HH.out _ (Below.alloc (by assumption) (Below.size (by assumption)) _) | exact HH.out _ (Below.alloc (held7 (by assumption)) (Below.size (held7 (by assumption))) _) | exact HH.out _ (Below.setCell (Below.setCell (Below.setCell (by assumption) (by first | (simp; done) | (simp; omega)) _) (by first | (simp; done) | (simp; omega)) _) (by first | (simp; done) | (simp; omega)) _))
                (first | (go_at_call 12; refine (mulDS_any d.g Dk.g d.a Dk.a d.c Dk.c d.zs Dk.zs d.E Dk.E _ hdl hkl (HRow.out.later (held7 (by assumption))) (HSTr.out.k.row.later (held7 (by assumption))) HSMd.out.1 HRk.out.2.1).mono ?_; rintro e W3 ⟨G3, Z3, E3, K3, a3, c3', rfl, hres3, hrw3, _, hb3⟩; have hB3 : Below wr.heap.size wr W3 := Below.trans (held7 (by assumption)) (Below.mono hb3 (Below.size (held7 (by assumption)))); (first | (have hhc := (Has3.new wr 29).later (Below.refl _ _).drew; have hh := hhc.later hb3) | have hh : True := trivial); (try have r1 := hh.r1); (try have r2 := hh.r2); (try have r3 := hh.r3); (try have r4 := hh.r4)))
              all_goals
                have HR3 : Hid (ResD true (atK 100000 (numD d * numD Dk) (d.E + Dk.E)) G3 Z3 E3 K3) := by
                  unfold Hid
                  rw [show validD d.g d.zs d.E = true from HOKd.out, HRk.out.1] at hres3
                  exact hres3
                go_wp2_with fail
                go_meet
                case rel =>
                  refine ⟨G3, Z3, E3, K3, rfl, HR3, ?_⟩
                  first
                    | exact hB3.alloc hB3.size _
                    | exact ((hB3.setCell (by simp) _).setCell (by simp) _).setCell (by simp) _
            case rest =>
              obtain ⟨G3, Z3, E3, K3, rfl, HR3, HB3⟩ := hcut
              obtain ⟨Wq, hWq⟩ : ∃ Wq, Wq = wc := ⟨_, rfl⟩
              subst hWq
              have HSTc : Hid (StF w T6 Dw T8 Dk X1 ds1 Wq) := HSTr.out.later HB3.out
              have HLc : Hid (LstW WI.heap.size X5 dsc Wq) := hLc.out.later HB3.out
              have HBc : Hid (Below WI.heap.size WI Wq) := hBc.out.trans (HB3.out.mono hBc.out.size)
              clear HH HSTr hLc hBc HRow HB3
              by_cases hK3 : K3 = 0
              · subst hK3
                have hrow := HLc.out.row i hicn
                have hmc : dsc.getD i default ∈ dsc := by rw [List.getD_eq_getElem?_getD, List.getElem?_eq_getElem hicn]; exact List.getElem_mem _
                have hsc := hMc.out _ hmc
                have HH0 : ∀ w', Below Wq.heap.size Wq w' → w'.cell? ⟨X5, i * 3, none⟩ = some (.bool (dsc.getD i default).g) ∧ w'.cell? ⟨X5, i * 3 + 1, none⟩ = some (.slice (dsc.getD i default).a (dsc.getD i default).zs.length (dsc.getD i default).c) ∧ w'.cell? ⟨X5, i * 3 + 2, none⟩ = some (.int .i64 (dsc.getD i default).E) ∧ w'.cell? ⟨T8, 0, none⟩ = some (.bool Dk.g) ∧ w'.cell? ⟨T8, 1, none⟩ = some (.slice Dk.a Dk.zs.length Dk.c) ∧ w'.cell? ⟨T8, 2, none⟩ = some (.int .i64 Dk.E) ∧ Below Wq.heap.size Wq w' := fun w' hw =>
                  have S := HSTc.out.later hw
                  have L := HLc.out.later hw
                  ⟨L.c0 i hicn, L.c1 i hicn, L.c2 i hicn, S.k.c0, S.k.c1, S.k.c2, hw⟩
                obtain ⟨dc, hdc⟩ : ∃ dc, dc = dsc.getD i default := ⟨_, rfl⟩
                have HSTd2 := HSTd.out
                rw [← hdc] at hrow hsc HH0 HSTd2
                have HH : Hid (∀ w', Below Wq.heap.size Wq w' → w'.cell? ⟨X5, i * 3, none⟩ = some (.bool dc.g) ∧ w'.cell? ⟨X5, i * 3 + 1, none⟩ = some (.slice dc.a dc.zs.length dc.c) ∧ w'.cell? ⟨X5, i * 3 + 2, none⟩ = some (.int .i64 dc.E) ∧ w'.cell? ⟨T8, 0, none⟩ = some (.bool Dk.g) ∧ w'.cell? ⟨T8, 1, none⟩ = some (.slice Dk.a Dk.zs.length Dk.c) ∧ w'.cell? ⟨T8, 2, none⟩ = some (.int .i64 Dk.E) ∧ Below Wq.heap.size Wq w') := HH0
                have HRow : Hid (RowAt .u32 Wq dc.a dc.zs) := hrow
                have HSMc : Hid (U32 dc.zs ∧ dc.zs.length ≤ 513) := hsc
                have HSN : Hid (strip dc = strip d) := HSTd2
                have hcl : dc.zs.length ≤ 1048576 := by omega
                have hkl2 : Dk.zs.length ≤ 1000000 := by have := HRk.out.2.2; omega
                clear hrow hmc hsc HH0 HSTd2 hdc
                go_upto_region 32 with fail
                go_cut [26, 27] from 222 to 256 (fun s26 s27 wx => ∃ (T26 : Nat) (ax : Option Addr) (cx : Nat), s26 = .pointer (some ⟨T26, 0, none⟩) ∧ s27 = .int .i64 0 ∧ Hid (BoxD T26 ⟨G3, ax, cx, Z3, E3⟩ wx) ∧ Hid (Far Wq.heap.size ax Z3) ∧ Hid (Below Wq.heap.size Wq wx))
                case first =>
                  go_region_held3 (fun w' => w'.cell? ⟨X5, i * 3, none⟩ = some (.bool dc.g) ∧ w'.cell? ⟨X5, i * 3 + 1, none⟩ = some (.slice dc.a dc.zs.length dc.c) ∧ w'.cell? ⟨X5, i * 3 + 2, none⟩ = some (.int .i64 dc.E) ∧ w'.cell? ⟨T8, 0, none⟩ = some (.bool Dk.g) ∧ w'.cell? ⟨T8, 1, none⟩ = some (.slice Dk.a Dk.zs.length Dk.c) ∧ w'.cell? ⟨T8, 2, none⟩ = some (.int .i64 Dk.E) ∧ Below Wq.heap.size Wq w')
                    (first | exact HH.out _ (Below.refl _ _).drew | exact HH.out _ (by assumption) | exact HH.out _ (Below.alloc (by assumption) (Below.size (by assumption)) _) | exact HH.out _ (Below.alloc (held7 (by assumption)) (Below.size (held7 (by assumption))) _) | exact HH.out _ (Below.setCell (Below.setCell (Below.setCell (by assumption) (by first | (simp; done) | (simp; omega)) _) (by first | (simp; done) | (simp; omega)) _) (by first | (simp; done) | (simp; omega)) _))
                    (first
                      | (go_at_call 14; refine (copyW_any Dk.g Dk.a Dk.c Dk.zs _ hkl2 (HSTc.out.k.row.later (held7 (by assumption)))).mono ?_; rintro e W4 ⟨a4, c4', rfl, _, _, _, hr4, hb4⟩; have hB4 : Below Wq.heap.size Wq W4 := Below.trans (held7 (by assumption)) (Below.mono hb4 (Below.size (held7 (by assumption)))); have hs4 := hB4.size)
                      | (go_at_call 13; refine (mulDI_any dc.g Dk.g dc.a a4 dc.c c4' dc.zs Dk.zs dc.E Dk.E _ hcl hkl (HRow.out.later (held7 (by assumption))) ?_ HSMc.out.1 HRk.out.2.1 (HT.out.later (HSTc.out.bel.trans (Below.mono (held7 (by assumption)) HSTc.out.bel.size)))).mono ?_; (first | exact hr4.row | exact hr4.row.later (bel0 _ _)); rintro e W5' ⟨G4, Z4, E4, K4, a5, c5', rfl, hres4, hrw4, hb5⟩; have hB5 : Below Wq.heap.size Wq W5' := Below.trans (held7 (by assumption)) (Below.mono hb5 (Below.size (held7 (by assumption)))); (first | (have hhc := ((Has3.new Wq 29).later (Below.refl _ _).drew).later hb4; have hh := hhc.later hb5) | (have hhc := Has3.new W4 29; have hh := hhc.later hb5) | have hh : True := trivial); (try have r1 := hh.r1); (try have r2 := hh.r2); (try have r3 := hh.r3); (try have r4 := hh.r4)))
                  all_goals
                    have hR4 : ResD true (atK 100000 (numD d * numD Dk) (d.E + Dk.E)) G4 Z4 E4 K4 := by
                      obtain ⟨n1, n2, _, _, n5, _⟩ := strip_num HSN.out
                      rw [show validD dc.g dc.zs dc.E = true from n5.trans HOKd.out, HRk.out.1] at hres4
                      rw [← n1, ← n2]
                      exact hres4
                    obtain ⟨eG, eZ, eE, eK⟩ := hR4.inj HR3.out
                    subst eG eZ eE eK
                    go_wp2_with fail
                    go_meet
                    case rel =>
                      refine ⟨_, a5, c5', rfl, rfl, ?_, hrw4.far (Nat.le_refl _) (by first | exact hs4 | (simp; omega)), ?_⟩
                      · first
                          | exact BoxD.start (d := ⟨G4, a5, c5', Z4, E4⟩) hrw4.row _
                          | exact BoxD.set (d := ⟨G4, a5, c5', Z4, E4⟩) hh hrw4.row (hrw4.far (Nat.le_refl _) (Nat.le_refl _)) hhc.lt
                      · first
                          | exact hB5.alloc hB5.size _
                          | exact ((hB5.setCell (by first | (simp; done) | (simp; omega)) _).setCell (by first | (simp; done) | (simp; omega)) _).setCell (by first | (simp; done) | (simp; omega)) _
                case rest =>
                  obtain ⟨T26, ax, cx, rfl, rfl, HBx, HFx, HBq⟩ := hcut
                  have HLq : Hid (LstW WI.heap.size X5 dsc wc) := HLc.out.later HBq.out
                  have HBn0 : Hid (Below WI.heap.size WI wc) := HBc.out.trans (HBq.out.mono HBc.out.size)
                  have hXq : X5 < Wq.heap.size := HLc.out.lt
                  have hXI : WI.heap.size ≤ X5 := HLc.out.xlo
                  have b0 : wc.cell? ⟨T26, 0, none⟩ = some (.bool G3) := HBx.out.c0
                  have b1 : wc.cell? ⟨T26, 1, none⟩ = some (.slice ax Z3.length cx) := HBx.out.c1
                  have b2 : wc.cell? ⟨T26, 2, none⟩ = some (.int .i64 E3) := HBx.out.c2
                  have HLn : Hid (LstW WI.heap.size X5 (dsc.set i ⟨G3, ax, cx, Z3, E3⟩) (((wc.setCell ⟨X5, i * 3, none⟩ (.bool G3)).setCell ⟨X5, i * 3 + 1, none⟩ (.slice ax Z3.length cx)).setCell ⟨X5, i * 3 + 2, none⟩ (.int .i64 E3))) := HLq.out.set (k := i) (d := ⟨G3, ax, cx, Z3, E3⟩) hicn HBx.out.row (HFx.out.down HBc.out.size) (fun b o e1 e2 => far_ne HFx.out e1 e2 hXq)
                  have HMn : Hid (Small (dsc.set i ⟨G3, ax, cx, Z3, E3⟩)) := hMc.out.set i HR3.out.len.2 (by have := HR3.out.len.1; show Z3.length ≤ 513; omega)
                  have HRn : Hid (RelC 20000 ds1 Dk (i + 1) (dsc.set i ⟨G3, ax, cx, Z3, E3⟩)) := by
                    obtain ⟨_, g2, g3, g4⟩ := HR3.out.good
                    refine hRc.out.step hlt g2 ?_
                    rw [← HDd2.out]
                    exact prod_val (x := ⟨G3, ax, cx, Z3, E3⟩) (low_of_ok HOKd.out) (show LowE Dk from (validD_parts HRk.out.1).2.1) (show LowE ⟨G3, ax, cx, Z3, E3⟩ from g4) rfl g3
                  have HBn : Hid (Below WI.heap.size WI (((wc.setCell ⟨X5, i * 3, none⟩ (.bool G3)).setCell ⟨X5, i * 3 + 1, none⟩ (.slice ax Z3.length cx)).setCell ⟨X5, i * 3 + 2, none⟩ (.int .i64 E3))) := ((HBn0.out.setCell (by simpa using hXI) _).setCell (by simpa using hXI) _).setCell (by simpa using hXI) _
                  have p0 := HLq.out.c0 i hicn
                  have p1 := HLq.out.c1 i hicn
                  have p2 := HLq.out.c2 i hicn
                  have f0 := HLq.out.fr (i * 3) (by omega)
                  have f1 := HLq.out.fr (i * 3 + 1) (by omega)
                  have f2 := HLq.out.fr (i * 3 + 2) (by omega)
                  clear HLq HBx HFx HBq HLc HBc HSTc HH HRow HBn0 hMc hRc
                  go_wp2
                  go_roundw
                  case rel => exact ⟨i + 1, _, by omega, by go_num, HLn, HMn, HRn, HBn⟩
                  case measure => simp [intOf]; omega
              · have hK3b : (K3 != 0) = true := by simp [hK3]
                go_wp2
                go_ret
                exact ⟨rfl, HSTc.out.bel⟩
          · have hi4 : i = 3 := by omega
            subst hi4
            obtain ⟨hokc, hdetc⟩ := hRc.out.whole HLn1.out HOk1.out
            by_cases hKp : Kp = 0
            · subst hKp
              have HOKc : Hid (okN dsc = true) := hokc
              have HPV : Hid (atK 100000 (numD Dw * numD Dk) (Dw.E + Dk.E) = detK 100000 dsc) := det_prod (show LowE Dw from HR.out.good.2.2.2) (validD_parts HRk.out.1).2.1 rfl HR.out.good.2.2.1 hdetc
              have HL9 : Hid (dsc.length = 9) := hRc.out.1
              have HDr : Hid (BoxD T20 Dp wr) := HDI.out.later hBc.out
              have HU := detI_row (W := wr) (X := X5) (c := c5) hMc.out hLc.out.rowD (HT.out.later HSTr.out.bel)
              rw [HL9.out] at HU
              have HUU : Hid (Calls Tryd.prog 10 #[.slice (some ⟨X5, 0, none⟩) 9 c5] wr fun e w' => OutDI wr (okN dsc) (detK 100000 dsc) e w') := HU
              clear HU hokc hdetc hRc hLc hMc
              go_wp2_with fail
              refine HUU.out.mono ?_
              rintro e WU ⟨Gu, Zu, Eu, Ku, au, cu, rfl, hresU, hrU, hbU⟩
              have hRu : ResD true (atK 100000 (numD Dw * numD Dk) (Dw.E + Dk.E)) Gu Zu Eu Ku := by
                rw [HOKc.out, ← HPV.out] at hresU
                exact hresU
              obtain ⟨eG, eZ, eE, eK⟩ := hRu.inj HRP.out
              subst eG eZ eE eK
              have HDu : Hid (BoxD T20 Dp WU) := HDr.out.later hbU
              have HBu : Hid (Below w.heap.size w WU) := HSTr.out.bel.trans (hbU.mono HSTr.out.bel.size)
              have HRu : Hid (RowAt .u32 WU au Dp.zs) := hrU.row
              have y0 := HDu.out.c0
              have y1 := HDu.out.c1
              have y2 := HDu.out.c2
              have hltU : T20 < WU.heap.size := HDu.out.lt
              have hpl : Dp.zs.length ≤ 512 := HRP.out.len.1
              have hEE2 : (Dp.E == Dp.E) = true := by simp
              clear hresU hrU hbU hRu HDr HUU HSTr
              go_wp2_with fail
              refine (same_any Dp.g au Dp.a cu Dp.c Dp.zs _ (by unfold maxLen; omega) (HRu.out.later (bel0 _ _)) (HDu.out.row.later (bel0 _ _))).mono ?_
              rintro e WV ⟨rfl, hbV⟩
              have x0 : WV.cell? ⟨WU.heap.size, 2, none⟩ = some (.int .i64 Dp.E) := by rw [(bcell hbV).1 _ _ (by simp)]; simp [go_sem]
              have x1 : WV.cell? ⟨T20, 2, none⟩ = some (.int .i64 Dp.E) := ((HDu.out.later (bel0 _ _)).later hbV).c2
              have HBv : Hid (Below w.heap.size w WV) := (HBu.out.alloc HBu.out.size _).trans (hbV.mono (by have := HBu.out.size; simp; omega))
              clear hbV y0 y1 y2
              go_wp2
              go_ret
              exact ⟨by simp, HBv.out⟩
            · have hKpb : (Kp != 0) = true := by simp [hKp]
              clear hokc hdetc
              go_wp2
              go_ret
              exact ⟨rfl, HSTr.out.bel⟩
    · have hKb : (K != 0) = false := by rw [hK]; rfl
      have hKkb : (Kk != 0) = true := by simp [hKk]
      clear hK
      go_wp2
      go_ret
      exact ⟨rfl, HB5.out.alloc HB5.out.size _⟩
  · have hKb : (K != 0) = true := by simp [hK]
    go_wp2
    go_ret
    exact ⟨rfl, HB5.out.alloc HB5.out.size _⟩

set_option maxRecDepth 100000 in
set_option maxHeartbeats 4000000 in
theorem lawFD_far (a a' : Option Addr) (n n' c c' : Nat) (w : World) (h : (1048576 : Int) < n ∨ (1048576 : Int) < n') :
    Calls Tryd.prog 3 #[.slice a n c, .slice a' n' c'] w fun e w' => e = .returned (.bool true) ∧ Below w.heap.size w w' := by
  by_cases h0 : (1048576 : Int) < n
  · have h1 : (n : Int) > 1048576 := h0
    clear h
    go_enter Tryd.func3, Tryd.ntmps3
    go_wp2
    go_ret
    exact ⟨rfl, Below.refl _ _⟩
  · have h2 : (1048576 : Int) < n' := h.resolve_left h0
    have h1 : ¬ (n : Int) > 1048576 := h0
    have h3 : (n' : Int) > 1048576 := h2
    clear h
    go_enter Tryd.func3, Tryd.ntmps3
    go_wp2
    go_ret
    exact ⟨rfl, Below.refl _ _⟩

theorem lawFD_all (a a' : Option Addr) (c c' : Nat) (bs bs' : List Int) (w : World) (hc : bs.length ≤ c) (hcm : c ≤ maxLen) (hnil : a = none → c = 0) (hr : RowAt .u8 w a bs) (hb : Dig 256 bs) (hc' : bs'.length ≤ c') (hcm' : c' ≤ maxLen) (hnil' : a' = none → c' = 0) (hr' : RowAt .u8 w a' bs') (hb' : Dig 256 bs') (hT : Tab w) :
    Calls Tryd.prog 3 #[.slice a bs.length c, .slice a' bs'.length c'] w fun e w' => e = .returned (.bool true) ∧ Below w.heap.size w w' := by
  by_cases h : (1048576 : Int) < bs.length ∨ (1048576 : Int) < bs'.length
  · exact lawFD_far a a' _ _ c c' w h
  · exact lawFD_any a a' c c' bs bs' w ⟨by omega, hc, hcm, hnil, hr, hb⟩ ⟨by omega, hc', hcm', hnil', hr', hb'⟩ hT

end Go.Proofs.YtladfpljnaippabDoor
