/-
  The program's appendPoints and EncodeScene.
-/
import Derived.Test.YtcjdnomhnlbmbaaIqDIeN
import Derived.Test.YtcjdnomhnlbmbaaIvSLawEs
import Derived.Test.YtcjdnomhnlbmbaaIvSLawEs
namespace Go.Proofs.Ytcjdnomhnlbmbaa
open Go.RowKit

set_option maxRecDepth 100000 in
set_option maxHeartbeats 8000000 in
theorem appPts_any (base g n0 c0 : Nat) (ys : List Int) (a : Option Addr) (n c : Nat) (zs : List Int) (w : World) (hn : n ≤ 20000) (hl : zs.length = n * 3) (hu : U32 zs) (hz : RowAt .u32 w a zs) (hap : ∀ b off, a = some ⟨b, off, none⟩ → zs ≠ [] → g ≠ b) (hy : ys.length ≤ 500000) (ho : OwnY w base (.slice (some ⟨g, 0, none⟩) n0 c0) ys) (hb : base ≤ w.heap.size) :
    Calls Try.prog 77 #[.slice (some ⟨g, 0, none⟩) n0 c0, .slice a n c] w fun e w' => MoreY w base (some g) (ys ++ flatB zs) e w' := by
  have HL : Hid (zs.length = n * 3) := hl
  have HZ : Hid (RowAt .u32 w a zs) := hz
  have HU : Hid (U32 zs) := hu
  have HA : Hid (∀ b off, a = some ⟨b, off, none⟩ → zs ≠ [] → g ≠ b) := hap
  have HO : Hid (OwnY w base (.slice (some ⟨g, 0, none⟩) n0 c0) ys) := ho
  clear hl hz hu hap ho
  go_enter Try.func77, Try.ntmps77
  go_wp2
  go_loopw [0, 6, 9] (fun so _ si wr => ∃ (i : Nat) (gi ni ci : Nat), i ≤ n ∧ si = .int .i64 i ∧ so = .slice (some ⟨gi, 0, none⟩) ni ci ∧ Hid (GrewY w base (some g) gi (ys ++ flatB (zs.take (i * 3))) ni ci wr)) (fun _ _ si _ => n - (intOf si).toNat)
  case atStart => exact ⟨0, g, n0, c0, Nat.zero_le _, rfl, rfl, (GrewY.begin HO.out).re (by simp [flatB])⟩
  case round =>
    obtain ⟨i, gi, ni, ci, hi, rfl, rfl, hG⟩ := hrel
    by_cases hlt : i < n
    · have hle : ∀ j, j < 3 → i * 3 + j < zs.length := by intro j hj; rw [HL.out]; omega
      have hz1 : RowAt .u32 wr a zs := gb_row hG.out.grown HZ.out (fun b off e1 e2 e3 => HA.out b off e1 e2 (Option.some.inj e3))
      obtain ⟨b, off, rfl, hbl, hc⟩ := hz1.resolve_left (by intro h; have := hle 0 (by omega); rw [h] at this; simp at this)
      obtain ⟨x0, hx0⟩ : ∃ x, x = zs.getD (i * 3) 0 := ⟨_, rfl⟩
      have q0 : wr.cell? ⟨b, off + i * 3, none⟩ = some (.int .u32 x0) := by
        have := hc (i * 3 + 0) (hle 0 (by omega))
        rw [hx0]
        simpa [Nat.add_assoc] using this
      have x0a : 0 ≤ x0 := by rw [hx0]; exact (HU.out.at _).1
      have x0b : x0 < 4294967296 := by rw [hx0]; exact (HU.out.at _).2
      obtain ⟨x1, hx1⟩ : ∃ x, x = zs.getD (i * 3 + 1) 0 := ⟨_, rfl⟩
      have q1 : wr.cell? ⟨b, off + i * 3 + 1, none⟩ = some (.int .u32 x1) := by
        have := hc (i * 3 + 1) (hle 1 (by omega))
        rw [hx1]
        simpa [Nat.add_assoc] using this
      have x1a : 0 ≤ x1 := by rw [hx1]; exact (HU.out.at _).1
      have x1b : x1 < 4294967296 := by rw [hx1]; exact (HU.out.at _).2
      obtain ⟨x2, hx2⟩ : ∃ x, x = zs.getD (i * 3 + 2) 0 := ⟨_, rfl⟩
      have q2 : wr.cell? ⟨b, off + i * 3 + 2, none⟩ = some (.int .u32 x2) := by
        have := hc (i * 3 + 2) (hle 2 (by omega))
        rw [hx2]
        simpa [Nat.add_assoc] using this
      have x2a : 0 ≤ x2 := by rw [hx2]; exact (HU.out.at _).1
      have x2b : x2 < 4294967296 := by rw [hx2]; exact (HU.out.at _).2
      have HF : Hid (ys ++ flatB (zs.take ((i + 1) * 3)) = (((ys ++ flatB (zs.take (i * 3))) ++ leB x0 4) ++ leB x1 4) ++ leB x2 4) := by
        unfold Hid
        rw [hx0, hx1, hx2, flat3 (m := i * 3) (by have := hle 2 (by omega); omega) (m1 := (i + 1) * 3) (by omega)]
        simp only [ptB, List.append_assoc]
      have hyl : (ys ++ flatB (zs.take (i * 3))).length ≤ 900000 := by
        rw [List.length_append, flatB_length, List.length_take, HL.out]
        omega
      obtain ⟨Y, hY⟩ : ∃ Y, Y = ys ++ flatB (zs.take (i * 3)) := ⟨_, rfl⟩
      rw [← hY] at hyl HF hG
      have hib : (i : Int) < n := by omega
      have hgl := hG.out.lt
      have hsz := hG.out.grown.size
      have G0 := hG.out.call (bel0 wr (.cells #[.int .u32 x0, .int .u32 x1, .int .u32 x2] 84))
      have HG0 : Hid (GrewY w base (some g) gi Y ni ci (wr.alloc (.cells #[.int .u32 x0, .int .u32 x1, .int .u32 x2] 84))) := G0
      clear hc hle hbl hY hx0 hx1 hx2 hz1 hG G0
      go_wp2_with fail
      refine (appNum_any base (.slice (some ⟨gi, 0, none⟩) ni ci) Y x0 4 _ x0a x0b (by decide) (by decide) (by omega) (.inl HG0.out.own) (by simp; omega)).mono ?_
      rintro e w1 ⟨g1, n1, c1, rfl, k1⟩
      have L1 : g1 ≠ wr.heap.size ∧ wr.heap.size + 1 ≤ w1.heap.size := by
        have h1 := k1.grown.size
        simp at h1
        refine ⟨?_, h1⟩
        rcases k1.at_ with h2 | h2
        · have := Option.some.inj h2
          simp at this
          omega
        · simp at h2
          omega
      have c1' : w1.cell? ⟨wr.heap.size, 1, none⟩ = some (.int .u32 x1) := by rw [k1.grown.cell_far ⟨wr.heap.size, 1, none⟩ (by simp) (by simp [Value.ownBlock]; omega)]; simp [go_sem]
      have c2' : w1.cell? ⟨wr.heap.size, 2, none⟩ = some (.int .u32 x2) := by rw [k1.grown.cell_far ⟨wr.heap.size, 2, none⟩ (by simp) (by simp [Value.ownBlock]; omega)]; simp [go_sem]
      have HG1 : Hid (GrewY w base (some g) g1 (Y ++ leB x0 4) n1 c1 w1) := HG0.out.next k1
      clear k1 HG0 q0 q1 q2
      go_wp2_with fail
      refine (appNum_any base (.slice (some ⟨g1, 0, none⟩) n1 c1) (Y ++ leB x0 4) x1 4 _ x1a x1b (by decide) (by decide) (by rw [List.length_append, leB_length]; omega) (.inl HG1.out.own) (by omega)).mono ?_
      rintro e w2 ⟨g2, n2, c2, rfl, k2⟩
      have L2 : g2 ≠ wr.heap.size ∧ wr.heap.size + 1 ≤ w2.heap.size := by
        have h1 := k2.grown.size
        refine ⟨?_, by omega⟩
        rcases k2.at_ with h2 | h2
        · have := Option.some.inj h2
          simp at this
          omega
        · omega
      replace c2' : w2.cell? ⟨wr.heap.size, 2, none⟩ = some (.int .u32 x2) := by rw [k2.grown.cell_far ⟨wr.heap.size, 2, none⟩ (by simp; omega) (by simp [Value.ownBlock]; omega)]; exact c2'
      have HG2 : Hid (GrewY w base (some g) g2 ((Y ++ leB x0 4) ++ leB x1 4) n2 c2 w2) := HG1.out.next k2
      clear k2 HG1 c1'
      go_wp2_with fail
      refine (appNum_any base (.slice (some ⟨g2, 0, none⟩) n2 c2) ((Y ++ leB x0 4) ++ leB x1 4) x2 4 _ x2a x2b (by decide) (by decide) (by rw [List.length_append, leB_length, List.length_append, leB_length]; omega) (.inl HG2.out.own) (by omega)).mono ?_
      rintro e w3 ⟨g3, n3, c3, rfl, k3⟩
      have HG3 : Hid (GrewY w base (some g) g3 (((Y ++ leB x0 4) ++ leB x1 4) ++ leB x2 4) n3 c3 w3) := HG2.out.next k3
      clear k3 HG2 c2' hgl L1 L2
      go_wp2
      go_roundw
      case rel => exact ⟨i + 1, g3, n3, c3, by omega, by go_num, rfl, HG3.out.re HF.out.symm⟩
      case measure => simp [intOf]; omega
    · have hie : n = i := by omega
      subst hie
      have hG1 := hG.out
      rw [List.take_of_length_le (by rw [HL.out]; omega)] at hG1
      have HG1 : Hid (GrewY w base (some g) gi (ys ++ flatB zs) ni ci wr) := hG1
      clear hG hG1
      go_wp2
      go_ret
      exact ⟨_, _, _, rfl, HG1.out⟩

theorem EncS.form {W0 wr : World} {base : Nat} {v : Value} {ys : List Int} (h : EncS W0 base v ys wr) (hn : 0 < ys.length) : ∃ g n c, v = .slice (some ⟨g, 0, none⟩) n c ∧ base ≤ g ∧ g < wr.heap.size := by
  obtain ⟨g, c, h1, h2, h3⟩ := World.ownsRow.form h.own hn
  exact ⟨g, _, c, h1, h2, h3⟩
theorem EncS.grew {W0 wr u w' : World} {base : Nat} {v : Value} {g g' n' c' : Nat} {ys ys' : List Int} (h : EncS W0 base v ys wr) (hb : Below wr.heap.size wr u) (hg : base ≤ g) (k : GrewY u base (some g) g' ys' n' c' w') : EncS W0 base (.slice (some ⟨g', 0, none⟩) n' c') ys' w' :=
  ⟨k.own, (h.bel.trans (hb.mono h.le)).trans (gb_below k.grown (Nat.le_trans h.le hb.size) (fun j hj => by cases hj; exact hg)), Nat.le_trans (Nat.le_trans h.le hb.size) k.grown.size⟩

theorem EncS.first {W0 u w' : World} {base : Nat} {v : Value} {g' n' c' : Nat} {ys' : List Int} (hb : Below base W0 u) (hl : base ≤ u.heap.size) (hv : ∀ k, v.ownBlock = some k → base ≤ k) (k : GrewY u base v.ownBlock g' ys' n' c' w') : EncS W0 base (.slice (some ⟨g', 0, none⟩) n' c') ys' w' :=
  ⟨k.own, hb.trans (gb_below k.grown hl hv), Nat.le_trans hl k.grown.size⟩

set_option maxRecDepth 100000 in
set_option maxHeartbeats 16000000 in
theorem encI_any : EncSays 31 := by
  intro a1 a2 a3 n1 n2 n3 c1 c2 c3 z1 z2 z3 w hn hs hu1 hu2 hu3
  have HSC : Hid (ScAt w a1 a2 a3 n1 n2 n3 z1 z2 z3) := hs
  have HU1 : Hid (U32 z1) := hu1
  have HU2 : Hid (U32 z2) := hu2
  have HU3 : Hid (U32 z3) := hu3
  obtain ⟨W0, hW0⟩ : ∃ W0, W0 = w.alloc (.cells #[.slice a1 n1 c1, .slice a2 n2 c2, .slice a3 n3 c3] 51) := ⟨_, rfl⟩
  have L0 : Hid (LwS w a1 a2 a3 n1 n2 n3 c1 c2 c3 z1 z2 z3 W0) := by unfold Hid; rw [hW0]; exact LwS.start hs _
  have S0 : W0.heap.size = w.heap.size + 1 := by rw [hW0]; simp
  have HQ : Hid (∀ w', Below (w.heap.size + 1) W0 w' → w'.cell? ⟨w.heap.size, 0, none⟩ = some (.slice a1 n1 c1) ∧ w'.cell? ⟨w.heap.size, 1, none⟩ = some (.slice a2 n2 c2) ∧ w'.cell? ⟨w.heap.size, 2, none⟩ = some (.slice a3 n3 c3)) := by
    intro w' hb
    exact ⟨(hb.cell (p := ⟨w.heap.size, 0, none⟩) (by simp)).trans L0.out.bx.q0, (hb.cell (p := ⟨w.heap.size, 1, none⟩) (by simp)).trans L0.out.bx.q1, (hb.cell (p := ⟨w.heap.size, 2, none⟩) (by simp)).trans L0.out.bx.q2⟩
  clear hs hu1 hu2 hu3
  refine (?_ : Calls Try.prog 31 #[.agg #[.slice a1 n1 c1, .slice a2 n2 c2, .slice a3 n3 c3]] w fun e w' => NewY w (encV n1 n2 n3 z1 z2 z3) e w').mono (fun e w' h => h.out)
  go_enter Try.func31, Try.ntmps31
  go_wp2_with fail
  rw [← hW0]
  refine (vldI_any a1 a2 a3 n1 n2 n3 c1 c2 c3 z1 z2 z3 _ hn L0.out.sc HU1.out HU2.out HU3.out).mono ?_
  rintro e V ⟨rfl, hb1⟩
  have B1 : Hid (Below (w.heap.size + 1) W0 V) := by unfold Hid; rw [← S0]; exact hb1
  have Z1 : w.heap.size + 1 ≤ V.heap.size := by have := hb1.size; omega
  clear hb1 hW0
  cases hv : validSc n1 n2 n3 z1 z2 z3
  · go_wp2
    go_ret
    exact ⟨_, rfl, by rw [encV_bad hv]; exact OwnY.nil _ _, L0.out.bel.trans (B1.out.mono (Nat.le_succ _))⟩
  · have hb3 : n1 ≤ 40 ∧ n2 ≤ 40 ∧ n3 ≤ 4 := by
      unfold validSc at hv
      simp only [Bool.and_eq_true, decide_eq_true_eq] at hv
      exact ⟨hv.1.1.1.1.1, hv.1.1.1.2, hv.1.1.2⟩
    obtain ⟨h1, h2, h3⟩ := hb3
    have p0 : (V.alloc (.cells #[.int .u8 83, .int .u8 67, .int .u8 69, .int .u8 78] 5 (4, 5))).cell? ⟨w.heap.size, 0, none⟩ = some (.slice a1 n1 c1) := (HQ.out _ (B1.out.alloc Z1 _)).1
    have hcv := Go.Joins.run_convert_bytes_const_at (P := Try.prog) V 22 5 #[.int .u8 83, .int .u8 67, .int .u8 69, .int .u8 78] 4 4 V.heap.size rfl Try.underlying22 Try.underlying5
    have R0 : Hid (∀ t fr, RowAt .u8 (V.alloc (.cells #[.int .u8 83, .int .u8 67, .int .u8 69, .int .u8 78] t fr)) (some ⟨V.heap.size, 0, none⟩) [83, 67, 69, 78]) := fun t fr => row_scen V t fr rfl
    have HV : Hid (encV n1 n2 n3 z1 z2 z3 = encSc n1 n2 n3 z1 z2 z3) := encV_ok hv
    go_wp2_with fail
    refine (appNum_any (w.heap.size + 1) _ [83, 67, 69, 78] n1 2 _ (by omega) (by omega) (by decide) (by decide) (by decide) (.inr ⟨_, rfl, R0.out _ _, by decide⟩) (by simp; omega)).mono ?_
    rintro e w1 ⟨g1, m1, k1, rfl, hk⟩
    have E1 : Hid (EncS W0 (w.heap.size + 1) (.slice (some ⟨g1, 0, none⟩) m1 k1) ([83, 67, 69, 78] ++ leB n1 2) w1) := EncS.first (B1.out.alloc Z1 _) (by simp; omega) (fun k hk => by simp [Value.ownBlock] at hk; omega) hk
    have G1 := hk.lt.1
    clear p0
    obtain ⟨p0, p1, p2⟩ := HQ.out w1 E1.out.bel
    clear hk B1 R0 hcv
    go_wp2_with fail
    refine (appNum_any (w.heap.size + 1) (.slice (some ⟨g1, 0, none⟩) m1 k1) ([83, 67, 69, 78] ++ leB n1 2) n2 2 _ (by omega) (by omega) (by decide) (by decide) (by simp [leB_length]) (.inl E1.out.own) E1.out.le).mono ?_
    rintro e w2 ⟨g2, m2, k2, rfl, hk⟩
    have E2 : Hid (EncS W0 (w.heap.size + 1) (.slice (some ⟨g2, 0, none⟩) m2 k2) ([83, 67, 69, 78] ++ leB n1 2 ++ leB n2 2) w2) := E1.out.grew (Below.refl _ _) G1 hk
    have G2 := hk.lt.1
    obtain ⟨p0, p1, p2⟩ := HQ.out w2 E2.out.bel
    clear hk E1
    go_wp2_with fail
    refine (appNum_any (w.heap.size + 1) (.slice (some ⟨g2, 0, none⟩) m2 k2) ([83, 67, 69, 78] ++ leB n1 2 ++ leB n2 2) n3 1 _ (by omega) (by omega) (by decide) (by decide) (by simp [leB_length]) (.inl E2.out.own) E2.out.le).mono ?_
    rintro e w3 ⟨g3, m3, k3, rfl, hk⟩
    have E3 : Hid (EncS W0 (w.heap.size + 1) (.slice (some ⟨g3, 0, none⟩) m3 k3) (headB n1 n2 n3) w3) := E2.out.grew (Below.refl _ _) G2 hk
    obtain ⟨p0, p1, p2⟩ := HQ.out w3 E3.out.bel
    clear hk E2 G1 G2
    go_wp2
    go_loopw [3, 5, 34] (fun so _ si wr => ∃ (i : Nat), i ≤ n1 ∧ si = .int .i64 i ∧ Hid (EncS W0 (w.heap.size + 1) so (headB n1 n2 n3 ++ flatB (z1.take (i * 9))) wr)) (fun _ _ si _ => n1 - (intOf si).toNat)
    case atStart => exact ⟨0, Nat.zero_le _, rfl, EncS.re E3.out (by simp [flatB])⟩
    case round =>
      obtain ⟨i, hi, rfl, hE⟩ := hrel
      obtain ⟨p0, p1, p2⟩ := HQ.out wr hE.out.bel
      by_cases hlt : i < n1
      · have hll := L0.out.sc.l1
        have hle : ∀ j, j < 9 → i * 9 + j < z1.length := by intro j hj; rw [hll]; omega
        obtain ⟨b, off, rfl, hbl, hc⟩ := L0.out.sc.r1.resolve_left (by intro h; have := hle 0 (by omega); rw [h] at this; simp at this)
        obtain ⟨x0, hx0⟩ : ∃ x, x = z1.getD (i * 9) 0 := ⟨_, rfl⟩
        have x0a : 0 ≤ x0 := by rw [hx0]; exact (HU1.out.at _).1
        have x0b : x0 < 4294967296 := by rw [hx0]; exact (HU1.out.at _).2
        have q0 : wr.cell? ⟨b, off + i * 9, none⟩ = some (.int .u32 x0) := by
          have := (hE.out.bel.cell (p := ⟨b, off + (i * 9 + 0), none⟩) (by simp; omega)).trans (hc (i * 9 + 0) (hle 0 (by omega)))
          rw [hx0]
          simpa [Nat.add_assoc] using this
        obtain ⟨x1, hx1⟩ : ∃ x, x = z1.getD (i * 9 + 1) 0 := ⟨_, rfl⟩
        have x1a : 0 ≤ x1 := by rw [hx1]; exact (HU1.out.at _).1
        have x1b : x1 < 4294967296 := by rw [hx1]; exact (HU1.out.at _).2
        have q1 : wr.cell? ⟨b, off + i * 9 + 1, none⟩ = some (.int .u32 x1) := by
          have := (hE.out.bel.cell (p := ⟨b, off + (i * 9 + 1), none⟩) (by simp; omega)).trans (hc (i * 9 + 1) (hle 1 (by omega)))
          rw [hx1]
          simpa [Nat.add_assoc] using this
        obtain ⟨x2, hx2⟩ : ∃ x, x = z1.getD (i * 9 + 2) 0 := ⟨_, rfl⟩
        have x2a : 0 ≤ x2 := by rw [hx2]; exact (HU1.out.at _).1
        have x2b : x2 < 4294967296 := by rw [hx2]; exact (HU1.out.at _).2
        have q2 : wr.cell? ⟨b, off + i * 9 + 2, none⟩ = some (.int .u32 x2) := by
          have := (hE.out.bel.cell (p := ⟨b, off + (i * 9 + 2), none⟩) (by simp; omega)).trans (hc (i * 9 + 2) (hle 2 (by omega)))
          rw [hx2]
          simpa [Nat.add_assoc] using this
        obtain ⟨x3, hx3⟩ : ∃ x, x = z1.getD (i * 9 + 3) 0 := ⟨_, rfl⟩
        have x3a : 0 ≤ x3 := by rw [hx3]; exact (HU1.out.at _).1
        have x3b : x3 < 4294967296 := by rw [hx3]; exact (HU1.out.at _).2
        have q3 : wr.cell? ⟨b, off + i * 9 + 3, none⟩ = some (.int .u32 x3) := by
          have := (hE.out.bel.cell (p := ⟨b, off + (i * 9 + 3), none⟩) (by simp; omega)).trans (hc (i * 9 + 3) (hle 3 (by omega)))
          rw [hx3]
          simpa [Nat.add_assoc] using this
        obtain ⟨x4, hx4⟩ : ∃ x, x = z1.getD (i * 9 + 4) 0 := ⟨_, rfl⟩
        have x4a : 0 ≤ x4 := by rw [hx4]; exact (HU1.out.at _).1
        have x4b : x4 < 4294967296 := by rw [hx4]; exact (HU1.out.at _).2
        have q4 : wr.cell? ⟨b, off + i * 9 + 4, none⟩ = some (.int .u32 x4) := by
          have := (hE.out.bel.cell (p := ⟨b, off + (i * 9 + 4), none⟩) (by simp; omega)).trans (hc (i * 9 + 4) (hle 4 (by omega)))
          rw [hx4]
          simpa [Nat.add_assoc] using this
        obtain ⟨x5, hx5⟩ : ∃ x, x = z1.getD (i * 9 + 5) 0 := ⟨_, rfl⟩
        have x5a : 0 ≤ x5 := by rw [hx5]; exact (HU1.out.at _).1
        have x5b : x5 < 4294967296 := by rw [hx5]; exact (HU1.out.at _).2
        have q5 : wr.cell? ⟨b, off + i * 9 + 5, none⟩ = some (.int .u32 x5) := by
          have := (hE.out.bel.cell (p := ⟨b, off + (i * 9 + 5), none⟩) (by simp; omega)).trans (hc (i * 9 + 5) (hle 5 (by omega)))
          rw [hx5]
          simpa [Nat.add_assoc] using this
        obtain ⟨x6, hx6⟩ : ∃ x, x = z1.getD (i * 9 + 6) 0 := ⟨_, rfl⟩
        have x6a : 0 ≤ x6 := by rw [hx6]; exact (HU1.out.at _).1
        have x6b : x6 < 4294967296 := by rw [hx6]; exact (HU1.out.at _).2
        have q6 : wr.cell? ⟨b, off + i * 9 + 6, none⟩ = some (.int .u32 x6) := by
          have := (hE.out.bel.cell (p := ⟨b, off + (i * 9 + 6), none⟩) (by simp; omega)).trans (hc (i * 9 + 6) (hle 6 (by omega)))
          rw [hx6]
          simpa [Nat.add_assoc] using this
        obtain ⟨x7, hx7⟩ : ∃ x, x = z1.getD (i * 9 + 7) 0 := ⟨_, rfl⟩
        have x7a : 0 ≤ x7 := by rw [hx7]; exact (HU1.out.at _).1
        have x7b : x7 < 4294967296 := by rw [hx7]; exact (HU1.out.at _).2
        have q7 : wr.cell? ⟨b, off + i * 9 + 7, none⟩ = some (.int .u32 x7) := by
          have := (hE.out.bel.cell (p := ⟨b, off + (i * 9 + 7), none⟩) (by simp; omega)).trans (hc (i * 9 + 7) (hle 7 (by omega)))
          rw [hx7]
          simpa [Nat.add_assoc] using this
        obtain ⟨x8, hx8⟩ : ∃ x, x = z1.getD (i * 9 + 8) 0 := ⟨_, rfl⟩
        have x8a : 0 ≤ x8 := by rw [hx8]; exact (HU1.out.at _).1
        have x8b : x8 < 4294967296 := by rw [hx8]; exact (HU1.out.at _).2
        have q8 : wr.cell? ⟨b, off + i * 9 + 8, none⟩ = some (.int .u32 x8) := by
          have := (hE.out.bel.cell (p := ⟨b, off + (i * 9 + 8), none⟩) (by simp; omega)).trans (hc (i * 9 + 8) (hle 8 (by omega)))
          rw [hx8]
          simpa [Nat.add_assoc] using this
        have HF : Hid (headB n1 n2 n3 ++ flatB (z1.take ((i + 1) * 9)) = (headB n1 n2 n3 ++ flatB (z1.take (i * 9))) ++ flatB [x0, x1, x2, x3, x4, x5, x6, x7, x8]) := by
          unfold Hid
          rw [hx0, hx1, hx2, hx3, hx4, hx5, hx6, hx7, hx8]
          rw [flat3 (m := i * 9 + 6) (by have := hle 8 (by omega); omega) (m1 := (i + 1) * 9) (by omega), flat3 (m := i * 9 + 3) (by have := hle 8 (by omega); omega) (m1 := i * 9 + 6) (by omega), flat3 (m := i * 9) (by have := hle 8 (by omega); omega) (m1 := i * 9 + 3) (by omega)]
          simp [flatB, ptB]
        have hyl : (headB n1 n2 n3 ++ flatB (z1.take (i * 9))).length ≤ 400000 := by
          have q1 := L0.out.sc.l1
          have q2 := L0.out.sc.l2
          simp only [List.length_append, flatB_length, headB_length, List.length_take]
          omega
        have hy0 : 0 < (headB n1 n2 n3 ++ flatB (z1.take (i * 9))).length := by
          simp only [List.length_append, headB_length]
          omega
        obtain ⟨Y, hY⟩ : ∃ Y, Y = headB n1 n2 n3 ++ flatB (z1.take (i * 9)) := ⟨_, rfl⟩
        rw [← hY] at hyl hy0 HF hE
        obtain ⟨gi, ni, ci, rfl, hg0, hg1⟩ := hE.out.form hy0
        have hib : (i : Int) < n1 := by omega
        have hUx : Hid (U32 [x0, x1, x2, x3, x4, x5, x6, x7, x8]) := by intro x hx; simp at hx; rcases hx with rfl | rfl | rfl | rfl | rfl | rfl | rfl | rfl | rfl <;> (constructor <;> assumption)
        have hles := hE.out.le
        clear hc hle hbl hll hY hy0 hx0 hx1 hx2 hx3 hx4 hx5 hx6 hx7 hx8
        go_wp2_with fail
        refine (appPts_any (w.heap.size + 1) gi ni ci Y (some ⟨wr.heap.size + 1, 0, none⟩) 3 3 [x0, x1, x2, x3, x4, x5, x6, x7, x8] _ (by decide) rfl hUx.out (row_at _ [x0, x1, x2, x3, x4, x5, x6, x7, x8] _ (by simp)) (fun b off e _ => by cases e; omega) (by omega) (hE.out.own.later (bel2 _ _ _)) (by simp; omega)).mono ?_
        rintro e u ⟨g, m, c, rfl, hk⟩
        have EN : Hid (EncS W0 (w.heap.size + 1) (.slice (some ⟨g, 0, none⟩) m c) (Y ++ flatB [x0, x1, x2, x3, x4, x5, x6, x7, x8]) u) := hE.out.grew (bel2 _ _ _) hg0 hk
        clear hk hE p0 p1 p2 hg0 hg1 hUx hles q0 x0a x0b q1 x1a x1b q2 x2a x2b q3 x3a x3b q4 x4a x4b q5 x5a x5b q6 x6a x6b q7 x7a x7b q8 x8a x8b
        go_wp2
        go_roundw
        case rel => exact ⟨i + 1, by omega, by go_num, EN.out.re HF.out.symm⟩
        case measure => simp [intOf]; omega
      · have hie : n1 = i := by omega
        subst hie
        have hE1 := hE.out
        rw [List.take_of_length_le (by have := L0.out.sc.l1; omega)] at hE1
        have EN : Hid (EncS W0 (w.heap.size + 1) _ (headB n1 n2 n3 ++ flatB z1) wr) := hE1
        clear hE hE1
        go_wp2
        go_loopw [3, 7, 51] (fun so _ si wr => ∃ (i : Nat), i ≤ n2 ∧ si = .int .i64 i ∧ Hid (EncS W0 (w.heap.size + 1) so (headB n1 n2 n3 ++ flatB z1 ++ flatB (z2.take (i * 6))) wr)) (fun _ _ si _ => n2 - (intOf si).toNat)
        case atStart => exact ⟨0, Nat.zero_le _, rfl, EncS.re EN.out (by simp [flatB])⟩
        case round =>
          obtain ⟨i, hi, rfl, hE⟩ := hrel
          obtain ⟨p0, p1, p2⟩ := HQ.out wr hE.out.bel
          by_cases hlt : i < n2
          · have hll := L0.out.sc.l2
            have hle : ∀ j, j < 6 → i * 6 + j < z2.length := by intro j hj; rw [hll]; omega
            obtain ⟨b, off, rfl, hbl, hc⟩ := L0.out.sc.r2.resolve_left (by intro h; have := hle 0 (by omega); rw [h] at this; simp at this)
            obtain ⟨x0, hx0⟩ : ∃ x, x = z2.getD (i * 6) 0 := ⟨_, rfl⟩
            have x0a : 0 ≤ x0 := by rw [hx0]; exact (HU2.out.at _).1
            have x0b : x0 < 4294967296 := by rw [hx0]; exact (HU2.out.at _).2
            have q0 : wr.cell? ⟨b, off + i * 6, none⟩ = some (.int .u32 x0) := by
              have := (hE.out.bel.cell (p := ⟨b, off + (i * 6 + 0), none⟩) (by simp; omega)).trans (hc (i * 6 + 0) (hle 0 (by omega)))
              rw [hx0]
              simpa [Nat.add_assoc] using this
            obtain ⟨x1, hx1⟩ : ∃ x, x = z2.getD (i * 6 + 1) 0 := ⟨_, rfl⟩
            have x1a : 0 ≤ x1 := by rw [hx1]; exact (HU2.out.at _).1
            have x1b : x1 < 4294967296 := by rw [hx1]; exact (HU2.out.at _).2
            have q1 : wr.cell? ⟨b, off + i * 6 + 1, none⟩ = some (.int .u32 x1) := by
              have := (hE.out.bel.cell (p := ⟨b, off + (i * 6 + 1), none⟩) (by simp; omega)).trans (hc (i * 6 + 1) (hle 1 (by omega)))
              rw [hx1]
              simpa [Nat.add_assoc] using this
            obtain ⟨x2, hx2⟩ : ∃ x, x = z2.getD (i * 6 + 2) 0 := ⟨_, rfl⟩
            have x2a : 0 ≤ x2 := by rw [hx2]; exact (HU2.out.at _).1
            have x2b : x2 < 4294967296 := by rw [hx2]; exact (HU2.out.at _).2
            have q2 : wr.cell? ⟨b, off + i * 6 + 2, none⟩ = some (.int .u32 x2) := by
              have := (hE.out.bel.cell (p := ⟨b, off + (i * 6 + 2), none⟩) (by simp; omega)).trans (hc (i * 6 + 2) (hle 2 (by omega)))
              rw [hx2]
              simpa [Nat.add_assoc] using this
            obtain ⟨x3, hx3⟩ : ∃ x, x = z2.getD (i * 6 + 3) 0 := ⟨_, rfl⟩
            have x3a : 0 ≤ x3 := by rw [hx3]; exact (HU2.out.at _).1
            have x3b : x3 < 4294967296 := by rw [hx3]; exact (HU2.out.at _).2
            have q3 : wr.cell? ⟨b, off + i * 6 + 3, none⟩ = some (.int .u32 x3) := by
              have := (hE.out.bel.cell (p := ⟨b, off + (i * 6 + 3), none⟩) (by simp; omega)).trans (hc (i * 6 + 3) (hle 3 (by omega)))
              rw [hx3]
              simpa [Nat.add_assoc] using this
            obtain ⟨x4, hx4⟩ : ∃ x, x = z2.getD (i * 6 + 4) 0 := ⟨_, rfl⟩
            have x4a : 0 ≤ x4 := by rw [hx4]; exact (HU2.out.at _).1
            have x4b : x4 < 4294967296 := by rw [hx4]; exact (HU2.out.at _).2
            have q4 : wr.cell? ⟨b, off + i * 6 + 4, none⟩ = some (.int .u32 x4) := by
              have := (hE.out.bel.cell (p := ⟨b, off + (i * 6 + 4), none⟩) (by simp; omega)).trans (hc (i * 6 + 4) (hle 4 (by omega)))
              rw [hx4]
              simpa [Nat.add_assoc] using this
            obtain ⟨x5, hx5⟩ : ∃ x, x = z2.getD (i * 6 + 5) 0 := ⟨_, rfl⟩
            have x5a : 0 ≤ x5 := by rw [hx5]; exact (HU2.out.at _).1
            have x5b : x5 < 4294967296 := by rw [hx5]; exact (HU2.out.at _).2
            have q5 : wr.cell? ⟨b, off + i * 6 + 5, none⟩ = some (.int .u32 x5) := by
              have := (hE.out.bel.cell (p := ⟨b, off + (i * 6 + 5), none⟩) (by simp; omega)).trans (hc (i * 6 + 5) (hle 5 (by omega)))
              rw [hx5]
              simpa [Nat.add_assoc] using this
            have HF : Hid (headB n1 n2 n3 ++ flatB z1 ++ flatB (z2.take ((i + 1) * 6)) = (headB n1 n2 n3 ++ flatB z1 ++ flatB (z2.take (i * 6))) ++ flatB [x0, x1, x2, x3, x4, x5]) := by
              unfold Hid
              rw [hx0, hx1, hx2, hx3, hx4, hx5]
              rw [flat3 (m := i * 6 + 3) (by have := hle 5 (by omega); omega) (m1 := (i + 1) * 6) (by omega), flat3 (m := i * 6) (by have := hle 5 (by omega); omega) (m1 := i * 6 + 3) (by omega)]
              simp [flatB, ptB]
            have hyl : (headB n1 n2 n3 ++ flatB z1 ++ flatB (z2.take (i * 6))).length ≤ 400000 := by
              have q1 := L0.out.sc.l1
              have q2 := L0.out.sc.l2
              simp only [List.length_append, flatB_length, headB_length, List.length_take]
              omega
            have hy0 : 0 < (headB n1 n2 n3 ++ flatB z1 ++ flatB (z2.take (i * 6))).length := by
              simp only [List.length_append, headB_length]
              omega
            obtain ⟨Y, hY⟩ : ∃ Y, Y = headB n1 n2 n3 ++ flatB z1 ++ flatB (z2.take (i * 6)) := ⟨_, rfl⟩
            rw [← hY] at hyl hy0 HF hE
            obtain ⟨gi, ni, ci, rfl, hg0, hg1⟩ := hE.out.form hy0
            have hib : (i : Int) < n2 := by omega
            have hUx : Hid (U32 [x0, x1, x2, x3, x4, x5]) := by intro x hx; simp at hx; rcases hx with rfl | rfl | rfl | rfl | rfl | rfl <;> (constructor <;> assumption)
            have hles := hE.out.le
            clear hc hle hbl hll hY hy0 hx0 hx1 hx2 hx3 hx4 hx5
            go_wp2_with fail
            refine (appPts_any (w.heap.size + 1) gi ni ci Y (some ⟨wr.heap.size + 1, 0, none⟩) 2 2 [x0, x1, x2, x3, x4, x5] _ (by decide) rfl hUx.out (row_at _ [x0, x1, x2, x3, x4, x5] _ (by simp)) (fun b off e _ => by cases e; omega) (by omega) (hE.out.own.later (bel2 _ _ _)) (by simp; omega)).mono ?_
            rintro e u ⟨g, m, c, rfl, hk⟩
            have EN : Hid (EncS W0 (w.heap.size + 1) (.slice (some ⟨g, 0, none⟩) m c) (Y ++ flatB [x0, x1, x2, x3, x4, x5]) u) := hE.out.grew (bel2 _ _ _) hg0 hk
            clear hk hE p0 p1 p2 hg0 hg1 hUx hles q0 x0a x0b q1 x1a x1b q2 x2a x2b q3 x3a x3b q4 x4a x4b q5 x5a x5b
            go_wp2
            go_roundw
            case rel => exact ⟨i + 1, by omega, by go_num, EN.out.re HF.out.symm⟩
            case measure => simp [intOf]; omega
          · have hie : n2 = i := by omega
            subst hie
            have hE1 := hE.out
            rw [List.take_of_length_le (by have := L0.out.sc.l2; omega)] at hE1
            have EN : Hid (EncS W0 (w.heap.size + 1) _ (headB n1 n2 n3 ++ flatB z1 ++ flatB z2) wr) := hE1
            clear hE hE1
            have hy0 : 0 < (headB n1 n2 n3 ++ flatB z1 ++ flatB z2).length := by
              simp only [List.length_append, headB_length]
              omega
            have hyl : (headB n1 n2 n3 ++ flatB z1 ++ flatB z2).length ≤ 400000 := by
              have q1 := L0.out.sc.l1
              have q2 := L0.out.sc.l2
              simp only [List.length_append, flatB_length, headB_length]
              omega
            obtain ⟨gi, ni, ci, rfl, hg0, hg1⟩ := EN.out.form hy0
            have HR3 : Hid (RowAt .u32 wr a3 z3) := L0.out.sc.r3.later (by rw [S0]; exact EN.out.bel)
            have HG3 : Hid (∀ b off, a3 = some ⟨b, off, none⟩ → z3 ≠ [] → gi ≠ b) := by
              intro b off e1 e2
              obtain ⟨b', off', e3, e4, _⟩ := HSC.out.r3.resolve_left e2
              rw [e1] at e3
              cases e3
              omega
            have hl3 : Hid (z3.length = n3 * 3) := L0.out.sc.l3
            clear hy0
            go_wp2_with fail
            refine (appPts_any (w.heap.size + 1) gi ni ci (headB n1 n2 n3 ++ flatB z1 ++ flatB z2) a3 n3 c3 z3 _ (by omega) hl3.out HU3.out HR3.out HG3.out (by omega) EN.out.own EN.out.le).mono ?_
            rintro e u ⟨g, m, c, rfl, hk⟩
            have EF : Hid (EncS W0 (w.heap.size + 1) (.slice (some ⟨g, 0, none⟩) m c) (headB n1 n2 n3 ++ flatB z1 ++ flatB z2 ++ flatB z3) u) := EN.out.grew (Below.refl _ _) hg0 hk
            clear hk EN p0 p1 p2 hg0 hg1 hyl
            go_wp2
            go_ret
            exact ⟨_, rfl, by rw [HV.out]; exact EF.out.own.up (Nat.le_succ _), L0.out.bel.trans (EF.out.bel.mono (Nat.le_succ _))⟩

end Go.Proofs.Ytcjdnomhnlbmbaa
