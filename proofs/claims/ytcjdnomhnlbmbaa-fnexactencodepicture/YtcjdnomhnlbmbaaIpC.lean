/-
  The program's EncodePicture.
-/
import Derived.Test.YtcjdnomhnlbmbaaIpB
namespace Go.Proofs.Ytcjdnomhnlbmbaa
open Go.RowKit

theorem idB_neg : leB 4294967295 4 = [255, 255, 255, 255] := by decide

set_option maxRecDepth 100000 in
set_option maxHeartbeats 4000000 in
theorem encPN_any (a1 a3 : Option Addr) (n1 n3 c1 c3 : Nat) (L : Int) (g : Nat → Int) (h : Nat → Bool) (w : World) (hn : n1 + n3 ≤ 1048576) (hs : PcAt w a1 a3 n1 n3 g h) :
    Calls Try.prog 19 #[.agg #[.slice a1 n1 c1, .int .i64 L, .slice a3 n3 c3]] w fun e w' => NewY w (encPV n1 n3 g L h) e w' := by
  have HSC : Hid (PcAt w a1 a3 n1 n3 g h) := hs
  obtain ⟨W0, hW0⟩ : ∃ W0, W0 = w.alloc (.cells #[.slice a1 n1 c1, .int .i64 L, .slice a3 n3 c3] 26) := ⟨_, rfl⟩
  have L0 : Hid (LwP w a1 a3 n1 n3 c1 c3 L g h W0) := by unfold Hid; rw [hW0]; exact LwP.start hs _
  have S0 : W0.heap.size = w.heap.size + 1 := by rw [hW0]; simp
  have HQ : Hid (∀ w', Below (w.heap.size + 1) W0 w' → w'.cell? ⟨w.heap.size, 0, none⟩ = some (.slice a1 n1 c1) ∧ w'.cell? ⟨w.heap.size, 1, none⟩ = some (.int .i64 L) ∧ w'.cell? ⟨w.heap.size, 2, none⟩ = some (.slice a3 n3 c3)) := by
    intro w' hb
    exact ⟨(hb.cell (p := ⟨w.heap.size, 0, none⟩) (by simp)).trans L0.out.bx.q0, (hb.cell (p := ⟨w.heap.size, 1, none⟩) (by simp)).trans L0.out.bx.q1, (hb.cell (p := ⟨w.heap.size, 2, none⟩) (by simp)).trans L0.out.bx.q2⟩
  clear hs
  go_enter Try.func19, Try.ntmps19
  go_wp2_with fail
  rw [← hW0]
  refine (validPI_any a1 a3 n1 n3 c1 c3 L g h _ hn L0.out.pc).mono ?_
  rintro e V ⟨rfl, hb1⟩
  have B1 : Hid (Below (w.heap.size + 1) W0 V) := by unfold Hid; rw [← S0]; exact hb1
  have Z1 : w.heap.size + 1 ≤ V.heap.size := by have := hb1.size; omega
  clear hb1 hW0
  cases hv : validPc n1 n3 g L
  · go_wp2
    go_ret
    exact ⟨_, rfl, by rw [encPV_bad hv]; exact OwnY.nil _ _, L0.out.bel.trans (B1.out.mono (Nat.le_succ _))⟩
  · have hb3 : n1 ≤ 40 ∧ 0 ≤ L ∧ L ≤ 4 ∧ (n3 : Int) ≤ 160 ∧ Hid (∀ i, i < n1 → -1 ≤ g i ∧ g i < 40) := by
      unfold validPc at hv
      simp only [Bool.and_eq_true, decide_eq_true_eq] at hv
      obtain ⟨⟨⟨⟨q1, q2⟩, q3⟩, q4⟩, q5⟩ := hv
      have e1 : (n1 : Int) * L ≤ 40 * L := Int.mul_le_mul_of_nonneg_right (by omega) q2
      refine ⟨q1, q2, q3, by omega, fun i hi => ?_⟩
      rw [List.all_eq_true] at q5
      have := q5 i (List.mem_range.2 hi)
      unfold idOK at this
      simp at this
      exact this
    obtain ⟨h1, h2, h3, h4, HI⟩ := hb3
    have HV : Hid (encPV n1 n3 g L h = encPc n1 n3 g L h) := encPV_ok hv
    have p0 : (V.alloc (.cells #[.int .u8 80, .int .u8 73, .int .u8 67, .int .u8 84] 5 (4, 5))).cell? ⟨w.heap.size, 0, none⟩ = some (.slice a1 n1 c1) := (HQ.out _ (B1.out.alloc Z1 _)).1
    have hcv := Go.Joins.run_convert_bytes_const_at (P := Try.prog) V 22 5 #[.int .u8 80, .int .u8 73, .int .u8 67, .int .u8 84] 4 4 V.heap.size rfl Try.underlying22 Try.underlying5
    have R0 : Hid (∀ t fr, RowAt .u8 (V.alloc (.cells #[.int .u8 80, .int .u8 73, .int .u8 67, .int .u8 84] t fr)) (some ⟨V.heap.size, 0, none⟩) [80, 73, 67, 84]) := fun t fr => row_pict V t fr rfl
    go_wp2_with fail
    refine (appNum_any (w.heap.size + 1) _ [80, 73, 67, 84] n1 2 _ (by omega) (by omega) (by decide) (by decide) (by decide) (.inr ⟨_, rfl, R0.out _ _, by decide⟩) (by simp; omega)).mono ?_
    rintro e w1 ⟨g1, m1, k1, rfl, hk⟩
    have E1 : Hid (EncS W0 (w.heap.size + 1) (.slice (some ⟨g1, 0, none⟩) m1 k1) ([80, 73, 67, 84] ++ leB n1 2) w1) := EncS.first (B1.out.alloc Z1 _) (by simp; omega) (fun k hk => by simp [Value.ownBlock] at hk; omega) hk
    have G1 := hk.lt.1
    clear p0
    obtain ⟨p0, p1, p2⟩ := HQ.out w1 E1.out.bel
    clear hk B1 R0 hcv
    go_wp2_with fail
    refine (appNum_any (w.heap.size + 1) (.slice (some ⟨g1, 0, none⟩) m1 k1) ([80, 73, 67, 84] ++ leB n1 2) L 1 _ (by omega) (by omega) (by decide) (by decide) (by simp [leB_length]) (.inl E1.out.own) E1.out.le).mono ?_
    rintro e w2 ⟨g2, m2, k2, rfl, hk⟩
    have E2 : Hid (EncS W0 (w.heap.size + 1) (.slice (some ⟨g2, 0, none⟩) m2 k2) (headP n1 L) w2) := E1.out.grew (Below.refl _ _) G1 hk
    obtain ⟨p0, p1, p2⟩ := HQ.out w2 E2.out.bel
    clear hk E1 G1
    go_wp2
    go_loopw [3, 5, 25] (fun so _ si wr => ∃ (i : Nat), i ≤ n1 ∧ si = .int .i64 i ∧ Hid (EncS W0 (w.heap.size + 1) so (headP n1 L ++ idsB g i) wr)) (fun _ _ si _ => n1 - (intOf si).toNat)
    case atStart => exact ⟨0, Nat.zero_le _, rfl, EncS.re E2.out (by simp [idsB])⟩
    case round =>
      obtain ⟨i, hi, rfl, hE⟩ := hrel
      obtain ⟨p0, p1, p2⟩ := HQ.out wr hE.out.bel
      have hyl : (headP n1 L ++ idsB g i).length ≤ 400000 := by
        simp only [List.length_append, headP_length, idsB_length]
        omega
      have hy0 : 0 < (headP n1 L ++ idsB g i).length := by
        simp only [List.length_append, headP_length]
        omega
      obtain ⟨gi, ni, ci, rfl, hg0, hg1⟩ := hE.out.form hy0
      by_cases hlt : i < n1
      · obtain ⟨b, off, rfl, hbl, hc⟩ := L0.out.pc.r1.resolve_left (by omega)
        have q : wr.cell? ⟨b, off + i, none⟩ = some (.int .i64 (g i)) := (hE.out.bel.cell (p := ⟨b, off + i, none⟩) (by simp; omega)).trans (hc i hlt)
        have hib : (i : Int) < n1 := by omega
        have hx := HI.out i hlt
        have HF : Hid (headP n1 L ++ idsB g (i + 1) = (headP n1 L ++ idsB g i) ++ idB (g i)) := by unfold Hid; rw [idsB, List.append_assoc]
        obtain ⟨x, hxx⟩ : ∃ x, x = g i := ⟨_, rfl⟩
        rw [← hxx] at q hx HF
        obtain ⟨Y, hY⟩ : ∃ Y, Y = headP n1 L ++ idsB g i := ⟨_, rfl⟩
        rw [← hY] at hyl hy0 HF hE
        have hles := hE.out.le
        clear hc hbl hxx hY hy0
        by_cases hneg : x < 0
        · have hx1 : x = -1 := by omega
          subst hx1
          go_wp2_with fail
          refine (appNum_any (w.heap.size + 1) (.slice (some ⟨gi, 0, none⟩) ni ci) Y 4294967295 4 _ (by decide) (by decide) (by decide) (by decide) (by omega) (.inl hE.out.own) hles).mono ?_
          rintro e u ⟨g3, m3, k3, rfl, hk⟩
          have EN : Hid (EncS W0 (w.heap.size + 1) (.slice (some ⟨g3, 0, none⟩) m3 k3) (headP n1 L ++ idsB g (i + 1)) u) := by unfold Hid; rw [HF.out, show idB (-1) = leB 4294967295 4 by rw [idB_neg]; rfl]; exact hE.out.grew (Below.refl _ _) hg0 hk
          clear hk hE p0 p1 p2 hg0 hg1 hles q hx HF
          go_wp2
          go_roundw
          case rel => exact ⟨i + 1, by omega, by go_num, EN⟩
          case measure => simp [intOf]; omega
        · have hx0 : 0 ≤ x := by omega
          have hx4 : x < 40 := by omega
          clear hx hneg
          go_wp2_with fail
          refine (appNum_any (w.heap.size + 1) (.slice (some ⟨gi, 0, none⟩) ni ci) Y x 4 _ hx0 (by omega) (by decide) (by decide) (by omega) (.inl hE.out.own) hles).mono ?_
          rintro e u ⟨g3, m3, k3, rfl, hk⟩
          have EN : Hid (EncS W0 (w.heap.size + 1) (.slice (some ⟨g3, 0, none⟩) m3 k3) (headP n1 L ++ idsB g (i + 1)) u) := by unfold Hid; rw [HF.out, show idB x = leB x 4 by unfold idB; rw [if_neg (by omega)]]; exact hE.out.grew (Below.refl _ _) hg0 hk
          clear hk hE p0 p1 p2 hg0 hg1 hles q hx0 hx4 HF
          go_wp2
          go_roundw
          case rel => exact ⟨i + 1, by omega, by go_num, EN⟩
          case measure => simp [intOf]; omega
      · have hie : n1 = i := by omega
        subst hie
        have HR3 : Hid (RowF wr a3 n3 (boolF h)) := L0.out.pc.r3.later (by rw [S0]; exact hE.out.bel)
        have HG3 : Hid (∀ b off, a3 = some ⟨b, off, none⟩ → n3 ≠ 0 → gi ≠ b) := by
          intro b off e1 e2
          obtain ⟨b', off', e3, e4, _⟩ := HSC.out.r3.resolve_left e2
          rw [e1] at e3
          cases e3
          omega
        clear hy0
        go_wp2_with fail
        refine (appBits_any (w.heap.size + 1) gi ni ci (headP n1 L ++ idsB g n1) a3 n3 c3 h _ (by omega) HR3.out HG3.out (by omega) hE.out.own hE.out.le).mono ?_
        rintro e u ⟨g4, m4, k4, rfl, hk⟩
        have EF : Hid (EncS W0 (w.heap.size + 1) (.slice (some ⟨g4, 0, none⟩) m4 k4) (headP n1 L ++ idsB g n1 ++ litB n3 h ((n3 + 7) / 8)) u) := hE.out.grew (Below.refl _ _) hg0 hk
        clear hk hE p0 p1 p2 hg0 hg1 hyl
        go_wp2
        go_ret
        exact ⟨_, rfl, by rw [HV.out]; exact EF.out.own.up (Nat.le_succ _), L0.out.bel.trans (EF.out.bel.mono (Nat.le_succ _))⟩

theorem encPI_any : EncPSays 19 := fun a1 a3 n1 n3 c1 c3 L g h w hn hs => (encPN_any a1 a3 n1 n3 c1 c3 L g h w hn hs).mono (fun _ _ h => h.out)

end Go.Proofs.Ytcjdnomhnlbmbaa
