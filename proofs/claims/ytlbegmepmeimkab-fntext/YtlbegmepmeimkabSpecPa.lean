/-
  The model's BigParse, a text without a sign.
-/
import Derived.Test.YtlbegmepmeimkabSpecMSpecP0
namespace Go.Proofs.Ytlbegmepmeimkab
open Go.RowKit

set_option maxHeartbeats 16000000 in
theorem parseS_plus (b off c : Nat) (ts : List Int) (w : World) (hn : ts.length ≤ 1048576) (hcell : ∀ j, j < ts.length → w.cell? ⟨b, off + j, none⟩ = some (.int .u8 (ts.getD j 0))) (hpos : 0 < ts.length) (hb : b < w.heap.size) (t0 : Int) (g0 : w.cell? ⟨b, off, none⟩ = some (.int .u8 t0)) (e45 : (t0 == 45) = false) (hng : negB ts = false) :
    Calls Try.prog 23 #[.slice (some ⟨b, off, none⟩) ts.length c] w fun e w' => OutQ w ts e w' := by
  have HNEG : Hid (negB ts = false) := hng
  have HDIG0 : digs ts = ts := by unfold digs; rw [hng]; rfl
  obtain ⟨us, hus⟩ : ∃ us, us = ts := ⟨_, rfl⟩
  have HDIG : Hid (digs ts = us) := by unfold Hid; rw [HDIG0, hus]
  have HCELL : Hid (∀ j, j < us.length → w.cell? ⟨b, off + j, none⟩ = some (.int .u8 (us.getD j 0))) := by unfold Hid; rw [hus]; exact hcell
  have hlen : ts.length = us.length := by rw [hus]
  have HLEN : Hid (ts.length = us.length) := hlen
  rw [hlen] at hn
  clear hng HDIG0 hus hcell hlen
  go_enter Try.func23, Try.ntmps23
  go_wp2
  rw [HLEN.out]
  go_loop [6] (fun i => ∃ k : Nat, k ≤ us.length ∧ i = .int .i64 k ∧ Hid (Dec (us.take k))) (fun i => us.length - (intOf i).toNat)
  case atStart => exact ⟨0, Nat.zero_le _, rfl, fun t ht => by simp at ht⟩
  case round =>
    obtain ⟨k, hk, rfl, hd⟩ := hrel
    by_cases hlt : k < us.length
    · have g1 := HCELL.out k hlt
      obtain ⟨t, ht⟩ : ∃ t, t = us.getD k 0 := ⟨_, rfl⟩
      rw [← ht] at g1
      have HT : Hid (t = us.getD k 0) := ht
      clear ht
      by_cases h0 : t < 48
      · have HRP : Hid (ResP ts false [] 3) := .inl ⟨by unfold synB; rw [HDIG.out, plain_bad hlt (by rw [← HT.out]; omega)]; rfl, rfl, rfl, rfl⟩
        go_wp2
        refine bodyPost_ret (v := .tuple #[.agg #[.bool false, .slice none 0 0], .int .i64 3]) (by simp [results, Try.results23, go_sem]) rfl ?_
        exact ⟨false, [], 3, none, 0, rfl, HRP.out, .inl rfl, .inl rfl, bel0 _ _⟩
      · by_cases h1 : 57 < t
        · have HRP : Hid (ResP ts false [] 3) := .inl ⟨by unfold synB; rw [HDIG.out, plain_bad hlt (by rw [← HT.out]; omega)]; rfl, rfl, rfl, rfl⟩
          go_wp2
          refine bodyPost_ret (v := .tuple #[.agg #[.bool false, .slice none 0 0], .int .i64 3]) (by simp [results, Try.results23, go_sem]) rfl ?_
          exact ⟨false, [], 3, none, 0, rfl, HRP.out, .inl rfl, .inl rfl, bel0 _ _⟩
        · have HD : Hid (Dec (us.take (k + 1))) := dec_succ hlt hd.out (by rw [← HT.out]; omega) (by rw [← HT.out]; omega)
          go_wp2
          go_round
          case rel => exact ⟨k + 1, by omega, by go_num, HD⟩
          case measure => simp [intOf]; omega
    · have hkn : k = us.length := by omega
      subst hkn
      rw [List.take_length] at hd
      have HDEC : Hid (Dec us) := hd
      clear hd
      by_cases hl0 : us.length = 0
      · have HRP : Hid (ResP ts false [] 3) := .inl ⟨by unfold synB; rw [HDIG.out, plain_zero hl0]; rfl, rfl, rfl, rfl⟩
        have e0 : ((us.length : Int) == 0) = true := by rw [beq_iff_eq]; omega
        clear hl0
        go_wp2
        refine bodyPost_ret (v := .tuple #[.agg #[.bool false, .slice none 0 0], .int .i64 3]) (by simp [results, Try.results23, go_sem]) rfl ?_
        exact ⟨false, [], 3, none, 0, rfl, HRP.out, .inl rfl, .inl rfl, bel0 _ _⟩
      · have e0 : ((us.length : Int) == 0) = false := by rw [beq_eq_false_iff_ne]; omega
        have hne : 0 < us.length := by omega
        have gd := HCELL.out 0 hne
        rw [Nat.add_zero] at gd
        obtain ⟨u0, hu0⟩ : ∃ u0, u0 = us.getD 0 0 := ⟨_, rfl⟩
        rw [← hu0] at gd
        have HU0 : Hid (u0 = us.getD 0 0) := hu0
        clear hu0 hl0 g0 e45
        by_cases hbad : u0 = 48 ∧ 1 < us.length
        · have HRP : Hid (ResP ts false [] 3) := .inl ⟨by rw [syn_of HDEC.out HDIG.out HNEG.out, ← HU0.out, hbad.1]; simp [hbad.2]; omega, rfl, rfl, rfl⟩
          have e48 : (u0 == 48) = true := by rw [hbad.1]; rfl
          have hl1 := hbad.2
          clear hbad
          go_wp2
          refine bodyPost_ret (v := .tuple #[.agg #[.bool false, .slice none 0 0], .int .i64 3]) (by simp [results, Try.results23, go_sem]) rfl ?_
          exact ⟨false, [], 3, none, 0, rfl, HRP.out, .inl rfl, .inl rfl, bel0 _ _⟩
        · have HSYN : Hid (synB ts = true) := by
            unfold Hid
            rw [syn_of HDEC.out HDIG.out HNEG.out, ← HU0.out]
            by_cases h48 : u0 = 48
            · have : ¬ 1 < us.length := fun h => hbad ⟨h48, h⟩
              simp [this]
              omega
            · simp [h48]
              omega
          have HBAD : Hid (¬ (u0 = 48 ∧ 1 < us.length)) := hbad
          clear hbad
          by_cases hlen5 : us.length ≤ 5000
          · by_cases h48 : u0 = 48
            · have hl1 : ¬ 1 < us.length := fun h => HBAD.out ⟨h48, h⟩
              have e48 : (u0 == 48) = true := by rw [h48]; rfl
              clear h48
              go_wp2_with fail
              refine (small_any 10 _ (by decide) (by decide)).mono ?_
              rintro e W1 ⟨at1, ct, tens, rfl, htl, hT, hTF, hbT⟩
              have PX : Hid (∀ t, PS w (w.heap.size + 1) W1.heap.size at1 ct tens 0 false none 0 [] (W1.alloc (.cells #[.bool false, .slice at1 tens.length ct] t))) := fun t => PS.start 26 55 t hbT hT (by simpa using hTF) htl
              clear hbT hT hTF
              go_wp2
              go_loopw [9] (fun si wr => ∃ (i : Nat) (gx : Bool) (ax : Option Addr) (cx : Nat) (fx : List Int), i ≤ us.length ∧ si = .int .i64 i ∧ fx.length ≤ 4 * i ∧ Hid (PS w (w.heap.size + 1) W1.heap.size at1 ct tens (dval (us.take i)) gx ax cx fx wr)) (fun si _ => us.length - (intOf si).toNat)
              case atStart => exact ⟨0, false, none, 0, [], Nat.zero_le _, rfl, by simp, PX.out _⟩
              case round =>
                obtain ⟨i, gx, ax, cx, fx, hi, rfl, hfl, hps⟩ := hrel
                clear PX
                by_cases hlt : i < us.length
                · have s0 := hps.out.x0
                  have s1 := hps.out.x1
                  have s2 := hps.out.x2
                  have hoo0 := hps.out.o0
                  have hoo1 := hps.out.o1
                  have hoo2 := hps.out.o2
                  have hdt := HDEC.out.at hlt
                  have hst := dval_take_succ hlt
                  obtain ⟨t, ht⟩ : ∃ t, t = us.getD i 0 := ⟨_, rfl⟩
                  obtain ⟨x, hx⟩ : ∃ x, x = dval (us.take i) := ⟨_, rfl⟩
                  have HBY : Hid (w.cell? ⟨b, off + i, none⟩ = some (.int .u8 t)) := by unfold Hid; rw [ht]; exact HCELL.out i hlt
                  rw [← ht] at hdt hst
                  rw [← hx] at hst hps
                  obtain ⟨hd0, hd1⟩ := hdt
                  have HST : Hid (dval (us.take (i + 1)) = x * 10 + (t - 48)) := hst
                  clear hst ht hx
                  go_wp2
                  have HW : Hid (IntKind.i64.wrap (IntKind.u8.wrap (t - 48)) = t - 48) := wrap_dec hd0 hd1
                  have t0' := hps.out.t0
                  have t1' := hps.out.t1
                  have by0 : wr.cell? ⟨b, off + i, none⟩ = some (.int .u8 t) := (hps.out.held hb HBY.out (Below.refl _ _)).2.2
                  have HBYC : Hid (∀ w', Below wr.heap.size wr w' → w'.cell? ⟨b, off + i, none⟩ = some (.int .u8 t)) := fun w' h => (hps.out.held hb HBY.out h).2.2
                  go_region_with
                    (first
                      | (go_at_call 57; refine (mul_any gx false ax at1 cx ct fx tens x 10 _ (by omega) (by omega) (hps.out.lx.later (Below.refl _ _).drew) (hps.out.lt.later (Below.refl _ _).drew)).mono ?_; rintro e w2 ⟨g2, a2, c2, f2, rfl, hl2, hL2, hF2, hb2⟩; have hB2 : Below wr.heap.size wr w2 := (Below.refl _ _).drew.trans hb2; have by2 := HBYC.out w2 hB2)
                      | (go_at_call 55; rw [HW.out]; refine (small_any (t - 48) _ (by omega) (by omega)).mono ?_; rintro e w3 ⟨a3, c3, f3, rfl, hl3, hL3, hF3, hb3⟩; have hB3 : Below wr.heap.size wr w3 := hB2.trans (hb3.mono hB2.size))
                      | (go_at_call 56; refine (add_any g2 false a2 a3 c2 c3 f2 f3 (x * 10) (t - 48) _ (by omega) (by omega) (hL2.later hb3) hL3).mono ?_; rintro e w4 ⟨g4, a4, c4, f4, rfl, hl4, hL4, hF4, hb4⟩; have hB4 : Below wr.heap.size wr w4 := hB3.trans (hb4.mono hB3.size); have P4 : Hid (PS w (w.heap.size + 1) W1.heap.size at1 ct tens x gx ax cx fx w4) := hps.out.later hB4; have s0' := P4.out.x0; have s1' := P4.out.x1; have s2' := P4.out.x2))
                  all_goals
                    have P5 : Hid (PS w (w.heap.size + 1) W1.heap.size at1 ct tens (dval (us.take (i + 1))) g4 a4 c4 f4 ((w4.setCell ⟨w.heap.size + 1, 0, none⟩ (.bool g4)).setCell ⟨w.heap.size + 1, 1, none⟩ (.slice a4 f4.length c4))) := by
                      unfold Hid
                      rw [HST.out]
                      exact P4.out.set hL4 (hF4.down (by have := hB3.size; omega))
                    clear s0 s1 s2 s0' s1' s2' t0' t1' by0 by2 HBYC hB2 hB3 hB4 hb2 hb3 hb4 hL2 hL3 hL4 hF2 hF3 hF4 P4 hps
                    go_wp2
                    go_roundw
                    case rel => exact ⟨i + 1, g4, a4, c4, f4, by omega, by go_num, by omega, P5⟩
                    case measure => simp [intOf]; omega
                · have hin : i = us.length := by omega
                  subst hin
                  rw [List.take_length] at hps
                  have s0 := hps.out.x0
                  have s1 := hps.out.x1
                  have hdv := (dval_bound HDEC.out us.length (Nat.le_refl _)).1
                  rw [List.take_length] at hdv
                  have HVX : Hid (val 65536 fx = dval us) := hps.out.lx.nonneg hdv
                  have hfl2 : fx.length ≤ 20000 := by omega
                  clear hdv
                  go_wp2_with fail
                  refine (make_any false ax cx fx _ (by omega) hps.out.lx.cap hps.out.lx.sl hps.out.lx.can.1).mono ?_
                  rintro e w2 ⟨g2, f2, rfl, hf2, hL2, hb2⟩
                  rw [HVX.out] at hL2
                  go_wp2_with fail
                  refine (big_any g2 ax cx f2 _ (by omega) hL2.sl.row hL2.can.1).mono ?_
                  rintro e w3 ⟨a5, c5, rfl, hr5, hF5, hb3⟩
                  have hB : Below wr.heap.size wr w3 := hb2.trans (hb3.mono hb2.size)
                  have P3 := hps.out.later hB
                  have r1 := P3.has.r1
                  have r2 := P3.has.r2
                  have r3 := P3.has.r3
                  have HB : Hid (Below w.heap.size w w3) := P3.bel
                  have hE : Hid (ResP ts (bigOut g2 f2).1 (bigOut g2 f2).2.1 (bigOut g2 f2).2.2) := .inr (.inr ⟨HSYN.out, by rw [HDIG.out]; exact hlen5, by rw [HDIG.out, HNEG.out]; exact res_big hL2⟩)
                  have HF : Hid (Far (w.heap.size + 1) a5 (bigOut g2 f2).2.1) := hF5.down (by have := hps.out.o0; have := hps.out.o1; have := hps.out.o2; have := hb2.size; omega)
                  have HR : Hid (RowAt .u32 w3 a5 (bigOut g2 f2).2.1) := hr5
                  clear hr5 hF5 hB hb2 hb3 hL2 P3 s0 s1 hps
                  generalize (bigOut g2 f2).1 = G at *
                  generalize (bigOut g2 f2).2.1 = Z at *
                  generalize (bigOut g2 f2).2.2 = K at *
                  go_wp2
                  refine bodyPost_ret (v := .tuple #[.agg #[.bool G, .slice a5 Z.length c5], .int .i64 K]) (by simp [results, Try.results23, go_sem, r1, r2]) rfl ?_
                  refine ⟨G, Z, K, a5, c5, rfl, hE.out, ?_, HF.out.down (by omega), ?_⟩
                  · exact (HR.out.setAway (HF.out.away (by simp)) _).setAway (HF.out.away (by simp)) _
                  · exact (HB.out.setCell (by simp) _).setCell (by simp) _
            · have e48 : (u0 == 48) = false := by rw [beq_eq_false_iff_ne]; exact h48
              clear h48
              go_wp2_with fail
              refine (small_any 10 _ (by decide) (by decide)).mono ?_
              rintro e W1 ⟨at1, ct, tens, rfl, htl, hT, hTF, hbT⟩
              have PX : Hid (∀ t, PS w (w.heap.size + 1) W1.heap.size at1 ct tens 0 false none 0 [] (W1.alloc (.cells #[.bool false, .slice at1 tens.length ct] t))) := fun t => PS.start 26 55 t hbT hT (by simpa using hTF) htl
              clear hbT hT hTF
              go_wp2
              go_loopw [9] (fun si wr => ∃ (i : Nat) (gx : Bool) (ax : Option Addr) (cx : Nat) (fx : List Int), i ≤ us.length ∧ si = .int .i64 i ∧ fx.length ≤ 4 * i ∧ Hid (PS w (w.heap.size + 1) W1.heap.size at1 ct tens (dval (us.take i)) gx ax cx fx wr)) (fun si _ => us.length - (intOf si).toNat)
              case atStart => exact ⟨0, false, none, 0, [], Nat.zero_le _, rfl, by simp, PX.out _⟩
              case round =>
                obtain ⟨i, gx, ax, cx, fx, hi, rfl, hfl, hps⟩ := hrel
                clear PX
                by_cases hlt : i < us.length
                · have s0 := hps.out.x0
                  have s1 := hps.out.x1
                  have s2 := hps.out.x2
                  have hoo0 := hps.out.o0
                  have hoo1 := hps.out.o1
                  have hoo2 := hps.out.o2
                  have hdt := HDEC.out.at hlt
                  have hst := dval_take_succ hlt
                  obtain ⟨t, ht⟩ : ∃ t, t = us.getD i 0 := ⟨_, rfl⟩
                  obtain ⟨x, hx⟩ : ∃ x, x = dval (us.take i) := ⟨_, rfl⟩
                  have HBY : Hid (w.cell? ⟨b, off + i, none⟩ = some (.int .u8 t)) := by unfold Hid; rw [ht]; exact HCELL.out i hlt
                  rw [← ht] at hdt hst
                  rw [← hx] at hst hps
                  obtain ⟨hd0, hd1⟩ := hdt
                  have HST : Hid (dval (us.take (i + 1)) = x * 10 + (t - 48)) := hst
                  clear hst ht hx
                  go_wp2
                  have HW : Hid (IntKind.i64.wrap (IntKind.u8.wrap (t - 48)) = t - 48) := wrap_dec hd0 hd1
                  have t0' := hps.out.t0
                  have t1' := hps.out.t1
                  have by0 : wr.cell? ⟨b, off + i, none⟩ = some (.int .u8 t) := (hps.out.held hb HBY.out (Below.refl _ _)).2.2
                  have HBYC : Hid (∀ w', Below wr.heap.size wr w' → w'.cell? ⟨b, off + i, none⟩ = some (.int .u8 t)) := fun w' h => (hps.out.held hb HBY.out h).2.2
                  go_region_with
                    (first
                      | (go_at_call 57; refine (mul_any gx false ax at1 cx ct fx tens x 10 _ (by omega) (by omega) (hps.out.lx.later (Below.refl _ _).drew) (hps.out.lt.later (Below.refl _ _).drew)).mono ?_; rintro e w2 ⟨g2, a2, c2, f2, rfl, hl2, hL2, hF2, hb2⟩; have hB2 : Below wr.heap.size wr w2 := (Below.refl _ _).drew.trans hb2; have by2 := HBYC.out w2 hB2)
                      | (go_at_call 55; rw [HW.out]; refine (small_any (t - 48) _ (by omega) (by omega)).mono ?_; rintro e w3 ⟨a3, c3, f3, rfl, hl3, hL3, hF3, hb3⟩; have hB3 : Below wr.heap.size wr w3 := hB2.trans (hb3.mono hB2.size))
                      | (go_at_call 56; refine (add_any g2 false a2 a3 c2 c3 f2 f3 (x * 10) (t - 48) _ (by omega) (by omega) (hL2.later hb3) hL3).mono ?_; rintro e w4 ⟨g4, a4, c4, f4, rfl, hl4, hL4, hF4, hb4⟩; have hB4 : Below wr.heap.size wr w4 := hB3.trans (hb4.mono hB3.size); have P4 : Hid (PS w (w.heap.size + 1) W1.heap.size at1 ct tens x gx ax cx fx w4) := hps.out.later hB4; have s0' := P4.out.x0; have s1' := P4.out.x1; have s2' := P4.out.x2))
                  all_goals
                    have P5 : Hid (PS w (w.heap.size + 1) W1.heap.size at1 ct tens (dval (us.take (i + 1))) g4 a4 c4 f4 ((w4.setCell ⟨w.heap.size + 1, 0, none⟩ (.bool g4)).setCell ⟨w.heap.size + 1, 1, none⟩ (.slice a4 f4.length c4))) := by
                      unfold Hid
                      rw [HST.out]
                      exact P4.out.set hL4 (hF4.down (by have := hB3.size; omega))
                    clear s0 s1 s2 s0' s1' s2' t0' t1' by0 by2 HBYC hB2 hB3 hB4 hb2 hb3 hb4 hL2 hL3 hL4 hF2 hF3 hF4 P4 hps
                    go_wp2
                    go_roundw
                    case rel => exact ⟨i + 1, g4, a4, c4, f4, by omega, by go_num, by omega, P5⟩
                    case measure => simp [intOf]; omega
                · have hin : i = us.length := by omega
                  subst hin
                  rw [List.take_length] at hps
                  have s0 := hps.out.x0
                  have s1 := hps.out.x1
                  have hdv := (dval_bound HDEC.out us.length (Nat.le_refl _)).1
                  rw [List.take_length] at hdv
                  have HVX : Hid (val 65536 fx = dval us) := hps.out.lx.nonneg hdv
                  have hfl2 : fx.length ≤ 20000 := by omega
                  clear hdv
                  go_wp2_with fail
                  refine (make_any false ax cx fx _ (by omega) hps.out.lx.cap hps.out.lx.sl hps.out.lx.can.1).mono ?_
                  rintro e w2 ⟨g2, f2, rfl, hf2, hL2, hb2⟩
                  rw [HVX.out] at hL2
                  go_wp2_with fail
                  refine (big_any g2 ax cx f2 _ (by omega) hL2.sl.row hL2.can.1).mono ?_
                  rintro e w3 ⟨a5, c5, rfl, hr5, hF5, hb3⟩
                  have hB : Below wr.heap.size wr w3 := hb2.trans (hb3.mono hb2.size)
                  have P3 := hps.out.later hB
                  have r1 := P3.has.r1
                  have r2 := P3.has.r2
                  have r3 := P3.has.r3
                  have HB : Hid (Below w.heap.size w w3) := P3.bel
                  have hE : Hid (ResP ts (bigOut g2 f2).1 (bigOut g2 f2).2.1 (bigOut g2 f2).2.2) := .inr (.inr ⟨HSYN.out, by rw [HDIG.out]; exact hlen5, by rw [HDIG.out, HNEG.out]; exact res_big hL2⟩)
                  have HF : Hid (Far (w.heap.size + 1) a5 (bigOut g2 f2).2.1) := hF5.down (by have := hps.out.o0; have := hps.out.o1; have := hps.out.o2; have := hb2.size; omega)
                  have HR : Hid (RowAt .u32 w3 a5 (bigOut g2 f2).2.1) := hr5
                  clear hr5 hF5 hB hb2 hb3 hL2 P3 s0 s1 hps
                  generalize (bigOut g2 f2).1 = G at *
                  generalize (bigOut g2 f2).2.1 = Z at *
                  generalize (bigOut g2 f2).2.2 = K at *
                  go_wp2
                  refine bodyPost_ret (v := .tuple #[.agg #[.bool G, .slice a5 Z.length c5], .int .i64 K]) (by simp [results, Try.results23, go_sem, r1, r2]) rfl ?_
                  refine ⟨G, Z, K, a5, c5, rfl, hE.out, ?_, HF.out.down (by omega), ?_⟩
                  · exact (HR.out.setAway (HF.out.away (by simp)) _).setAway (HF.out.away (by simp)) _
                  · exact (HB.out.setCell (by simp) _).setCell (by simp) _
          · have HRP : Hid (ResP ts false [] 2) := .inr (.inl ⟨HSYN.out, by rw [HDIG.out]; omega, rfl, rfl, rfl⟩)
            have e48 : (u0 == 48) = false := by
              rw [beq_eq_false_iff_ne]
              intro h48
              exact HBAD.out ⟨h48, by omega⟩
            go_wp2
            refine bodyPost_ret (v := .tuple #[.agg #[.bool false, .slice none 0 0], .int .i64 2]) (by simp [results, Try.results23, go_sem]) rfl ?_
            exact ⟨false, [], 2, none, 0, rfl, HRP.out, .inl rfl, .inl rfl, bel0 _ _⟩

end Go.Proofs.Ytlbegmepmeimkab
