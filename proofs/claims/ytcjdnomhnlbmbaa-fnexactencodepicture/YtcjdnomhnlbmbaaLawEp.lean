/-
  The law of EncodePicture, for any program whose EncodePicture answers the bytes in new memory.
-/
import Derived.Test.YtcjdnomhnlbmbaaSpQ
import Derived.Test.YtcjdnomhnlbmbaaLawEs
namespace Go.Proofs.Ytcjdnomhnlbmbaa
open Go.RowKit

/-- The function answers a picture's bytes. -/
def EncPSays (f : FuncId) : Prop := ∀ (a1 a3 : Option Addr) (n1 n3 c1 c3 : Nat) (L : Int) (g : Nat → Int) (h : Nat → Bool) (w : World), n1 + n3 ≤ 1048576 → PcAt w a1 a3 n1 n3 g h →
  Calls Try.prog f #[.agg #[.slice a1 n1 c1, .int .i64 L, .slice a3 n3 c3]] w fun e w' => RowOut w (encPV n1 n3 g L h) e w'

theorem encPV_length (n1 n3 : Nat) (g : Nat → Int) (L : Int) (h : Nat → Bool) : (encPV n1 n3 g L h).length ≤ 10000 := by
  cases hv : validPc n1 n3 g L
  · rw [encPV_bad hv]; simp
  · rw [encPV_ok hv]
    unfold validPc at hv
    simp only [Bool.and_eq_true, decide_eq_true_eq] at hv
    obtain ⟨⟨⟨⟨q1, q2⟩, q3⟩, q4⟩, q5⟩ := hv
    have e1 : (n1 : Int) * L ≤ 40 * L := Int.mul_le_mul_of_nonneg_right (by omega) q2
    unfold encPc
    simp only [List.length_append, headP_length, idsB_length, litB_length]
    omega

set_option maxRecDepth 100000 in
set_option maxHeartbeats 16000000 in
theorem lawEncodePicture_any (hI : EncPSays 19) (a1 a3 : Option Addr) (n1 n3 c1 c3 : Nat) (L : Int) (g : Nat → Int) (h : Nat → Bool) (w : World) (h1 : n1 ≤ maxLen) (h3 : n3 ≤ maxLen) (hs : PcAt w a1 a3 n1 n3 g h) :
    Calls Try.prog 4 #[.agg #[.slice a1 n1 c1, .int .i64 L, .slice a3 n3 c3]] w fun e w' => e = .returned (.bool true) ∧ Below w.heap.size w w' := by
  have HSC : Hid (PcAt w a1 a3 n1 n3 g h) := hs
  have HI : Hid (EncPSays 19) := hI
  have HYL : Hid ((encPV n1 n3 g L h).length ≤ 10000) := encPV_length _ _ _ _ _
  obtain ⟨ys, hys⟩ : ∃ ys, ys = encPV n1 n3 g L h := ⟨_, rfl⟩
  have HY : Hid (ys = encPV n1 n3 g L h) := hys
  rw [← hys] at HYL
  clear hs hI hys
  go_enter Try.func4, Try.ntmps4
  go_wp2_with fail
  refine (szPicture_any a1 a3 n1 n3 c1 c3 L _ h1 h3).mono ?_
  rintro e W0 ⟨r, rfl, hr, hb⟩
  have F0 : Hid (LwP w a1 a3 n1 n3 c1 c3 L g h W0) := (LwP.start HSC.out _).later hb
  clear hb
  rcases hr with hr | ⟨hr, hn⟩
  · go_wp2
    go_ret
    exact ⟨rfl, F0.out.bel⟩
  · have HN : Hid (n1 + n3 ≤ 1048576) := hn
    have hrn : ¬ r < 0 := by omega
    have q0 := F0.out.bx.q0
    have q1 := F0.out.bx.q1
    have q2 := F0.out.bx.q2
    clear hn
    go_wp2_with fail
    refine (toPicture_any a1 a3 n1 n3 c1 c3 L g h _ HN.out F0.out.pc).mono ?_
    rintro e W1 ⟨b1, b3, m1, rfl, hi1, hb1⟩
    have F1 : Hid (LwP w a1 a3 n1 n3 c1 c3 L g h W1) := F0.out.later hb1
    have I1 : Hid (PcAt W1 b1 b3 n1 n3 g h) := hi1.at
    clear hb1 hi1 q0 q1 q2 F0
    go_wp2_with fail
    refine (encP_any b1 b3 n1 n3 n1 n3 L g h _ HN.out I1.out).mono ?_
    rintro e W2 hN2
    rw [← HY.out] at hN2
    obtain ⟨aw, cw, rfl, hr2, hb2⟩ := hN2.out
    have F2 : Hid (LwP w a1 a3 n1 n3 c1 c3 L g h W2) := F1.out.later hb2
    have RW2 : Hid (RowIn .u8 W2 W1.heap.size W2.heap.size aw ys) := hr2.rowIn
    have q0 := F2.out.bx.q0
    have q1 := F2.out.bx.q1
    have q2 := F2.out.bx.q2
    have L1 : Hid (w.heap.size < W1.heap.size) := F1.out.bx.lt
    have L2 : Hid (W1.heap.size ≤ W2.heap.size) := hb2.size
    clear hN2 hr2 hb2 F1 I1
    go_wp2_with fail
    refine (toPicture_any a1 a3 n1 n3 c1 c3 L g h _ HN.out F2.out.pc).mono ?_
    rintro e W3 ⟨d1, d3, k1, rfl, hi3, hb3⟩
    have F3 : Hid (∀ t, LwP w a1 a3 n1 n3 c1 c3 L g h (W3.alloc (.cells #[.slice d1 n1 n1, .int .i64 L, .slice d3 n3 n3] t))) := fun t => (F2.out.later hb3).later (bel0 _ _)
    have X3 : Hid (∀ t, BxS (W3.alloc (.cells #[.slice d1 n1 n1, .int .i64 L, .slice d3 n3 n3] t)) W3.heap.size (.slice d1 n1 n1) (.int .i64 L) (.slice d3 n3 n3)) := fun t => BxS.new _ _ _ _ _
    have I3 : Hid (∀ t, PcIn (W3.alloc (.cells #[.slice d1 n1 n1, .int .i64 L, .slice d3 n3 n3] t)) W2.heap.size W3.heap.size d1 d3 n1 n3 g h k1) := fun t => hi3.later (bel0 _ _)
    have RW3 : Hid (∀ t, RowIn .u8 (W3.alloc (.cells #[.slice d1 n1 n1, .int .i64 L, .slice d3 n3 n3] t)) W1.heap.size W2.heap.size aw ys) := fun t => (RW2.out.later hb3).later (bel0 _ _)
    have L3 : Hid (W2.heap.size ≤ W3.heap.size) := hb3.size
    clear hb3 hi3 q0 q1 q2 F2 RW2
    go_wp2_with fail
    refine (HI.out d1 d3 n1 n3 n1 n3 L g h _ HN.out (I3.out _).at).mono ?_
    rintro e W4 hN4
    rw [← HY.out] at hN4
    obtain ⟨ag, cg, rfl, hr4, hb4⟩ := hN4
    have F4 : Hid (LwP w a1 a3 n1 n3 c1 c3 L g h W4) := (F3.out _).later hb4
    have X4 : Hid (BxS W4 W3.heap.size (.slice d1 n1 n1) (.int .i64 L) (.slice d3 n3 n3)) := (X3.out _).later hb4
    have I4 : Hid (PcIn W4 W2.heap.size W3.heap.size d1 d3 n1 n3 g h k1) := (I3.out _).later hb4
    have RW4 : Hid (RowIn .u8 W4 W1.heap.size W2.heap.size aw ys) := (RW3.out _).later hb4
    have RG4 : Hid (RowIn .u8 W4 (W3.heap.size + 1) W4.heap.size ag ys) := by
      have := hr4.rowIn
      unfold Hid
      simpa using this
    have L4 : Hid (W3.heap.size + 1 ≤ W4.heap.size) := by have := hb4.size; unfold Hid; simpa using this
    clear hr4 hb4 F3 X3 I3 RW3
    go_wp2_with fail
    refine (eqY_any ag aw cg cw ys ys _ (by have := HYL.out; unfold maxLen; omega) (by have := HYL.out; unfold maxLen; omega) RG4.out.row RW4.out.row).mono ?_
    rintro e W5 ⟨rfl, hb5⟩
    rw [decide_eq_true rfl]
    have F5 : Hid (LwP w a1 a3 n1 n3 c1 c3 L g h W5) := F4.out.later hb5
    have X5 : Hid (BxS W5 W3.heap.size (.slice d1 n1 n1) (.int .i64 L) (.slice d3 n3 n3)) := X4.out.later hb5
    have I5 : Hid (PcIn W5 W2.heap.size W3.heap.size d1 d3 n1 n3 g h k1) := I4.out.later hb5
    have RW5 : Hid (RowIn .u8 W5 W1.heap.size W2.heap.size aw ys) := RW4.out.later hb5
    have RG5 : Hid (RowIn .u8 W5 (W3.heap.size + 1) W4.heap.size ag ys) := RG4.out.later hb5
    have L5 : Hid (W4.heap.size ≤ W5.heap.size) := hb5.size
    have HH : Hid (∀ w', Below W5.heap.size W5 w' → w'.cell? ⟨w.heap.size, 0, none⟩ = some (.slice a1 n1 c1) ∧ w'.cell? ⟨w.heap.size, 1, none⟩ = some (.int .i64 L) ∧ w'.cell? ⟨w.heap.size, 2, none⟩ = some (.slice a3 n3 c3) ∧ w'.cell? ⟨W3.heap.size, 0, none⟩ = some (.slice d1 n1 n1) ∧ w'.cell? ⟨W3.heap.size, 1, none⟩ = some (.int .i64 L) ∧ w'.cell? ⟨W3.heap.size, 2, none⟩ = some (.slice d3 n3 n3) ∧ Below W5.heap.size W5 w') := by
      intro w' hw
      have e1 := F5.out.bx.later hw
      have e2 := X5.out.later hw
      exact ⟨e1.q0, e1.q1, e1.q2, e2.q0, e2.q1, e2.q2, hw⟩
    clear hb5 F4 X4 I4 RW4 RG4
    go_wp2
    go_region_held3 (fun w' => w'.cell? ⟨w.heap.size, 0, none⟩ = some (.slice a1 n1 c1) ∧ w'.cell? ⟨w.heap.size, 1, none⟩ = some (.int .i64 L) ∧ w'.cell? ⟨w.heap.size, 2, none⟩ = some (.slice a3 n3 c3) ∧ w'.cell? ⟨W3.heap.size, 0, none⟩ = some (.slice d1 n1 n1) ∧ w'.cell? ⟨W3.heap.size, 1, none⟩ = some (.int .i64 L) ∧ w'.cell? ⟨W3.heap.size, 2, none⟩ = some (.slice d3 n3 n3) ∧ Below W5.heap.size W5 w')
      (first | exact HH.out _ (Below.refl _ _).drew | exact HH.out _ (by assumption))
      (first
        | (go_at_call 18; refine (toPicture_any a1 a3 n1 n3 c1 c3 L g h _ HN.out (F5.out.pc.later (Below.refl _ _).drew)).mono ?_; rintro e W6 ⟨g1, g3, j1, rfl, hi6, hb6⟩; have hB6 : Below W5.heap.size W5 W6 := (Below.refl _ _).drew.trans hb6)
        | (go_at_call 11; refine (eqPicture_same d1 d3 g1 g3 n1 n3 _ _ _ _ L g h _ HN.out (I5.out.at.later hB6) hi6.at).mono ?_; rintro e W7 ⟨rfl, hb7⟩; have hB7 : Below W5.heap.size W5 W7 := hB6.trans (hb7.mono hB6.size)))
    have F7 : Hid (LwP w a1 a3 n1 n3 c1 c3 L g h W7) := F5.out.later hB7
    have X7 : Hid (BxS W7 W3.heap.size (.slice d1 n1 n1) (.int .i64 L) (.slice d3 n3 n3)) := X5.out.later hB7
    have I7 : Hid (PcIn W7 W2.heap.size W3.heap.size d1 d3 n1 n3 g h k1) := I5.out.later hB7
    have RW7 : Hid (RowIn .u8 W7 W1.heap.size W2.heap.size aw ys) := RW5.out.later hB7
    have RG7 : Hid (RowIn .u8 W7 (W3.heap.size + 1) W4.heap.size ag ys) := RG5.out.later hB7
    have L7 : Hid (W4.heap.size ≤ W7.heap.size) := Nat.le_trans L5.out hB7.size
    clear hb6 hb7 hB6 hB7 hi6 F5 X5 I5 RW5 RG5 HH
    have q0 := X7.out.q0
    have q1 := X7.out.q1
    have q2 := X7.out.q2
    go_wp2_with fail
    refine (markPicture_any d1 d3 n1 n3 n1 n3 k1 W2.heap.size W3.heap.size L g h 1 _ HN.out (by decide) (by decide) I7.out).mono ?_
    rintro e W8 ⟨rfl, _, u8, hbu, hwu⟩
    have F8 : Hid (LwP w a1 a3 n1 n3 c1 c3 L g h W8) := (F7.out.later hbu).within HSC.out hwu (by have := L1.out; have := L2.out; omega)
    have RW8 : Hid (RowIn .u8 W8 W1.heap.size W2.heap.size aw ys) := RW7.out.both hbu hwu (.inl (Nat.le_refl _))
    have RG8 : Hid (RowIn .u8 W8 (W3.heap.size + 1) W4.heap.size ag ys) := RG7.out.both hbu hwu (.inr (Nat.le_succ _))
    have hk8 : ¬ (1 : Int) + n1 + n3 < 0 := by omega
    clear hbu hwu F7 X7 I7 RW7 RG7 q0 q1 q2
    go_wp2_with fail
    refine (eqY_any ag aw cg cw ys ys _ (by have := HYL.out; unfold maxLen; omega) (by have := HYL.out; unfold maxLen; omega) RG8.out.row RW8.out.row).mono ?_
    rintro e W9 ⟨rfl, hb9⟩
    rw [decide_eq_true rfl]
    have F9 : Hid (LwP w a1 a3 n1 n3 c1 c3 L g h W9) := F8.out.later hb9
    have RW9 : Hid (RowIn .u8 W9 W1.heap.size W2.heap.size aw ys) := RW8.out.later hb9
    have RG9 : Hid (RowIn .u8 W9 (W3.heap.size + 1) W4.heap.size ag ys) := RG8.out.later hb9
    clear hb9 F8 RW8 RG8 hk8
    go_wp2_with fail
    refine (markY2_any ag cg ys 1 _ (W3.heap.size + 1) W4.heap.size (by have := HYL.out; omega) (by decide) (by decide) RG9.out).mono ?_
    rintro e W10 ⟨rfl, hr10, hw10⟩
    have F10 : Hid (LwP w a1 a3 n1 n3 c1 c3 L g h W10) := F9.out.within HSC.out hw10 (by have := L1.out; have := L2.out; have := L3.out; omega)
    have RW10 : Hid (RowIn .u8 W10 W1.heap.size W2.heap.size aw ys) := RW9.out.apart hw10 (.inl (by have := L3.out; omega))
    have RG10 : Hid (RowAt .u8 W10 ag (marksY 1 ys.length)) := hr10.row
    clear hr10 hw10 F9 RW9 RG9
    go_wp2_with fail
    refine (heldY_any ag cg ys.length 1 _ (by have := HYL.out; omega) (by decide) (by decide) RG10.out).mono ?_
    rintro e W11 ⟨rfl, rfl⟩
    have hk11 : ¬ (1 : Int) + ys.length < 0 := by omega
    have hne11 : ((1 : Int) + ys.length != 1 + ys.length) = false := by simp
    have q0 := F10.out.bx.q0
    have q1 := F10.out.bx.q1
    have q2 := F10.out.bx.q2
    go_wp2_with fail
    refine (toPicture_any a1 a3 n1 n3 c1 c3 L g h _ HN.out F10.out.pc).mono ?_
    rintro e W12 ⟨f1, f3, t1, rfl, hi12, hb12⟩
    have F12 : Hid (LwP w a1 a3 n1 n3 c1 c3 L g h W12) := F10.out.later hb12
    have I12 : Hid (PcAt W12 f1 f3 n1 n3 g h) := hi12.at
    have RW12 : Hid (RowIn .u8 W12 W1.heap.size W2.heap.size aw ys) := RW10.out.later hb12
    clear hb12 hi12 F10 RW10 RG10 q0 q1 q2 hk11 hne11
    go_wp2_with fail
    refine (HI.out f1 f3 n1 n3 n1 n3 L g h _ HN.out I12.out).mono ?_
    rintro e W13 hN13
    rw [← HY.out] at hN13
    obtain ⟨ah, ch, rfl, hr13, hb13⟩ := hN13
    have F13 : Hid (LwP w a1 a3 n1 n3 c1 c3 L g h W13) := F12.out.later hb13
    have RW13 : Hid (RowIn .u8 W13 W1.heap.size W2.heap.size aw ys) := RW12.out.later hb13
    have RH13 : Hid (RowAt .u8 W13 ah ys) := hr13.row
    clear hr13 hb13 F12 I12 RW12
    go_wp2_with fail
    refine (eqY_any ah aw ch cw ys ys _ (by have := HYL.out; unfold maxLen; omega) (by have := HYL.out; unfold maxLen; omega) RH13.out RW13.out.row).mono ?_
    rintro e W14 ⟨rfl, hb14⟩
    rw [decide_eq_true rfl]
    have F14 : Hid (LwP w a1 a3 n1 n3 c1 c3 L g h W14) := F13.out.later hb14
    clear hb14 F13 RW13 RH13
    go_wp2
    go_ret
    exact ⟨rfl, F14.out.bel⟩

end Go.Proofs.Ytcjdnomhnlbmbaa
