/-
  The law of EncodePicture, for any program whose EncodePicture answers the bytes in new memory.
-/
import Derived.Test.YtcjdnomhnlbmbaaSpPSpQ
import Derived.Test.YtcjdnomhnlbmbaaIvSLawEs
import Derived.Test.YtcjdnomhnlbmbaaIpA
import Derived.Test.YtcjdnomhnlbmbaaIeS
namespace Go.Proofs.Ytcjdnomhnlbmbaa
open Go.RowKit

/-- The function answers a picture's bytes. -/
def EncPSays (f : FuncId) : Prop := ∀ (a1 a3 : Option Addr) (n1 n3 c1 c3 : Nat) (L : Int) (g : Nat → Int) (h : Nat → Bool) (w : World), n1 + n3 ≤ 1048576 → PcAt w a1 a3 n1 n3 g h →
  Calls Try.prog f #[.agg #[.slice a1 n1 c1, .int .i64 L, .slice a3 n3 c3]] w fun e w' => RowOut w (encPV n1 n3 g L h) e w'

theorem encPV_length (n1 n3 : Nat) (g : Nat → Int) (L : Int) (h : Nat → Bool) : (encPV n1 n3 g L h).length ≤ 10000 := by
  cases hv : validPc n1 n3 g L
  · rw [encPV_bad hv]; simp
  · rw [encPV_ok hv]
    unfold validPc at hv
    simp only [Bool.and_eq_true, decide_eq_true_eq] at hv
    obtain ⟨⟨⟨⟨q1, q2⟩, q3⟩, q4⟩, q5⟩ := hv
    have e1 : (n1 : Int) * L ≤ 40 * L := Int.mul_le_mul_of_nonneg_right (by omega) q2
    unfold encPc
    simp only [List.length_append, headP_length, idsB_length, litB_length]
    omega

set_option maxRecDepth 100000 in
set_option maxHeartbeats 16000000 in
theorem lawEncodePicture_any (hI : EncPSays 19) (a1 a3 : Option Addr) (n1 n3 c1 c3 : Nat) (L : Int) (g : Nat → Int) (h : Nat → Bool) (w : World) (h1 : n1 ≤ maxLen) (h3 : n3 ≤ maxLen) (hs : PcAt w a1 a3 n1 n3 g h) :
    Calls Try.prog 4 #[.agg #[.slice a1 n1 c1, .int .i64 L, .slice a3 n3 c3]] w fun e w' => e = .returned (.bool true) ∧ Below w.heap.size w w' := by
  have HSC : Hid (PcAt w a1 a3 n1 n3 g h) := hs
  have HI : Hid (EncPSays 19) := hI
  have HYL : Hid ((encPV n1 n3 g L h).length ≤ 10000) := encPV_length _ _ _ _ _
  obtain ⟨ys, hys⟩ : ∃ ys, ys = encPV n1 n3 g L h := ⟨_, rfl⟩
  have HY : Hid (ys = encPV n1 n3 g L h) := hys
  rw [← hys] at HYL
  clear hs hI hys
  go_enter Try.func4, Try.ntmps4
  go_wp2_with fail
  refine (szPicture_any a1 a3 n1 n3 c1 c3 L _ h1 h3).mono ?_
  rintro e W0 ⟨r, rfl, hr, hb⟩
  have F0 : Hid (LwP w a1 a3 n1 n3 c1 c3 L g h W0) := (LwP.start HSC.out _).later hb
  clear hb
  rcases hr with hr | ⟨hr, hn⟩
  · go_wp2
    go_ret
    exact ⟨rfl, F0.out.bel⟩
  · have HN : Hid (n1 + n3 ≤ 1048576) := hn
    have hrn : ¬ r < 0 := by omega
    have q0 := F0.out.bx.q0
    have q1 := F0.out.bx.q1
    have q2 := F0.out.bx.q2
    clear hn
    go_wp2_with fail
    refine (toPicture_any a1 a3 n1 n3 c1 c3 L g h _ HN.out F0.out.pc).mono ?_
    rintro e W1 ⟨b1, b3, m1, rfl, hi1, hb1⟩
    have F1 : Hid (LwP w a1 a3 n1 n3 c1 c3 L g h W1) := F0.out.later hb1
    have I1 : Hid (PcAt W1 b1 b3 n1 n3 g h) := hi1.at
    clear hb1 hi1 q0 q1 q2 F0
    go_wp2_with fail
    refine (encP_any b1 b3 n1 n3 n1 n3 L g h _ HN.out I1.out).mono ?_
    rintro e W2 hN2
    rw [← HY.out] at hN2
    obtain ⟨aw, cw, rfl, hr2, hb2⟩ := hN2.out
    have F2 : Hid (LwP w a1 a3 n1 n3 c1 c3 L g h W2) := F1.out.later hb2
    have RW2 : Hid (RowIn .u8 W2 W1.heap.size W2.heap.size aw ys) := hr2.rowIn
    have q0 := F2.out.bx.q0
    have q1 := F2.out.bx.q1
    have q2 := F2.out.bx.q2
    have L1 : Hid (w.heap.size < W1.heap.size) := F1.out.bx.lt
    have L2 : Hid (W1.heap.size ≤ W2.heap.size) := hb2.size
    clear hN2 hr2 hb2 F1 I1
    go_wp2_with fail
    refine (toPicture_any a1 a3 n1 n3 c1 c3 L g h _ HN.out F2.out.pc).mono ?_
    rintro e W3 ⟨d1, d3, k1, rfl, hi3, hb3⟩
    have F3 : Hid (∀ t, LwP w a1 a3 n1 n3 c1 c3 L g h (W3.alloc (.cells #[.slice d1 n1 n1, .int .i64 L, .slice d3 n3 n3] t))) := fun t => (F2.out.later hb3).later (bel0 _ _)
    have X3 : Hid (∀ t, BxS (W3.alloc (.cells #[.slice d1 n1 n1, .int .i64 L, .slice d3 n3 n3] t)) W3.heap.size (.slice d1 n1 n1) (.int .i64 L) (.slice d3 n3 n3)) := fun t => BxS.new _ _ _ _ _
    have I3 : Hid (∀ t, PcIn (W3.alloc (.cells #[.slice d1 n1 n1, .int .i64 L, .slice d3 n3 n3] t)) W2.heap.size W3.heap.size d1 d3 n1 n3 g h k1) := fun t => hi3.later (bel0 _ _)
    have RW3 : Hid (∀ t, RowIn .u8 (W3.alloc (.cells #[.slice d1 n1 n1, .int .i64 L, .slice d3 n3 n3] t)) W1.heap.size W2.heap.size aw ys) := fun t => (RW2.out.later hb3).later (bel0 _ _)
    have L3 : Hid (W2.heap.size ≤ W3.heap.size) := hb3.size
    clear hb3 hi3 q0 q1 q2 F2 RW2
    go_wp2_with fail
    refine (HI.out d1 d3 n1 n3 n1 n3 L g h _ HN.out (I3.out _).at).mono ?_
    rintro e W4 hN4
    rw [← HY.out] at hN4
    obtain ⟨ag, cg, rfl, hr4, hb4⟩ := hN4
    have F4 : Hid (LwP w a1 a3 n1 n3 c1 c3 L g h W4) := (F3.out _).later hb4
    have X4 : Hid (BxS W4 W3.heap.size (.slice d1 n1 n1) (.int .i64 L) (.slice d3 n3 n3)) := (X3.out _).later hb4
    have I4 : Hid (PcIn W4 W2.heap.size W3.heap.size d1 d3 n1 n3 g h k1) := (I3.out _).later hb4
    have RW4 : Hid (RowIn .u8 W4 W1.heap.size W2.heap.size aw ys) := (RW3.out _).later hb4
    have RG4 : Hid (RowIn .u8 W4 (W3.heap.size + 1) W4.heap.size ag ys) := by
      have := hr4.rowIn
      unfold Hid
      simpa using this
    have L4 : Hid (W3.heap.size + 1 ≤ W4.heap.size) := by have := hb4.size; unfold Hid; simpa using this
    clear hr4 hb4 F3 X3 I3 RW3
    go_wp2_with fail
    refine (eqY_any ag aw cg cw ys ys _ (by have := HYL.out; unfold maxLen; omega) (by have := HYL.out; unfold maxLen; omega) RG4.out.row RW4.out.row).mono ?_
    rintro e W5 ⟨rfl, hb5⟩
    rw [decide_eq_true rfl]
    have F5 : Hid (LwP w a1 a3 n1 n3 c1 c3 L g h W5) := F4.out.later hb5
    have X5 : Hid (BxS W5 W3.heap.size (.slice d1 n1 n1) (.int .i64 L) (.slice d3 n3 n3)) := X4.out.later hb5
    have I5 : Hid (PcIn W5 W2.heap.size W3.heap.size d1 d3 n1 n3 g h k1) := I4.out.later hb5
    have RW5 : Hid (RowIn .u8 W5 W1.heap.size W2.heap.size aw ys) := RW4.out.later hb5
    have RG5 : Hid (RowIn .u8 W5 (W3.heap.size + 1) W4.heap.size ag ys) := RG4.out.later hb5
    have L5 : Hid (W4.heap.size ≤ W5.heap.size) := hb5.size
    have HH : Hid (∀ w', Below W5.heap.size W5 w' → w'.cell? ⟨w.heap.size, 0, none⟩ = some (.slice a1 n1 c1) ∧ w'.cell? ⟨w.heap.size, 1, none⟩ = some (.int .i64 L) ∧ w'.cell? ⟨w.heap.size, 2, none⟩ = some (.slice a3 n3 c3) ∧ w'.cell? ⟨W3.heap.size, 0, none⟩ = some (.slice d1 n1 n1) ∧ w'.cell? ⟨W3.heap.size, 1, none⟩ = some (.int .i64 L) ∧ w'.cell? ⟨W3.heap.size, 2, none⟩ = some (.slice d3 n3 n3) ∧ Below W5.heap.size W5 w') := by
      intro w' hw
      have e1 := F5.out.bx.later hw
      have e2 := X5.out.later hw
      exact ⟨e1.q0, e1.q1, e1.q2, e2.q0, e2.q1, e2.q2, hw⟩
    clear hb5 F4 X4 I4 RW4 RG4
    go_wp2
    go_region_held3 (fun w' => w'.cell? ⟨w.heap.size, 0, none⟩ = some (.slice a1 n1 c1) ∧ w'.cell? ⟨w.heap.size, 1, none⟩ = some (.int .i64 L) ∧ w'.cell? ⟨w.heap.size, 2, none⟩ = some (.slice a3 n3 c3) ∧ w'.cell? ⟨W3.heap.size, 0, none⟩ = some (.slice d1 n1 n1) ∧ w'.cell? ⟨W3.heap.size, 1, none⟩ = some (.int .i64 L) ∧ w'.cell? ⟨W3.heap.size, 2, none⟩ = some (.slice d3 n3 n3) ∧ Below W5.heap.size W5 w')
      (first | exact HH.out _ (Below.refl _ _).drew | exact HH.out _ (by assumption))
      (first
        | (go_at_call 18; refine (toPicture_any a1 a3 n1 n3 c1 c3 L g h _ HN.out (F5.out.pc.later (Below.refl _ _).drew)).mono ?_; rintro e W6 ⟨g1, g3, j1, rfl, hi6, hb6⟩; have hB6 : Below W5.heap.size W5 W6 := (Below.refl _ _).drew.trans hb6)
        | (go_at_call 11; refine (eqPicture_same d1 d3 g1 g3 n1 n3 _ _ _ _ L g h _ HN.out (I5.out.at.later hB6) hi6.at).mono ?_; rintro e W7 ⟨rfl, hb7⟩; have hB7 : Below W5.heap.size W5 W7 := hB6.trans (hb7.mono hB6.size)))
    have F7 : Hid (LwP w a1 a3 n1 n3 c1 c3 L g h W7) := F5.out.later hB7
    have X7 : Hid (BxS W7 W3.heap.size (.slice d1 n1 n1) (.int .i64 L) (.slice d3 n3 n3)) := X5.out.later hB7
    have I7 : Hid (PcIn W7 W2.heap.size W3.heap.size d1 d3 n1 n3 g h k1) := I5.out.later hB7
    have RW7 : Hid (RowIn .u8 W7 W1.heap.size W2.heap.size aw ys) := RW5.out.later hB7
    have RG7 : Hid (RowIn .u8 W7 (W3.heap.size + 1) W4.heap.size ag ys) := RG5.out.later hB7
    have L7 : Hid (W4.heap.size ≤ W7.heap.size) := Nat.le_trans L5.out hB7.size
    clear hb6 hb7 hB6 hB7 hi6 F5 X5 I5 RW5 RG5 HH
    have q0 := X7.out.q0
    have q1 := X7.out.q1
    have q2 := X7.out.q2
    go_wp2_with fail
    refine (markPicture_any d1 d3 n1 n3 n1 n3 k1 W2.heap.size W3.heap.size L g h 1 _ HN.out (by decide) (by decide) I7.out).mono ?_
    rintro e W8 ⟨rfl, _, u8, hbu, hwu⟩
    have F8 : Hid (LwP w a1 a3 n1 n3 c1 c3 L g h W8) := (F7.out.later hbu).within HSC.out hwu (by have := L1.out; have := L2.out; omega)
    have RW8 : Hid (RowIn .u8 W8 W1.heap.size W2.heap.size aw ys) := RW7.out.both hbu hwu (.inl (Nat.le_refl _))
    have RG8 : Hid (RowIn .u8 W8 (W3.heap.size + 1) W4.heap.size ag ys) := RG7.out.both hbu hwu (.inr (Nat.le_succ _))
    have hk8 : ¬ (1 : Int) + n1 + n3 < 0 := by omega
    clear hbu hwu F7 X7 I7 RW7 RG7 q0 q1 q2
    go_wp2_with fail
    refine (eqY_any ag aw cg cw ys ys _ (by have := HYL.out; unfold maxLen; omega) (by have := HYL.out; unfold maxLen; omega) RG8.out.row RW8.out.row).mono ?_
    rintro e W9 ⟨rfl, hb9⟩
    rw [decide_eq_true rfl]
    have F9 : Hid (LwP w a1 a3 n1 n3 c1 c3 L g h W9) := F8.out.later hb9
    have RW9 : Hid (RowIn .u8 W9 W1.heap.size W2.heap.size aw ys) := RW8.out.later hb9
    have RG9 : Hid (RowIn .u8 W9 (W3.heap.size + 1) W4.heap.size ag ys) := RG8.out.later hb9
    clear hb9 F8 RW8 RG8 hk8
    go_wp2_with fail
    refine (markY2_any ag cg ys 1 _ (W3.heap.size + 1) W4.heap.size (by have := HYL.out; omega) (by decide) (by decide) RG9.out).mono ?_
    rintro e W10 ⟨rfl, hr10, hw10⟩
    have F10 : Hid (LwP w a1 a3 n1 n3 c1 c3 L g h W10) := F9.out.within HSC.out hw10 (by have := L1.out; have := L2.out; have := L3.out; omega)
    have RW10 : Hid (RowIn .u8 W10 W1.heap.size W2.heap.size aw ys) := RW9.out.apart hw10 (.inl (by have := L3.out; omega))
    have RG10 : Hid (RowAt .u8 W10 ag (marksY 1 ys.length)) := hr10.row
    clear hr10 hw10 F9 RW9 RG9
    go_wp2_with fail
    refine (heldY_any ag cg ys.length 1 _ (by have := HYL.out; omega) (by decide) (by decide) RG10.out).mono ?_
    rintro e W11 ⟨rfl, rfl⟩
    have hk11 : ¬ (1 : Int) + ys.length < 0 := by omega
    have hne11 : ((1 : Int) + ys.length != 1 + ys.length) = false := by simp
    have q0 := F10.out.bx.q0
    have q1 := F10.out.bx.q1
    have q2 := F10.out.bx.q2
    go_wp2_with fail
    refine (toPicture_any a1 a3 n1 n3 c1 c3 L g h _ HN.out F10.out.pc).mono ?_
    rintro e W12 ⟨f1, f3, t1, rfl, hi12, hb12⟩
    have F12 : Hid (LwP w a1 a3 n1 n3 c1 c3 L g h W12) := F10.out.later hb12
    have I12 : Hid (PcAt W12 f1 f3 n1 n3 g h) := hi12.at
    have RW12 : Hid (RowIn .u8 W12 W1.heap.size W2.heap.size aw ys) := RW10.out.later hb12
    clear hb12 hi12 F10 RW10 RG10 q0 q1 q2 hk11 hne11
    go_wp2_with fail
    refine (HI.out f1 f3 n1 n3 n1 n3 L g h _ HN.out I12.out).mono ?_
    rintro e W13 hN13
    rw [← HY.out] at hN13
    obtain ⟨ah, ch, rfl, hr13, hb13⟩ := hN13
    have F13 : Hid (LwP w a1 a3 n1 n3 c1 c3 L g h W13) := F12.out.later hb13
    have RW13 : Hid (RowIn .u8 W13 W1.heap.size W2.heap.size aw ys) := RW12.out.later hb13
    have RH13 : Hid (RowAt .u8 W13 ah ys) := hr13.row
    clear hr13 hb13 F12 I12 RW12
    go_wp2_with fail
    refine (eqY_any ah aw ch cw ys ys _ (by have := HYL.out; unfold maxLen; omega) (by have := HYL.out; unfold maxLen; omega) RH13.out RW13.out.row).mono ?_
    rintro e W14 ⟨rfl, hb14⟩
    rw [decide_eq_true rfl]
    have F14 : Hid (LwP w a1 a3 n1 n3 c1 c3 L g h W14) := F13.out.later hb14
    clear hb14 F13 RW13 RH13
    go_wp2
    go_ret
    exact ⟨rfl, F14.out.bel⟩

end Go.Proofs.Ytcjdnomhnlbmbaa

/-
  The program's validPicture, appendBits and EncodePicture.
-/
namespace Go.Proofs.Ytcjdnomhnlbmbaa
open Go.RowKit

/-- The lowest t bits of the byte that begins with bit i. -/
def lowF (n3 : Nat) (h : Nat → Bool) (i : Nat) : Nat → Int
  | 0 => 0
  | t + 1 => lowF n3 h i t + bitF n3 h (i + t) * 2 ^ t

theorem lowF_bounds (n3 : Nat) (h : Nat → Bool) (i : Nat) : ∀ t, 0 ≤ lowF n3 h i t ∧ lowF n3 h i t < 2 ^ t
  | 0 => by simp [lowF]
  | t + 1 => by
    have h1 := lowF_bounds n3 h i t
    simp only [lowF, Int.pow_succ]
    unfold bitF
    split <;> omega
theorem lowF_all (n3 : Nat) (h : Nat → Bool) (i : Nat) : lowF n3 h i 8 = bitsF n3 h i 8 := by
  simp [lowF, bitsF]
  omega

/-- Memory when j bits have been written. -/
def BitsAt (W : World) (X base g0 : Nat) (ys : List Int) (n3 : Nat) (h : Nat → Bool) (j : Nat) (wr : World) : Prop :=
  ∃ g n c, BtS W X base g0 (lowF n3 h (8 * (j / 8)) (j % 8)) ((j % 8 : Nat) : Int) g n c (ys ++ litB n3 h (j / 8)) wr

theorem BitsAt.next {W : World} {X base g0 : Nat} {ys : List Int} {n3 : Nat} {h : Nat → Bool} {j : Nat} {e : Ending} {w' : World} {f : Int} {u : Nat} {zs : List Int} (hp : PutOut W X base g0 f u zs e w') (hu : u = (j + 1) % 8) (hf : f = lowF n3 h (8 * ((j + 1) / 8)) ((j + 1) % 8)) (hz : zs = ys ++ litB n3 h ((j + 1) / 8)) : e = .returned (.tuple #[]) ∧ BitsAt W X base g0 ys n3 h (j + 1) w' := by
  obtain ⟨he, g, n, c, hb⟩ := hp
  subst hu hf hz
  exact ⟨he, g, n, c, hb⟩

theorem bitF_on {n3 : Nat} {h : Nat → Bool} {j : Nat} (hb : (decide (j < n3) && h j) = true) : bitF n3 h j = 1 := by
  simp at hb
  unfold bitF
  rw [if_pos hb]
theorem bitF_off {n3 : Nat} {h : Nat → Bool} {j : Nat} (hb : (decide (j < n3) && h j) = false) : bitF n3 h j = 0 := by
  unfold bitF
  rw [if_neg]
  intro hh
  simp [hh.1, hh.2] at hb

set_option maxHeartbeats 2000000 in
theorem put_any (W : World) (X base g0 : Nat) (ys : List Int) (n3 : Nat) (h : Nat → Bool) (j : Nat) (bit : Bool) (w : World) (hb : (decide (j < n3) && h j) = bit) (hj : j ≤ 400000) (hy : ys.length ≤ 500000) (hs : BitsAt W X base g0 ys n3 h j w) :
    Calls Try.prog 85 #[.bool bit, .pointer (some ⟨X + 1, 0, none⟩), .pointer (some ⟨X + 2, 0, none⟩), .pointer (some ⟨X, 0, none⟩)] w fun e w' => e = .returned (.tuple #[]) ∧ BitsAt W X base g0 ys n3 h (j + 1) w' := by
  obtain ⟨g, n, c, hB⟩ := hs
  have hyl : (ys ++ litB n3 h (j / 8)).length ≤ 1000000 := by rw [List.length_append, litB_length]; omega
  obtain ⟨m, hm⟩ : ∃ m, m = j / 8 := ⟨_, rfl⟩
  have h0 := (lowF_bounds n3 h (8 * m) (j % 8)).1
  have h1 := (lowF_bounds n3 h (8 * m) (j % 8)).2
  have hj8 : j % 8 = 0 ∨ j % 8 = 1 ∨ j % 8 = 2 ∨ j % 8 = 3 ∨ j % 8 = 4 ∨ j % 8 = 5 ∨ j % 8 = 6 ∨ j % 8 = 7 := by omega
  rw [← hm] at hB hyl
  rcases hj8 with h8 | h8 | h8 | h8 | h8 | h8 | h8 | h8
  · have e1 : (j + 1) / 8 = m := by omega
    have e2 : (j + 1) % 8 = 1 := by omega
    have e3 : 8 * m + 0 = j := by omega
    rw [h8] at hB h0 h1
    cases bit
    · have hz : bitF n3 h (8 * m + 0) = 0 := by rw [e3]; exact bitF_off hb
      refine (put_false0 W X base g0 _ g n c _ w hB).mono ?_
      intro e w' hp
      refine BitsAt.next hp e2.symm ?_ (by rw [e1])
      rw [e1, e2]
      show _ = lowF n3 h (8 * m) 0 + bitF n3 h (8 * m + 0) * 2 ^ 0
      rw [hz, Int.zero_mul, Int.add_zero]
    · have hz : bitF n3 h (8 * m + 0) = 1 := by rw [e3]; exact bitF_on hb
      have h1' : lowF n3 h (8 * m) 0 < 1 := Int.lt_of_lt_of_le h1 (by decide)
      clear h1
      refine (put_true0 W X base g0 _ g n c _ w h0 h1' hB).mono ?_
      intro e w' hp
      refine BitsAt.next hp e2.symm ?_ (by rw [e1])
      rw [e1, e2]
      show _ = lowF n3 h (8 * m) 0 + bitF n3 h (8 * m + 0) * 2 ^ 0
      rw [hz, Int.one_mul, show ((2 : Int) ^ 0) = 1 from by decide]
  · have e1 : (j + 1) / 8 = m := by omega
    have e2 : (j + 1) % 8 = 2 := by omega
    have e3 : 8 * m + 1 = j := by omega
    rw [h8] at hB h0 h1
    cases bit
    · have hz : bitF n3 h (8 * m + 1) = 0 := by rw [e3]; exact bitF_off hb
      refine (put_false1 W X base g0 _ g n c _ w hB).mono ?_
      intro e w' hp
      refine BitsAt.next hp e2.symm ?_ (by rw [e1])
      rw [e1, e2]
      show _ = lowF n3 h (8 * m) 1 + bitF n3 h (8 * m + 1) * 2 ^ 1
      rw [hz, Int.zero_mul, Int.add_zero]
    · have hz : bitF n3 h (8 * m + 1) = 1 := by rw [e3]; exact bitF_on hb
      have h1' : lowF n3 h (8 * m) 1 < 2 := Int.lt_of_lt_of_le h1 (by decide)
      clear h1
      refine (put_true1 W X base g0 _ g n c _ w h0 h1' hB).mono ?_
      intro e w' hp
      refine BitsAt.next hp e2.symm ?_ (by rw [e1])
      rw [e1, e2]
      show _ = lowF n3 h (8 * m) 1 + bitF n3 h (8 * m + 1) * 2 ^ 1
      rw [hz, Int.one_mul, show ((2 : Int) ^ 1) = 2 from by decide]
  · have e1 : (j + 1) / 8 = m := by omega
    have e2 : (j + 1) % 8 = 3 := by omega
    have e3 : 8 * m + 2 = j := by omega
    rw [h8] at hB h0 h1
    cases bit
    · have hz : bitF n3 h (8 * m + 2) = 0 := by rw [e3]; exact bitF_off hb
      refine (put_false2 W X base g0 _ g n c _ w hB).mono ?_
      intro e w' hp
      refine BitsAt.next hp e2.symm ?_ (by rw [e1])
      rw [e1, e2]
      show _ = lowF n3 h (8 * m) 2 + bitF n3 h (8 * m + 2) * 2 ^ 2
      rw [hz, Int.zero_mul, Int.add_zero]
    · have hz : bitF n3 h (8 * m + 2) = 1 := by rw [e3]; exact bitF_on hb
      have h1' : lowF n3 h (8 * m) 2 < 4 := Int.lt_of_lt_of_le h1 (by decide)
      clear h1
      refine (put_true2 W X base g0 _ g n c _ w h0 h1' hB).mono ?_
      intro e w' hp
      refine BitsAt.next hp e2.symm ?_ (by rw [e1])
      rw [e1, e2]
      show _ = lowF n3 h (8 * m) 2 + bitF n3 h (8 * m + 2) * 2 ^ 2
      rw [hz, Int.one_mul, show ((2 : Int) ^ 2) = 4 from by decide]
  · have e1 : (j + 1) / 8 = m := by omega
    have e2 : (j + 1) % 8 = 4 := by omega
    have e3 : 8 * m + 3 = j := by omega
    rw [h8] at hB h0 h1
    cases bit
    · have hz : bitF n3 h (8 * m + 3) = 0 := by rw [e3]; exact bitF_off hb
      refine (put_false3 W X base g0 _ g n c _ w hB).mono ?_
      intro e w' hp
      refine BitsAt.next hp e2.symm ?_ (by rw [e1])
      rw [e1, e2]
      show _ = lowF n3 h (8 * m) 3 + bitF n3 h (8 * m + 3) * 2 ^ 3
      rw [hz, Int.zero_mul, Int.add_zero]
    · have hz : bitF n3 h (8 * m + 3) = 1 := by rw [e3]; exact bitF_on hb
      have h1' : lowF n3 h (8 * m) 3 < 8 := Int.lt_of_lt_of_le h1 (by decide)
      clear h1
      refine (put_true3 W X base g0 _ g n c _ w h0 h1' hB).mono ?_
      intro e w' hp
      refine BitsAt.next hp e2.symm ?_ (by rw [e1])
      rw [e1, e2]
      show _ = lowF n3 h (8 * m) 3 + bitF n3 h (8 * m + 3) * 2 ^ 3
      rw [hz, Int.one_mul, show ((2 : Int) ^ 3) = 8 from by decide]
  · have e1 : (j + 1) / 8 = m := by omega
    have e2 : (j + 1) % 8 = 5 := by omega
    have e3 : 8 * m + 4 = j := by omega
    rw [h8] at hB h0 h1
    cases bit
    · have hz : bitF n3 h (8 * m + 4) = 0 := by rw [e3]; exact bitF_off hb
      refine (put_false4 W X base g0 _ g n c _ w hB).mono ?_
      intro e w' hp
      refine BitsAt.next hp e2.symm ?_ (by rw [e1])
      rw [e1, e2]
      show _ = lowF n3 h (8 * m) 4 + bitF n3 h (8 * m + 4) * 2 ^ 4
      rw [hz, Int.zero_mul, Int.add_zero]
    · have hz : bitF n3 h (8 * m + 4) = 1 := by rw [e3]; exact bitF_on hb
      have h1' : lowF n3 h (8 * m) 4 < 16 := Int.lt_of_lt_of_le h1 (by decide)
      clear h1
      refine (put_true4 W X base g0 _ g n c _ w h0 h1' hB).mono ?_
      intro e w' hp
      refine BitsAt.next hp e2.symm ?_ (by rw [e1])
      rw [e1, e2]
      show _ = lowF n3 h (8 * m) 4 + bitF n3 h (8 * m + 4) * 2 ^ 4
      rw [hz, Int.one_mul, show ((2 : Int) ^ 4) = 16 from by decide]
  · have e1 : (j + 1) / 8 = m := by omega
    have e2 : (j + 1) % 8 = 6 := by omega
    have e3 : 8 * m + 5 = j := by omega
    rw [h8] at hB h0 h1
    cases bit
    · have hz : bitF n3 h (8 * m + 5) = 0 := by rw [e3]; exact bitF_off hb
      refine (put_false5 W X base g0 _ g n c _ w hB).mono ?_
      intro e w' hp
      refine BitsAt.next hp e2.symm ?_ (by rw [e1])
      rw [e1, e2]
      show _ = lowF n3 h (8 * m) 5 + bitF n3 h (8 * m + 5) * 2 ^ 5
      rw [hz, Int.zero_mul, Int.add_zero]
    · have hz : bitF n3 h (8 * m + 5) = 1 := by rw [e3]; exact bitF_on hb
      have h1' : lowF n3 h (8 * m) 5 < 32 := Int.lt_of_lt_of_le h1 (by decide)
      clear h1
      refine (put_true5 W X base g0 _ g n c _ w h0 h1' hB).mono ?_
      intro e w' hp
      refine BitsAt.next hp e2.symm ?_ (by rw [e1])
      rw [e1, e2]
      show _ = lowF n3 h (8 * m) 5 + bitF n3 h (8 * m + 5) * 2 ^ 5
      rw [hz, Int.one_mul, show ((2 : Int) ^ 5) = 32 from by decide]
  · have e1 : (j + 1) / 8 = m := by omega
    have e2 : (j + 1) % 8 = 7 := by omega
    have e3 : 8 * m + 6 = j := by omega
    rw [h8] at hB h0 h1
    cases bit
    · have hz : bitF n3 h (8 * m + 6) = 0 := by rw [e3]; exact bitF_off hb
      refine (put_false6 W X base g0 _ g n c _ w hB).mono ?_
      intro e w' hp
      refine BitsAt.next hp e2.symm ?_ (by rw [e1])
      rw [e1, e2]
      show _ = lowF n3 h (8 * m) 6 + bitF n3 h (8 * m + 6) * 2 ^ 6
      rw [hz, Int.zero_mul, Int.add_zero]
    · have hz : bitF n3 h (8 * m + 6) = 1 := by rw [e3]; exact bitF_on hb
      have h1' : lowF n3 h (8 * m) 6 < 64 := Int.lt_of_lt_of_le h1 (by decide)
      clear h1
      refine (put_true6 W X base g0 _ g n c _ w h0 h1' hB).mono ?_
      intro e w' hp
      refine BitsAt.next hp e2.symm ?_ (by rw [e1])
      rw [e1, e2]
      show _ = lowF n3 h (8 * m) 6 + bitF n3 h (8 * m + 6) * 2 ^ 6
      rw [hz, Int.one_mul, show ((2 : Int) ^ 6) = 64 from by decide]
  · have e1 : (j + 1) / 8 = m + 1 := by omega
    have e2 : (j + 1) % 8 = 0 := by omega
    have e3 : 8 * m + 7 = j := by omega
    rw [h8] at hB h0 h1
    cases bit
    · have hz : bitF n3 h (8 * m + 7) = 0 := by rw [e3]; exact bitF_off hb
      refine (put_false7 W X base g0 _ g n c _ w hyl hB).mono ?_
      intro e w' hp
      refine BitsAt.next hp e2.symm (by rw [e2]; rfl) ?_
      rw [e1, litB, ← List.append_assoc, ← lowF_all]
      show _ = _ ++ [lowF n3 h (8 * m) 7 + bitF n3 h (8 * m + 7) * 2 ^ 7]
      rw [hz, Int.zero_mul, Int.add_zero]
    · have hz : bitF n3 h (8 * m + 7) = 1 := by rw [e3]; exact bitF_on hb
      have h1' : lowF n3 h (8 * m) 7 < 128 := Int.lt_of_lt_of_le h1 (by decide)
      clear h1
      refine (put_true7 W X base g0 _ g n c _ w h0 h1' hyl hB).mono ?_
      intro e w' hp
      refine BitsAt.next hp e2.symm (by rw [e2]; rfl) ?_
      rw [e1, litB, ← List.append_assoc, ← lowF_all]
      show _ = _ ++ [lowF n3 h (8 * m) 7 + bitF n3 h (8 * m + 7) * 2 ^ 7]
      rw [hz, Int.one_mul, show ((2 : Int) ^ 7) = 128 from by decide]

theorem BtS.start {W : World} {base g0 n0 c0 : Nat} {ys : List Int} (ho : OwnY W base (.slice (some ⟨g0, 0, none⟩) n0 c0) ys) (hb : base ≤ W.heap.size) (t1 t2 t3 : TypeId) :
    BtS W W.heap.size base g0 0 0 g0 n0 c0 ys (((W.alloc (.cells #[.slice (some ⟨g0, 0, none⟩) n0 c0] t1)).alloc (.cells #[.int .u8 0] t2)).alloc (.cells #[.int .i64 0] t3)) := by
  have hl := (ho.blk (k := g0) (by simp [Value.ownBlock])).2
  refine ⟨rfl, by simp [go_sem], by simp [go_sem], by simp [go_sem], ?_, by simp, ho.later (bel3 _ _ _ _), .inl rfl, gb_of (bel3 _ _ _ _) _, hl, hb⟩
  intro k h1 h2
  have hk : k = W.heap.size ∨ k = W.heap.size + 1 ∨ k = W.heap.size + 2 := by omega
  rcases hk with rfl | rfl | rfl <;> simp [go_sem]

/-- How many bits of the byte are used. -/
def usedOf (X : Nat) (wr : World) : Nat := match wr.cell? ⟨X + 2, 0, none⟩ with
  | some (.int _ z) => z.toNat
  | _ => 0

set_option maxRecDepth 100000 in
set_option maxHeartbeats 1000000 in
theorem appBits_any (base g n0 c0 : Nat) (ys : List Int) (a : Option Addr) (n c : Nat) (h : Nat → Bool) (w : World) (hn : n ≤ 10000) (hz : RowF w a n (boolF h)) (hap : ∀ b off, a = some ⟨b, off, none⟩ → n ≠ 0 → g ≠ b) (hy : ys.length ≤ 500000) (ho : OwnY w base (.slice (some ⟨g, 0, none⟩) n0 c0) ys) (hb : base ≤ w.heap.size) :
    Calls Try.prog 50 #[.slice (some ⟨g, 0, none⟩) n0 c0, .slice a n c] w fun e w' => MoreY w base (some g) (ys ++ litB n h ((n + 7) / 8)) e w' := by
  have HZ : Hid (RowF w a n (boolF h)) := hz
  have HA : Hid (∀ b off, a = some ⟨b, off, none⟩ → n ≠ 0 → g ≠ b) := hap
  have HO : Hid (OwnY w base (.slice (some ⟨g, 0, none⟩) n0 c0) ys) := ho
  have hmf : ∀ (fn : Fn) (first cap : Array Value) (w : World), (Instr.makeFunc fn first cap).run Try.prog w = .ok (.func fn first cap) w := fun _ _ _ _ => rfl
  clear hz hap ho
  go_enter Try.func50, Try.ntmps50
  go_wp2
  go_loopw [9, 13] (fun _ si wr => ∃ (i : Nat), i ≤ n ∧ si = .int .i64 i ∧ Hid (BitsAt w w.heap.size base g ys n h i wr)) (fun _ si _ => n - (intOf si).toNat)
  case atStart => exact ⟨0, Nat.zero_le _, rfl, _, _, _, by rw [show ys ++ litB n h (0 / 8) = ys by simp [litB]]; exact BtS.start HO.out hb _ _ _⟩
  case round =>
    obtain ⟨i, hi, rfl, hB⟩ := hrel
    by_cases hlt : i < n
    · obtain ⟨b, off, rfl, hbl, hc⟩ := HZ.out.resolve_left (by omega)
      have q : wr.cell? ⟨b, off + i, none⟩ = some (.bool (h i)) := by
        obtain ⟨g1, m1, k1, hB1⟩ := hB.out
        exact (hB1.grown.cell_far ⟨b, off + i, none⟩ hbl (fun e => HA.out b off rfl (by omega) (Option.some.inj e).symm)).trans (hc i hlt)
      have hib : (i : Int) < n := by omega
      have HH : Hid ((decide (i < n) && h i) = h i) := by unfold Hid; simp [hlt]
      clear hc
      go_wp2_with fail
      refine (put_any w w.heap.size base g ys n h i (h i) wr HH.out (by omega) hy hB.out).mono ?_
      rintro e w1 ⟨rfl, hB1⟩
      have HB1 : Hid (BitsAt w w.heap.size base g ys n h (i + 1) w1) := hB1
      clear hB1 hB q HH
      go_wp2
      go_roundw
      case rel => exact ⟨i + 1, by omega, by go_num, HB1⟩
      case measure => simp [intOf]; omega
    · have hie : n = i := by omega
      subst hie
      go_wp2
      have hn8 : n ≤ 8 * ((n + 7) / 8) := by omega
      go_loopw [] (fun wr => ∃ (j : Nat), n ≤ j ∧ j ≤ 8 * ((n + 7) / 8) ∧ Hid (BitsAt w w.heap.size base g ys n h j wr)) (fun wr => (8 - usedOf w.heap.size wr) % 8)
      case atStart => exact ⟨n, Nat.le_refl _, hn8, hB⟩
      case round =>
        obtain ⟨j, hj1, hj2, hJ⟩ := hrel
        obtain ⟨g1, m1, k1, hJ1⟩ := hJ.out
        have cU := hJ1.cU
        have cO := hJ1.cO
        have HM : Hid (usedOf w.heap.size wr = j % 8) := by unfold Hid usedOf; rw [cU]; exact Int.toNat_natCast _
        have HE : Hid (GrewY w base (some g) g1 (ys ++ litB n h (j / 8)) m1 k1 wr) := ⟨hJ1.own, hJ1.grown, by
          rcases hJ1.at_ with h1 | h1
          · subst h1; exact .inl rfl
          · right; omega⟩
        clear hJ1
        obtain ⟨u, hu⟩ : ∃ u, u = j % 8 := ⟨_, rfl⟩
        rw [← hu] at cU HM
        by_cases hu0 : u = 0
        · have hud : (j / 8) = (n + 7) / 8 := by omega
          rw [hu0] at cU
          rw [hud] at HE
          clear hu hud HM hJ hB hn8 hj1 hj2
          go_wp2
          go_ret
          exact ⟨_, _, _, rfl, HE.out⟩
        · have hup : (0 : Int) < u := by omega
          have hj3 : j + 1 ≤ 8 * ((n + 7) / 8) := by omega
          have HU : Hid (u = j % 8) := hu
          clear hu HE
          go_wp2_with fail
          refine (put_any w w.heap.size base g ys n h j false wr (by simp; omega) (by omega) hy hJ.out).mono ?_
          rintro e w1 ⟨rfl, hB1⟩
          have HB1 : Hid (BitsAt w w.heap.size base g ys n h (j + 1) w1) := hB1
          have HM1 : Hid (usedOf w.heap.size w1 = (j + 1) % 8) := by
            obtain ⟨g2, m2, k2, hJ2⟩ := hB1
            have e1 := hJ2.cU
            unfold Hid usedOf
            rw [e1]
            exact Int.toNat_natCast _
          clear hB1 hJ cU cO hB
          go_wp2
          go_roundw
          case rel => exact ⟨j + 1, by omega, hj3, HB1⟩
          case measure =>
            rw [HM.out, HM1.out]
            have := HU.out
            omega

set_option maxRecDepth 100000 in
set_option maxHeartbeats 1000000 in
theorem validPI_any (a1 a3 : Option Addr) (n1 n3 c1 c3 : Nat) (L : Int) (g : Nat → Int) (h : Nat → Bool) (w : World) (hn : n1 + n3 ≤ 1048576) (hs : PcAt w a1 a3 n1 n3 g h) :
    Calls Try.prog 48 #[.agg #[.slice a1 n1 c1, .int .i64 L, .slice a3 n3 c3]] w fun e w' => e = .returned (.bool (validPc n1 n3 g L)) ∧ Below w.heap.size w w' := by
  have HSC : Hid (PcAt w a1 a3 n1 n3 g h) := hs
  clear hs
  by_cases h1 : n1 ≤ 40
  · have h1' : ¬ (40 : Int) < n1 := by omega
    by_cases h2 : 0 ≤ L
    · have h2' : ¬ L < 0 := by omega
      by_cases h3 : L ≤ 4
      · have h3' : ¬ 4 < L := by omega
        have hmb : (n1 : Int) * L ≤ 160 := by
          have e1 : (n1 : Int) * L ≤ 40 * L := Int.mul_le_mul_of_nonneg_right (by omega) h2
          omega
        have hmc : 0 ≤ (n1 : Int) * L := Int.mul_nonneg (by omega) h2
        obtain ⟨m, hm⟩ : ∃ m, m = (n1 : Int) * L := ⟨_, rfl⟩
        obtain ⟨t, ht⟩ : ∃ t, t = ((n3 : Int) == m) := ⟨_, rfl⟩
        have HV : Hid (∀ b, (List.range n1).all (idOK g) = b → validPc n1 n3 g L = (t && b)) := by
          intro b hb
          have e4 : decide ((n3 : Int) = n1 * L) = t := by rw [ht, hm]; by_cases h : (n3 : Int) = n1 * L <;> simp [h]
          unfold validPc
          rw [decide_eq_true h1, decide_eq_true h2, decide_eq_true h3, e4, hb]
          simp
        rw [← hm] at hmb hmc
        have hm' := hm.symm
        have ht' := ht.symm
        clear hm ht
        go_enter Try.func48, Try.ntmps48
        go_wp2
        go_loopw [4, 22] (fun _ si wr => ∃ (i : Nat), i ≤ n1 ∧ si = .int .i64 i ∧ Hid ((List.range i).all (idOK g) = true) ∧ Hid (LwP w a1 a3 n1 n3 c1 c3 L g h wr)) (fun _ si _ => n1 - (intOf si).toNat)
        case atStart => exact ⟨0, Nat.zero_le _, rfl, rfl, LwP.start HSC.out _⟩
        case round =>
          obtain ⟨i, hi, rfl, hA, hF⟩ := hrel
          have q0 := hF.out.bx.q0
          have q1 := hF.out.bx.q1
          have q2 := hF.out.bx.q2
          by_cases hlt : i < n1
          · obtain ⟨b, off, rfl, hbl, hc⟩ := hF.out.pc.r1.resolve_left (by omega)
            have g1 : wr.cell? ⟨b, off + i, none⟩ = some (.int .i64 (g i)) := hc i hlt
            have HO : Hid (idOK g i = (decide (-1 ≤ g i) && decide (g i < 40))) := rfl
            obtain ⟨x, hx⟩ : ∃ x, x = g i := ⟨_, rfl⟩
            rw [← hx] at g1 HO
            have hib : (i : Int) < n1 := by omega
            clear hc hx
            by_cases x1 : x < -1
            · have HF : Hid (validPc n1 n3 g L = false) := by unfold Hid; rw [HV.out _ (all_range_false hlt (by rw [HO.out]; simp; omega))]; simp
              clear ht'
              go_wp2
              go_ret
              exact ⟨by rw [HF.out]; rfl, hF.out.bel⟩
            · by_cases x2 : 40 ≤ x
              · have HF : Hid (validPc n1 n3 g L = false) := by unfold Hid; rw [HV.out _ (all_range_false hlt (by rw [HO.out]; simp; omega))]; simp
                clear ht'
                go_wp2
                go_ret
                exact ⟨by rw [HF.out]; rfl, hF.out.bel⟩
              · have HOK : Hid (idOK g i = true) := by unfold Hid; rw [HO.out]; simp; omega
                clear ht'
                go_wp2
                go_roundw
                case rel => exact ⟨i + 1, by omega, by go_num, by unfold Hid; rw [all_range_succ, hA.out, HOK.out]; rfl, hF⟩
                case measure => simp [intOf]; omega
          · have hie : n1 = i := by omega
            subst hie
            have HF : Hid (validPc n1 n3 g L = t) := by unfold Hid; rw [HV.out _ hA.out]; simp
            go_wp2
            go_ret
            exact ⟨by rw [HF.out]; first | rfl | rw [ht'], hF.out.bel⟩
      · have h3' : 4 < L := by omega
        have HV : Hid (validPc n1 n3 g L = false) := by unfold Hid validPc; rw [decide_eq_false h3]; simp
        rw [HV.out]
        go_enter Try.func48, Try.ntmps48
        go_wp2
        go_ret
        exact ⟨rfl, bel0 _ _⟩
    · have h2' : L < 0 := by omega
      have HV : Hid (validPc n1 n3 g L = false) := by unfold Hid validPc; rw [decide_eq_false h2]; simp
      rw [HV.out]
      go_enter Try.func48, Try.ntmps48
      go_wp2
      go_ret
      exact ⟨rfl, bel0 _ _⟩
  · have h1' : (40 : Int) < n1 := by omega
    have HV : Hid (validPc n1 n3 g L = false) := by unfold Hid validPc; rw [decide_eq_false h1]; simp
    rw [HV.out]
    go_enter Try.func48, Try.ntmps48
    go_wp2
    go_ret
    exact ⟨rfl, bel0 _ _⟩

end Go.Proofs.Ytcjdnomhnlbmbaa
