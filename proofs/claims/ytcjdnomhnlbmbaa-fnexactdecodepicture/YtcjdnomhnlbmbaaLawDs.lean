/-
  The law of DecodeScene, for any model and any program that answer the first fault or the scene in new memory.
-/
import Derived.Test.YtcjdnomhnlbmbaaFromDpDraw0SpD1IdA
import Derived.Test.YtcjdnomhnlbmbaaSpD0ScJBytes2
import Derived.Test.YtcjdnomhnlbmbaaSpD0ScJBytes2
namespace Go.Proofs.Ytcjdnomhnlbmbaa
open Go.RowKit

/-- The floats at a place: k of them. -/
def numsB (bs : List Int) (p k : Nat) : List Int := (List.range k).map fun j => fltB bs (p + 4 * j)
theorem numsB_length (bs : List Int) (p k : Nat) : (numsB bs p k).length = k := by simp [numsB]
/-- How many triangles, rays, lights are answered. -/
def decN (bs : List Int) (k : Nat) : Nat := if (faultF bs).1 = 0 then (cntB bs k).toNat else 0
def decZ1 (bs : List Int) : List Int := numsB bs 9 (decN bs 0 * 9)
def decZ2 (bs : List Int) : List Int := numsB bs (9 + 36 * decN bs 0) (decN bs 1 * 6)
def decZ3 (bs : List Int) : List Int := numsB bs (9 + 36 * decN bs 0 + 24 * decN bs 1) (decN bs 2 * 3)

/-- Where a scene is answered, its counts are within the limits. -/
theorem decN_small (bs : List Int) : decN bs 0 + decN bs 1 + decN bs 2 ≤ 1048576 := by
  unfold decN
  by_cases h : (faultF bs).1 = 0
  · rw [if_pos h, if_pos h, if_pos h]
    have hm : firstF (magicAt bs) 4 = none := by
      cases hf : firstF (magicAt bs) 4 with
      | none => rfl
      | some x =>
        rw [faultF_magic hf] at h
        exfalso
        have key : ∀ n, firstF (magicAt bs) n = some x → x.1 = 5 ∨ x.1 = 4 := by
          intro n
          induction n with
          | zero => intro h; cases h
          | succ n ih =>
            intro h
            unfold firstF at h
            cases hq : firstF (magicAt bs) n with
            | some y => rw [hq] at h; simp at h; subst h; exact ih hq
            | none =>
              rw [hq] at h
              simp only at h
              unfold magicAt at h
              split at h
              · simp at h; subst h; exact .inl rfl
              · split at h
                · cases h
                · simp at h; subst h; exact .inr rfl
        rcases key 4 hf with h5 | h5 <;> rw [h5] at h <;> cases h
    have hc : firstF (cntAt bs) 3 = none := by
      cases hf : firstF (cntAt bs) 3 with
      | none => rfl
      | some x =>
        rw [faultF_counts hm hf] at h
        exfalso
        have key : ∀ n, firstF (cntAt bs) n = some x → x.1 = 5 ∨ x.1 = 2 := by
          intro n
          induction n with
          | zero => intro h; cases h
          | succ n ih =>
            intro h
            unfold firstF at h
            cases hq : firstF (cntAt bs) n with
            | some y => rw [hq] at h; simp at h; subst h; exact ih hq
            | none =>
              rw [hq] at h
              simp only at h
              unfold cntAt at h
              split at h
              · simp at h; subst h; exact .inl rfl
              · split at h
                · simp at h; subst h; exact .inr rfl
                · cases h
        rcases key 3 hf with h5 | h5 <;> rw [h5] at h <;> cases h
    have c0 := (cnt_ok hc 0 (by decide)).2
    have c1 := (cnt_ok hc 1 (by decide)).2
    have c2 := (cnt_ok hc 2 (by decide)).2
    rw [show cntMo 0 = 40 from rfl] at c0
    rw [show cntMo 1 = 40 from rfl] at c1
    rw [show cntMo 2 = 4 from rfl] at c2
    omega
  · rw [if_neg h, if_neg h, if_neg h]
    decide

/-- What DecodeScene answers. -/
def DecOut (w : World) (bs : List Int) (e : Ending) (w' : World) : Prop :=
  ∃ a1 a2 a3 c1 c2 c3 l1 h1 l2 h2 l3 h3, e = .returned (.tuple #[.agg #[.slice a1 (decN bs 0) c1, .slice a2 (decN bs 1) c2, .slice a3 (decN bs 2) c3], .int .i64 (faultF bs).1, .int .i64 (faultF bs).2]) ∧
    ScDj w' w.heap.size w'.heap.size a1 a2 a3 (decN bs 0) (decN bs 1) (decN bs 2) (decZ1 bs) (decZ2 bs) (decZ3 bs) l1 h1 l2 h2 l3 h3 ∧ Below w.heap.size w w'
def DecSays (f : FuncId) : Prop := ∀ (a : Option Addr) (c : Nat) (bs : List Int) (w : World), bs.length ≤ 1048576 → bs.length ≤ c → U8 bs → RowAt .u8 w a bs → Calls Try.prog f #[.slice a bs.length c] w fun e w' => DecOut w bs e w'

set_option maxRecDepth 100000 in
set_option maxHeartbeats 16000000 in
theorem lawDecodeScene_any (hS : DecSays 26) (hI : DecSays 27) (a : Option Addr) (c : Nat) (bs : List Int) (w : World) (hn : bs.length ≤ maxLen) (hu : U8 bs) (hz : RowAt .u8 w a bs) :
    Calls Try.prog 6 #[.slice a bs.length c] w fun e w' => e = .returned (.bool true) ∧ Below w.heap.size w w' := by
  unfold maxLen at hn
  by_cases hl : (1048576 : Int) < bs.length
  · go_enter Try.func6, Try.ntmps6
    go_wp2
    go_ret
    exact ⟨rfl, Below.refl _ _⟩
  · have hbl : bs.length ≤ 1048576 := by omega
    have HZ : Hid (RowAt .u8 w a bs) := hz
    have HU : Hid (U8 bs) := hu
    have HS : Hid (DecSays 26) := hS
    have HI : Hid (DecSays 27) := hI
    have HN := decN_small bs
    obtain ⟨n1, e1⟩ : ∃ n, n = decN bs 0 := ⟨_, rfl⟩
    obtain ⟨n2, e2⟩ : ∃ n, n = decN bs 1 := ⟨_, rfl⟩
    obtain ⟨n3, e3⟩ : ∃ n, n = decN bs 2 := ⟨_, rfl⟩
    obtain ⟨z1, g1⟩ : ∃ z, z = decZ1 bs := ⟨_, rfl⟩
    obtain ⟨z2, g2⟩ : ∃ z, z = decZ2 bs := ⟨_, rfl⟩
    obtain ⟨z3, g3⟩ : ∃ z, z = decZ3 bs := ⟨_, rfl⟩
    obtain ⟨K, f1⟩ : ∃ K, K = (faultF bs).1 := ⟨_, rfl⟩
    obtain ⟨J, f2⟩ : ∃ J, J = (faultF bs).2 := ⟨_, rfl⟩
    rw [← e1, ← e2, ← e3] at HN
    have HN' : Hid (n1 + n2 + n3 ≤ 1048576) := HN
    have HOUT : Hid (∀ w e w', DecOut w bs e w' → ∃ a1 a2 a3 c1 c2 c3 l1 h1 l2 h2 l3 h3, e = .returned (.tuple #[.agg #[.slice a1 n1 c1, .slice a2 n2 c2, .slice a3 n3 c3], .int .i64 K, .int .i64 J]) ∧ ScDj w' w.heap.size w'.heap.size a1 a2 a3 n1 n2 n3 z1 z2 z3 l1 h1 l2 h2 l3 h3 ∧ Below w.heap.size w w') := by
      intro w e w' h
      rw [e1, e2, e3, g1, g2, g3, f1, f2]
      exact h
    have hkk : (K != K) = false := by simp
    have hjj : (J != J) = false := by simp
    clear hz hu hS hI HN e1 e2 e3 g1 g2 g3 f1 f2
    go_enter Try.func6, Try.ntmps6
    go_wp2_with fail
    refine (toY_any a c bs _ hbl HZ.out).mono ?_
    rintro e W1 ⟨b1, rfl, hr1, hb1⟩
    have A1 : Hid (Below w.heap.size w W1) := hb1
    have R1 : Hid (RowAt .u8 W1 b1 bs) := hr1.row
    clear hb1 hr1
    go_wp2_with fail
    refine (HS.out b1 _ bs _ hbl (Nat.le_refl _) HU.out R1.out).mono ?_
    rintro e W2 hd
    obtain ⟨s1, s2, s3, k1, k2, k3, l1, h1, l2, h2, l3, h3, rfl, hs2, hb2⟩ := HOUT.out _ _ _ hd
    have A2 : Hid (∀ t, Below w.heap.size w (W2.alloc (.cells #[.slice s1 n1 k1, .slice s2 n2 k2, .slice s3 n3 k3] t))) := fun t => (A1.out.trans (hb2.mono A1.out.size)).trans ((bel0 _ _).mono (Nat.le_trans A1.out.size hb2.size))
    have S2 : Hid (∀ t, ScDj (W2.alloc (.cells #[.slice s1 n1 k1, .slice s2 n2 k2, .slice s3 n3 k3] t)) W1.heap.size W2.heap.size s1 s2 s3 n1 n2 n3 z1 z2 z3 l1 h1 l2 h2 l3 h3) := fun t => hs2.later (bel0 _ _)
    have X2 : Hid (∀ t, BxS (W2.alloc (.cells #[.slice s1 n1 k1, .slice s2 n2 k2, .slice s3 n3 k3] t)) W2.heap.size (.slice s1 n1 k1) (.slice s2 n2 k2) (.slice s3 n3 k3)) := fun t => BxS.new _ _ _ _ _
    have O2 : Hid (w.heap.size ≤ W1.heap.size ∧ W1.heap.size ≤ W2.heap.size) := ⟨A1.out.size, hb2.size⟩
    clear hd hs2 hb2 R1 A1
    go_wp2_with fail
    refine (toY_any a c bs _ hbl (HZ.out.later (A2.out _))).mono ?_
    rintro e W3 ⟨b3, rfl, hr3, hb3⟩
    have A3 : Hid (Below w.heap.size w W3) := (A2.out _).trans (hb3.mono (A2.out _).size)
    have S3 : Hid (ScDj W3 W1.heap.size W2.heap.size s1 s2 s3 n1 n2 n3 z1 z2 z3 l1 h1 l2 h2 l3 h3) := (S2.out _).later hb3
    have X3 : Hid (BxS W3 W2.heap.size (.slice s1 n1 k1) (.slice s2 n2 k2) (.slice s3 n3 k3)) := (X2.out _).later hb3
    have R3 : Hid (RowIn .u8 W3 (W2.heap.size + 1) W3.heap.size b3 bs) := by
      have := hr3.rowIn
      unfold Hid
      simpa using this
    have O3 : Hid (W2.heap.size + 1 ≤ W3.heap.size) := by have := hb3.size; unfold Hid; simpa using this
    clear hr3 hb3 A2 S2 X2
    go_wp2_with fail
    refine (HI.out b3 _ bs _ hbl (Nat.le_refl _) HU.out R3.out.row).mono ?_
    rintro e W4 hd
    obtain ⟨t1, t2, t3, q1, q2, q3, u1, v1, u2, v2, u3, v3, rfl, hs4, hb4⟩ := HOUT.out _ _ _ hd
    have A4 : Hid (∀ t, Below w.heap.size w (W4.alloc (.cells #[.slice t1 n1 q1, .slice t2 n2 q2, .slice t3 n3 q3] t))) := fun t => (A3.out.trans (hb4.mono A3.out.size)).trans ((bel0 _ _).mono (Nat.le_trans A3.out.size hb4.size))
    have S4 : Hid (∀ t, ScDj (W4.alloc (.cells #[.slice t1 n1 q1, .slice t2 n2 q2, .slice t3 n3 q3] t)) W1.heap.size W2.heap.size s1 s2 s3 n1 n2 n3 z1 z2 z3 l1 h1 l2 h2 l3 h3) := fun t => (S3.out.later hb4).later (bel0 _ _)
    have X4 : Hid (∀ t, BxS (W4.alloc (.cells #[.slice t1 n1 q1, .slice t2 n2 q2, .slice t3 n3 q3] t)) W2.heap.size (.slice s1 n1 k1) (.slice s2 n2 k2) (.slice s3 n3 k3)) := fun t => (X3.out.later hb4).later (bel0 _ _)
    have R4 : Hid (∀ t, RowIn .u8 (W4.alloc (.cells #[.slice t1 n1 q1, .slice t2 n2 q2, .slice t3 n3 q3] t)) (W2.heap.size + 1) W3.heap.size b3 bs) := fun t => (R3.out.later hb4).later (bel0 _ _)
    have G4 : Hid (∀ t, ScDj (W4.alloc (.cells #[.slice t1 n1 q1, .slice t2 n2 q2, .slice t3 n3 q3] t)) W3.heap.size W4.heap.size t1 t2 t3 n1 n2 n3 z1 z2 z3 u1 v1 u2 v2 u3 v3) := fun t => hs4.later (bel0 _ _)
    have Y4 : Hid (∀ t, BxS (W4.alloc (.cells #[.slice t1 n1 q1, .slice t2 n2 q2, .slice t3 n3 q3] t)) W4.heap.size (.slice t1 n1 q1) (.slice t2 n2 q2) (.slice t3 n3 q3)) := fun t => BxS.new _ _ _ _ _
    have O4 : Hid (W3.heap.size ≤ W4.heap.size) := hb4.size
    have p0 := (X4.out 51).q0
    have p1 := (X4.out 51).q1
    have p2 := (X4.out 51).q2
    clear hd hs4 hb4 A3 S3 X3 R3
    go_wp2_with fail
    refine (eqScene_same t1 t2 t3 s1 s2 s3 n1 n2 n3 _ _ _ _ _ _ z1 z2 z3 _ HN'.out (G4.out _).at (S4.out _).at).mono ?_
    rintro e W5 ⟨rfl, hb5⟩
    have A5 : Hid (Below w.heap.size w W5) := (A4.out _).trans (hb5.mono (A4.out _).size)
    have S5 : Hid (ScDj W5 W1.heap.size W2.heap.size s1 s2 s3 n1 n2 n3 z1 z2 z3 l1 h1 l2 h2 l3 h3) := (S4.out _).later hb5
    have X5 : Hid (BxS W5 W2.heap.size (.slice s1 n1 k1) (.slice s2 n2 k2) (.slice s3 n3 k3)) := (X4.out _).later hb5
    have R5 : Hid (RowIn .u8 W5 (W2.heap.size + 1) W3.heap.size b3 bs) := (R4.out _).later hb5
    have G5 : Hid (ScDj W5 W3.heap.size W4.heap.size t1 t2 t3 n1 n2 n3 z1 z2 z3 u1 v1 u2 v2 u3 v3) := (G4.out _).later hb5
    have Y5 : Hid (BxS W5 W4.heap.size (.slice t1 n1 q1) (.slice t2 n2 q2) (.slice t3 n3 q3)) := (Y4.out _).later hb5
    clear hb5 A4 S4 X4 R4 G4 Y4 p0 p1 p2
    go_wp2_with fail
    refine (toY_any a c bs _ hbl (HZ.out.later A5.out)).mono ?_
    rintro e W6 ⟨b6, rfl, hr6, hb6⟩
    have A6 : Hid (Below w.heap.size w W6) := A5.out.trans (hb6.mono A5.out.size)
    have S6 : Hid (ScDj W6 W1.heap.size W2.heap.size s1 s2 s3 n1 n2 n3 z1 z2 z3 l1 h1 l2 h2 l3 h3) := S5.out.later hb6
    have X6 : Hid (BxS W6 W2.heap.size (.slice s1 n1 k1) (.slice s2 n2 k2) (.slice s3 n3 k3)) := X5.out.later hb6
    have R6 : Hid (RowIn .u8 W6 (W2.heap.size + 1) W3.heap.size b3 bs) := R5.out.later hb6
    have G6 : Hid (ScDj W6 W3.heap.size W4.heap.size t1 t2 t3 n1 n2 n3 z1 z2 z3 u1 v1 u2 v2 u3 v3) := G5.out.later hb6
    have Y6 : Hid (BxS W6 W4.heap.size (.slice t1 n1 q1) (.slice t2 n2 q2) (.slice t3 n3 q3)) := Y5.out.later hb6
    have T6 : Hid (RowAt .u8 W6 b6 bs) := hr6.row
    clear hb6 hr6 A5 S5 X5 R5 G5 Y5
    go_wp2_with fail
    refine (eqY_any b3 b6 _ _ bs bs _ (by unfold maxLen; omega) (by unfold maxLen; omega) R6.out.row T6.out).mono ?_
    rintro e W7 ⟨rfl, hb7⟩
    rw [decide_eq_true rfl]
    have A7 : Hid (Below w.heap.size w W7) := A6.out.trans (hb7.mono A6.out.size)
    have S7 : Hid (ScDj W7 W1.heap.size W2.heap.size s1 s2 s3 n1 n2 n3 z1 z2 z3 l1 h1 l2 h2 l3 h3) := S6.out.later hb7
    have X7 : Hid (BxS W7 W2.heap.size (.slice s1 n1 k1) (.slice s2 n2 k2) (.slice s3 n3 k3)) := X6.out.later hb7
    have R7 : Hid (RowIn .u8 W7 (W2.heap.size + 1) W3.heap.size b3 bs) := R6.out.later hb7
    have G7 : Hid (ScDj W7 W3.heap.size W4.heap.size t1 t2 t3 n1 n2 n3 z1 z2 z3 u1 v1 u2 v2 u3 v3) := G6.out.later hb7
    have Y7 : Hid (BxS W7 W4.heap.size (.slice t1 n1 q1) (.slice t2 n2 q2) (.slice t3 n3 q3)) := Y6.out.later hb7
    clear hb7 A6 S6 X6 R6 G6 Y6 T6
    go_wp2_with fail
    refine (markY2_any b3 _ bs 1 _ (W2.heap.size + 1) W3.heap.size hbl (by decide) (by decide) R7.out).mono ?_
    rintro e W8 ⟨rfl, _, hw8⟩
    have A8 : Hid (Below w.heap.size w W8) := A7.out.trans (hw8.below.mono (by have := O2.out; omega))
    have S8 : Hid (ScDj W8 W1.heap.size W2.heap.size s1 s2 s3 n1 n2 n3 z1 z2 z3 l1 h1 l2 h2 l3 h3) := S7.out.apart hw8 (.inl (Nat.le_succ _))
    have X8 : Hid (BxS W8 W2.heap.size (.slice s1 n1 k1) (.slice s2 n2 k2) (.slice s3 n3 k3)) := X7.out.within hw8 (.inl (Nat.lt_succ_self _))
    have G8 : Hid (ScDj W8 W3.heap.size W4.heap.size t1 t2 t3 n1 n2 n3 z1 z2 z3 u1 v1 u2 v2 u3 v3) := G7.out.apart hw8 (.inr (Nat.le_refl _))
    have Y8 : Hid (BxS W8 W4.heap.size (.slice t1 n1 q1) (.slice t2 n2 q2) (.slice t3 n3 q3)) := Y7.out.within hw8 (.inr O4.out)
    have hk8 : ¬ (1 : Int) + bs.length < 0 := by omega
    have p0 := X8.out.q0
    have p1 := X8.out.q1
    have p2 := X8.out.q2
    have y0 := Y8.out.q0
    have y1 := Y8.out.q1
    have y2 := Y8.out.q2
    clear hw8 A7 S7 X7 R7 G7 Y7
    go_wp2_with fail
    refine (eqScene_same t1 t2 t3 s1 s2 s3 n1 n2 n3 _ _ _ _ _ _ z1 z2 z3 _ HN'.out G8.out.at S8.out.at).mono ?_
    rintro e W9 ⟨rfl, hb9⟩
    have A9 : Hid (Below w.heap.size w W9) := A8.out.trans (hb9.mono A8.out.size)
    have S9 : Hid (ScDj W9 W1.heap.size W2.heap.size s1 s2 s3 n1 n2 n3 z1 z2 z3 l1 h1 l2 h2 l3 h3) := S8.out.later hb9
    have X9 : Hid (BxS W9 W2.heap.size (.slice s1 n1 k1) (.slice s2 n2 k2) (.slice s3 n3 k3)) := X8.out.later hb9
    have G9 : Hid (ScDj W9 W3.heap.size W4.heap.size t1 t2 t3 n1 n2 n3 z1 z2 z3 u1 v1 u2 v2 u3 v3) := G8.out.later hb9
    have Y9 : Hid (BxS W9 W4.heap.size (.slice t1 n1 q1) (.slice t2 n2 q2) (.slice t3 n3 q3)) := Y8.out.later hb9
    clear hb9 A8 S8 X8 G8 Y8 p0 p1 p2 y0 y1 y2 hk8
    have y0 := Y9.out.q0
    have y1 := Y9.out.q1
    have y2 := Y9.out.q2
    go_wp2_with fail
    refine (markDj_any t1 t2 t3 n1 n2 n3 _ _ _ z1 z2 z3 u1 v1 u2 v2 u3 v3 W3.heap.size W4.heap.size 1 _ HN'.out (by decide) (by decide) G9.out).mono ?_
    rintro e W10 ⟨rfl, hm10, u, hbu, hwu⟩
    have A10 : Hid (Below w.heap.size w W10) := (A9.out.trans (hbu.mono A9.out.size)).trans (hwu.below.mono (by have := O2.out; have := O3.out; omega))
    have S10 : Hid (ScDj W10 W1.heap.size W2.heap.size s1 s2 s3 n1 n2 n3 z1 z2 z3 l1 h1 l2 h2 l3 h3) := (S9.out.later hbu).apart hwu (.inl (by have := O3.out; omega))
    have X10 : Hid (BxS W10 W2.heap.size (.slice s1 n1 k1) (.slice s2 n2 k2) (.slice s3 n3 k3)) := (X9.out.later hbu).within hwu (.inl (by have := O3.out; omega))
    have Y10 : Hid (BxS W10 W4.heap.size (.slice t1 n1 q1) (.slice t2 n2 q2) (.slice t3 n3 q3)) := (Y9.out.later hbu).within hwu (.inr (Nat.le_refl _))
    have M10 : Hid (RowAt .u32 W10 t1 (marksL 1 (n1 * 9)) ∧ RowAt .u32 W10 t2 (marksL (1 + ((n1 * 9 : Nat) : Int)) (n2 * 6)) ∧ RowAt .u32 W10 t3 (marksL (1 + ((n1 * 9 : Nat) : Int) + ((n2 * 6 : Nat) : Int)) (n3 * 3))) := by
      have h1 := hm10.r1.row
      have h2 := hm10.r2.row
      have h3 := hm10.r3.row
      rw [G9.out.e1] at h1 h2 h3
      rw [G9.out.e2] at h2 h3
      rw [G9.out.e3] at h3
      exact ⟨h1, h2, h3⟩
    have HE : Hid ((1 : Int) + z1.length + z2.length + z3.length = 1 + ((n1 * 9 : Nat) : Int) + ((n2 * 6 : Nat) : Int) + ((n3 * 3 : Nat) : Int)) := by unfold Hid; rw [G9.out.e1, G9.out.e2, G9.out.e3]
    rw [HE.out]
    obtain ⟨kk, hkkd⟩ : ∃ kk, kk = (1 : Int) + ((n1 * 9 : Nat) : Int) + ((n2 * 6 : Nat) : Int) + ((n3 * 3 : Nat) : Int) := ⟨_, rfl⟩
    have HKK : Hid (kk = (1 : Int) + ((n1 * 9 : Nat) : Int) + ((n2 * 6 : Nat) : Int) + ((n3 * 3 : Nat) : Int)) := hkkd
    have hkk0 : ¬ kk < 0 := by omega
    have hkkn : (kk != kk) = false := by simp
    rw [← hkkd]
    clear hm10 hbu hwu A9 S9 X9 G9 Y9 y0 y1 y2 hkkd
    have y0 := Y10.out.q0
    have y1 := Y10.out.q1
    have y2 := Y10.out.q2
    go_wp2_with fail
    refine (heldScene_any t1 t2 t3 n1 n2 n3 _ _ _ 1 _ HN'.out (by decide) (by decide) M10.out.1 M10.out.2.1 M10.out.2.2).mono ?_
    rintro e W11 ⟨rfl, hb11⟩
    rw [← HKK.out]
    have A11 : Hid (Below w.heap.size w W11) := A10.out.trans (hb11.mono A10.out.size)
    have S11 : Hid (ScDj W11 W1.heap.size W2.heap.size s1 s2 s3 n1 n2 n3 z1 z2 z3 l1 h1 l2 h2 l3 h3) := S10.out.later hb11
    have X11 : Hid (BxS W11 W2.heap.size (.slice s1 n1 k1) (.slice s2 n2 k2) (.slice s3 n3 k3)) := X10.out.later hb11
    clear hb11 A10 S10 X10 Y10 M10 y0 y1 y2
    go_wp2_with fail
    refine (toY_any a c bs _ hbl (HZ.out.later A11.out)).mono ?_
    rintro e W12 ⟨b12, rfl, hr12, hb12⟩
    have A12 : Hid (Below w.heap.size w W12) := A11.out.trans (hb12.mono A11.out.size)
    have S12 : Hid (ScDj W12 W1.heap.size W2.heap.size s1 s2 s3 n1 n2 n3 z1 z2 z3 l1 h1 l2 h2 l3 h3) := S11.out.later hb12
    have X12 : Hid (BxS W12 W2.heap.size (.slice s1 n1 k1) (.slice s2 n2 k2) (.slice s3 n3 k3)) := X11.out.later hb12
    have R12 : Hid (RowAt .u8 W12 b12 bs) := hr12.row
    clear hb12 hr12 A11 S11 X11
    go_wp2_with fail
    refine (HI.out b12 _ bs _ hbl (Nat.le_refl _) HU.out R12.out).mono ?_
    rintro e W13 hd
    obtain ⟨x1, x2, x3, g1, g2, g3, m1, o1, m2, o2, m3, o3, rfl, hs13, hb13⟩ := HOUT.out _ _ _ hd
    have A13 : Hid (∀ t, Below w.heap.size w (W13.alloc (.cells #[.slice x1 n1 g1, .slice x2 n2 g2, .slice x3 n3 g3] t))) := fun t => (A12.out.trans (hb13.mono A12.out.size)).trans ((bel0 _ _).mono (Nat.le_trans A12.out.size hb13.size))
    have S13 : Hid (∀ t, ScDj (W13.alloc (.cells #[.slice x1 n1 g1, .slice x2 n2 g2, .slice x3 n3 g3] t)) W1.heap.size W2.heap.size s1 s2 s3 n1 n2 n3 z1 z2 z3 l1 h1 l2 h2 l3 h3) := fun t => (S12.out.later hb13).later (bel0 _ _)
    have X13 : Hid (∀ t, BxS (W13.alloc (.cells #[.slice x1 n1 g1, .slice x2 n2 g2, .slice x3 n3 g3] t)) W2.heap.size (.slice s1 n1 k1) (.slice s2 n2 k2) (.slice s3 n3 k3)) := fun t => (X12.out.later hb13).later (bel0 _ _)
    have G13 : Hid (∀ t, ScAt (W13.alloc (.cells #[.slice x1 n1 g1, .slice x2 n2 g2, .slice x3 n3 g3] t)) x1 x2 x3 n1 n2 n3 z1 z2 z3) := fun t => hs13.at.later (bel0 _ _)
    have p0 := (X13.out 51).q0
    have p1 := (X13.out 51).q1
    have p2 := (X13.out 51).q2
    clear hd hs13 hb13 A12 S12 X12 R12
    go_wp2_with fail
    refine (eqScene_same x1 x2 x3 s1 s2 s3 n1 n2 n3 _ _ _ _ _ _ z1 z2 z3 _ HN'.out (G13.out _) (S13.out _).at).mono ?_
    rintro e W14 ⟨rfl, hb14⟩
    have A14 : Hid (Below w.heap.size w W14) := (A13.out _).trans (hb14.mono (A13.out _).size)
    clear hb14 A13 S13 X13 G13 p0 p1 p2
    go_wp2
    go_ret
    exact ⟨rfl, A14.out⟩

end Go.Proofs.Ytcjdnomhnlbmbaa
