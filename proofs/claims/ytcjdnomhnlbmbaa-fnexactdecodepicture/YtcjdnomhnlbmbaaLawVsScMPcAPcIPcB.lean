/-
  The law of ValidScene, for any program whose ValidScene answers whether the scene is valid.
-/
import Derived.Test.YtcjdnomhnlbmbaaSpVSpW
import Derived.BigQuiet
namespace Go.Proofs.Ytcjdnomhnlbmbaa
open Go.RowKit

/-- The function answers whether a scene is valid. -/
def VldSays (f : FuncId) : Prop := ∀ (a1 a2 a3 : Option Addr) (n1 n2 n3 c1 c2 c3 : Nat) (z1 z2 z3 : List Int) (w : World), n1 + n2 + n3 ≤ 1048576 → ScAt w a1 a2 a3 n1 n2 n3 z1 z2 z3 → U32 z1 → U32 z2 → U32 z3 →
  Calls Try.prog f #[.agg #[.slice a1 n1 c1, .slice a2 n2 c2, .slice a3 n3 c3]] w fun e w' => e = .returned (.bool (validSc n1 n2 n3 z1 z2 z3)) ∧ Below w.heap.size w w'

/-- A box that holds a scene's three slices. -/
structure BxS (w : World) (X : Nat) (v1 v2 v3 : Value) : Prop where
  lt : X < w.heap.size
  q0 : w.cell? ⟨X, 0, none⟩ = some v1
  q1 : w.cell? ⟨X, 1, none⟩ = some v2
  q2 : w.cell? ⟨X, 2, none⟩ = some v3
theorem BxS.later {w w' : World} {X : Nat} {v1 v2 v3 : Value} (h : BxS w X v1 v2 v3) (hb : Below w.heap.size w w') : BxS w' X v1 v2 v3 :=
  ⟨Nat.lt_of_lt_of_le h.lt hb.size, ((bcell hb).1 _ _ h.lt).trans h.q0, ((bcell hb).1 _ _ h.lt).trans h.q1, ((bcell hb).1 _ _ h.lt).trans h.q2⟩
theorem BxS.new (w : World) (v1 v2 v3 : Value) (t : TypeId) : BxS (w.alloc (.cells #[v1, v2, v3] t)) w.heap.size v1 v2 v3 :=
  ⟨by simp, by simp [go_sem], by simp [go_sem], by simp [go_sem]⟩

/-- Memory while a law over a scene runs: the box of the argument, the argument's lists. -/
structure LwS (w : World) (a1 a2 a3 : Option Addr) (n1 n2 n3 c1 c2 c3 : Nat) (z1 z2 z3 : List Int) (W : World) : Prop where
  bx : BxS W w.heap.size (.slice a1 n1 c1) (.slice a2 n2 c2) (.slice a3 n3 c3)
  sc : ScAt W a1 a2 a3 n1 n2 n3 z1 z2 z3
  bel : Below w.heap.size w W
theorem LwS.later {w W W' : World} {a1 a2 a3 : Option Addr} {n1 n2 n3 c1 c2 c3 : Nat} {z1 z2 z3 : List Int} (h : LwS w a1 a2 a3 n1 n2 n3 c1 c2 c3 z1 z2 z3 W) (hb : Below W.heap.size W W') : LwS w a1 a2 a3 n1 n2 n3 c1 c2 c3 z1 z2 z3 W' :=
  ⟨h.bx.later hb, h.sc.later hb, h.bel.trans (hb.mono h.bel.size)⟩
theorem LwS.start {w : World} {a1 a2 a3 : Option Addr} {n1 n2 n3 c1 c2 c3 : Nat} {z1 z2 z3 : List Int} (hs : ScAt w a1 a2 a3 n1 n2 n3 z1 z2 z3) (t : TypeId) : LwS w a1 a2 a3 n1 n2 n3 c1 c2 c3 z1 z2 z3 (w.alloc (.cells #[.slice a1 n1 c1, .slice a2 n2 c2, .slice a3 n3 c3] t)) :=
  ⟨BxS.new _ _ _ _ _, hs.later (bel0 _ _), bel0 _ _⟩

theorem last7 {p0 p1 p2 p3 p4 p5 q : Prop} (h : p0 ∧ p1 ∧ p2 ∧ p3 ∧ p4 ∧ p5 ∧ q) : q := h.2.2.2.2.2.2

set_option maxRecDepth 100000 in
set_option maxHeartbeats 16000000 in
theorem lawValidScene_any (hI : VldSays 24) (a1 a2 a3 : Option Addr) (n1 n2 n3 c1 c2 c3 : Nat) (z1 z2 z3 : List Int) (w : World) (h1 : n1 ≤ maxLen) (h2 : n2 ≤ maxLen) (h3 : n3 ≤ maxLen) (hu1 : U32 z1) (hu2 : U32 z2) (hu3 : U32 z3) (hs : ScAt w a1 a2 a3 n1 n2 n3 z1 z2 z3) :
    Calls Try.prog 5 #[.agg #[.slice a1 n1 c1, .slice a2 n2 c2, .slice a3 n3 c3]] w fun e w' => e = .returned (.bool true) ∧ Below w.heap.size w w' := by
  have HSC : Hid (ScAt w a1 a2 a3 n1 n2 n3 z1 z2 z3) := hs
  have HU : Hid (U32 z1 ∧ U32 z2 ∧ U32 z3) := ⟨hu1, hu2, hu3⟩
  have HI : Hid (VldSays 24) := hI
  clear hs hu1 hu2 hu3 hI
  go_enter Try.func5, Try.ntmps5
  go_wp2_with fail
  refine (szScene_any a1 a2 a3 n1 n2 n3 c1 c2 c3 _ h1 h2 h3).mono ?_
  rintro e W0 ⟨r, rfl, hr, hb⟩
  have F0 : Hid (LwS w a1 a2 a3 n1 n2 n3 c1 c2 c3 z1 z2 z3 W0) := (LwS.start HSC.out _).later hb
  clear hb
  rcases hr with hr | ⟨hr, hn⟩
  · go_wp2
    go_ret
    exact ⟨rfl, F0.out.bel⟩
  · have HN : Hid (n1 + n2 + n3 ≤ 1048576) := hn
    have hrn : ¬ r < 0 := by omega
    have q0 := F0.out.bx.q0
    have q1 := F0.out.bx.q1
    have q2 := F0.out.bx.q2
    clear hn
    go_wp2_with fail
    refine (toScene_any a1 a2 a3 n1 n2 n3 c1 c2 c3 z1 z2 z3 _ HN.out F0.out.sc).mono ?_
    rintro e W1 ⟨b1, b2, b3, m1, m2, rfl, hi1, hb1⟩
    have F1 : Hid (LwS w a1 a2 a3 n1 n2 n3 c1 c2 c3 z1 z2 z3 W1) := F0.out.later hb1
    have I1 : Hid (ScAt W1 b1 b2 b3 n1 n2 n3 z1 z2 z3) := hi1.at
    clear hb1 hi1 q0 q1 q2 F0
    go_wp2_with fail
    refine (validV_any b1 b2 b3 n1 n2 n3 n1 n2 n3 z1 z2 z3 _ HN.out I1.out HU.out.1 HU.out.2.1 HU.out.2.2).mono ?_
    rintro e W2 ⟨rfl, hb2⟩
    have F2 : Hid (LwS w a1 a2 a3 n1 n2 n3 c1 c2 c3 z1 z2 z3 W2) := F1.out.later hb2
    have q0 := F2.out.bx.q0
    have q1 := F2.out.bx.q1
    have q2 := F2.out.bx.q2
    obtain ⟨V, hV⟩ : ∃ V, V = validSc n1 n2 n3 z1 z2 z3 := ⟨_, rfl⟩
    rw [← hV]
    have HV : Hid (V = validSc n1 n2 n3 z1 z2 z3) := hV
    clear hb2 F1 I1 hV
    go_wp2_with fail
    refine (toScene_any a1 a2 a3 n1 n2 n3 c1 c2 c3 z1 z2 z3 _ HN.out F2.out.sc).mono ?_
    rintro e W3 ⟨d1, d2, d3, k1, k2, rfl, hi3, hb3⟩
    have F3 : Hid (∀ t, LwS w a1 a2 a3 n1 n2 n3 c1 c2 c3 z1 z2 z3 (W3.alloc (.cells #[.slice d1 n1 n1, .slice d2 n2 n2, .slice d3 n3 n3] t))) := fun t => (F2.out.later hb3).later (bel0 _ _)
    have X3 : Hid (∀ t, BxS (W3.alloc (.cells #[.slice d1 n1 n1, .slice d2 n2 n2, .slice d3 n3 n3] t)) W3.heap.size (.slice d1 n1 n1) (.slice d2 n2 n2) (.slice d3 n3 n3)) := fun t => BxS.new _ _ _ _ _
    have I3 : Hid (∀ t, ScAt (W3.alloc (.cells #[.slice d1 n1 n1, .slice d2 n2 n2, .slice d3 n3 n3] t)) d1 d2 d3 n1 n2 n3 z1 z2 z3) := fun t => hi3.at.later (bel0 _ _)
    clear hb3 hi3 q0 q1 q2 F2
    go_wp2_with fail
    refine (HI.out d1 d2 d3 n1 n2 n3 n1 n2 n3 z1 z2 z3 _ HN.out (I3.out _) HU.out.1 HU.out.2.1 HU.out.2.2).mono ?_
    rintro e W4 ⟨rfl, hb4⟩
    have F4 : Hid (LwS w a1 a2 a3 n1 n2 n3 c1 c2 c3 z1 z2 z3 W4) := (F3.out _).later hb4
    have X4 : Hid (BxS W4 W3.heap.size (.slice d1 n1 n1) (.slice d2 n2 n2) (.slice d3 n3 n3)) := (X3.out _).later hb4
    have I4 : Hid (ScAt W4 d1 d2 d3 n1 n2 n3 z1 z2 z3) := (I3.out _).later hb4
    rw [← HV.out]
    have hne : (V != V) = false := by simp
    have HH : Hid (∀ w', Below W4.heap.size W4 w' → w'.cell? ⟨w.heap.size, 0, none⟩ = some (.slice a1 n1 c1) ∧ w'.cell? ⟨w.heap.size, 1, none⟩ = some (.slice a2 n2 c2) ∧ w'.cell? ⟨w.heap.size, 2, none⟩ = some (.slice a3 n3 c3) ∧ w'.cell? ⟨W3.heap.size, 0, none⟩ = some (.slice d1 n1 n1) ∧ w'.cell? ⟨W3.heap.size, 1, none⟩ = some (.slice d2 n2 n2) ∧ w'.cell? ⟨W3.heap.size, 2, none⟩ = some (.slice d3 n3 n3) ∧ Below W4.heap.size W4 w') := by
      intro w' hw
      have e1 := F4.out.bx.later hw
      have e2 := X4.out.later hw
      exact ⟨e1.q0, e1.q1, e1.q2, e2.q0, e2.q1, e2.q2, hw⟩
    clear hb4 F3 X3 I3 HI HV
    go_wp2
    go_region_held3 (fun w' => w'.cell? ⟨w.heap.size, 0, none⟩ = some (.slice a1 n1 c1) ∧ w'.cell? ⟨w.heap.size, 1, none⟩ = some (.slice a2 n2 c2) ∧ w'.cell? ⟨w.heap.size, 2, none⟩ = some (.slice a3 n3 c3) ∧ w'.cell? ⟨W3.heap.size, 0, none⟩ = some (.slice d1 n1 n1) ∧ w'.cell? ⟨W3.heap.size, 1, none⟩ = some (.slice d2 n2 n2) ∧ w'.cell? ⟨W3.heap.size, 2, none⟩ = some (.slice d3 n3 n3) ∧ Below W4.heap.size W4 w')
      (first | exact HH.out _ (Below.refl _ _).drew | exact HH.out _ (by assumption))
      (first
        | (go_at_call 23; refine (toScene_any a1 a2 a3 n1 n2 n3 c1 c2 c3 z1 z2 z3 _ HN.out (F4.out.sc.later (Below.refl _ _).drew)).mono ?_; rintro e W5 ⟨g1, g2, g3, j1, j2, rfl, hi5, hb5⟩; have hB5 : Below W4.heap.size W4 W5 := (Below.refl _ _).drew.trans hb5)
        | (go_at_call 25; refine (eqScene_same d1 d2 d3 g1 g2 g3 n1 n2 n3 _ _ _ _ _ _ z1 z2 z3 _ HN.out (I4.out.later hB5) hi5.at).mono ?_; rintro e W6 ⟨rfl, hb6⟩; have hB6 : Below W4.heap.size W4 W6 := hB5.trans (hb6.mono hB5.size)))
    have F6 : Hid (LwS w a1 a2 a3 n1 n2 n3 c1 c2 c3 z1 z2 z3 W6) := F4.out.later hB6
    clear hb5 hb6 hB5 hB6 hi5 F4
    go_wp2
    go_ret
    exact ⟨rfl, F6.out.bel⟩

end Go.Proofs.Ytcjdnomhnlbmbaa

/-
  Scenes as the laws mark them.
-/
namespace Go.Proofs.Ytcjdnomhnlbmbaa
open Go.RowKit

theorem Within.wide {lo hi lo' hi' : Nat} {w w' : World} (h : Within lo hi w w') (h1 : lo' ≤ lo) (h2 : hi ≤ hi') : Within lo' hi' w w' :=
  ⟨h.os, h.tape, h.output, h.size, fun k hk => h.block k (by omega)⟩
theorem Within.tr {lo hi : Nat} {w w' w'' : World} (h : Within lo hi w w') (h2 : Within lo hi w' w'') : Within lo hi w w'' :=
  ⟨h2.os.trans h.os, h2.tape.trans h.tape, h2.output.trans h.output, h2.size.trans h.size, fun k hk => (h2.block k hk).trans (h.block k hk)⟩

/-- What markScene answers. -/
def MkSc (w : World) (lo hi : Nat) (a1 a2 a3 : Option Addr) (n1 n2 n3 : Nat) (z1 z2 z3 : List Int) (m1 m2 : Nat) (k0 : Int) (e : Ending) (w' : World) : Prop :=
  e = .returned (.int .i64 (k0 + z1.length + z2.length + z3.length)) ∧ ScIn w' lo hi a1 a2 a3 n1 n2 n3 (marksL k0 z1.length) (marksL (k0 + z1.length) z2.length) (marksL (k0 + z1.length + z2.length) z3.length) m1 m2 ∧ ∃ u, Below w.heap.size w u ∧ Within lo hi u w'

set_option maxRecDepth 100000 in
set_option maxHeartbeats 4000000 in
theorem markScene_any (a1 a2 a3 : Option Addr) (n1 n2 n3 c1 c2 c3 : Nat) (z1 z2 z3 : List Int) (m1 m2 lo hi : Nat) (k0 : Int) (w : World) (hn : n1 + n2 + n3 ≤ 1048576) (h0 : 1 ≤ k0) (h1 : k0 ≤ 1048576) (hs : ScIn w lo hi a1 a2 a3 n1 n2 n3 z1 z2 z3 m1 m2) :
    Calls Try.prog 28 #[.agg #[.slice a1 n1 c1, .slice a2 n2 c2, .slice a3 n3 c3], .int .i64 k0] w fun e w' => MkSc w lo hi a1 a2 a3 n1 n2 n3 z1 z2 z3 m1 m2 k0 e w' := by
  have HSC : Hid (ScIn w lo hi a1 a2 a3 n1 n2 n3 z1 z2 z3 m1 m2) := hs
  have HT : Hid (hi ≤ w.heap.size) := hs.top
  have HL : Hid (z1.length = n1 * 9 ∧ z2.length = n2 * 6 ∧ z3.length = n3 * 3) := ⟨hs.l1, hs.l2, hs.l3⟩
  clear hs
  go_enter Try.func28, Try.ntmps28
  go_wp2_with fail
  have I0 : Hid (ScIn (w.alloc (.cells #[.slice a1 n1 c1, .slice a2 n2 c2, .slice a3 n3 c3] 51)) lo hi a1 a2 a3 n1 n2 n3 z1 z2 z3 m1 m2) := HSC.out.later (bel0 _ _)
  refine (markTriS_any a1 n1 c1 z1 k0 _ lo m1 (by omega) h0 (by omega) HL.out.1 I0.out.r1).mono ?_
  rintro e w1 ⟨rfl, hr1, hw1⟩
  have p1 : w1.cell? ⟨w.heap.size, 1, none⟩ = some (.slice a2 n2 c2) := by rw [hw1.cell (p := ⟨w.heap.size, 1, none⟩) (.inr (by have := I0.out.m12; have := I0.out.hi2; have := HT.out; show m1 ≤ w.heap.size; omega))]; simp [go_sem]
  have p2 : w1.cell? ⟨w.heap.size, 2, none⟩ = some (.slice a3 n3 c3) := by rw [hw1.cell (p := ⟨w.heap.size, 2, none⟩) (.inr (by have := I0.out.m12; have := I0.out.hi2; have := HT.out; show m1 ≤ w.heap.size; omega))]; simp [go_sem]
  have HR1 : Hid (RowIn .u32 w1 lo m1 a1 (marksL k0 z1.length)) := hr1
  have HR2 : Hid (RowIn .u32 w1 m1 m2 a2 z2) := I0.out.r2.apart hw1 (.inr (Nat.le_refl _))
  have HR3 : Hid (RowIn .u32 w1 m2 hi a3 z3) := I0.out.r3.apart hw1 (.inr I0.out.m12)
  have HW1 : Hid (Within lo hi (w.alloc (.cells #[.slice a1 n1 c1, .slice a2 n2 c2, .slice a3 n3 c3] 51)) w1) := hw1.wide (Nat.le_refl _) (Nat.le_trans I0.out.m12 I0.out.hi2)
  clear hr1 hw1
  go_wp2_with fail
  refine (markRayS_any a2 n2 c2 z2 (k0 + z1.length) _ m1 m2 (by omega) (by omega) (by have := HL.out; omega) HL.out.2.1 HR2.out).mono ?_
  rintro e w2 ⟨rfl, hr2, hw2⟩
  replace p2 := (hw2.cell (p := ⟨w.heap.size, 2, none⟩) (.inr (by have := I0.out.hi2; have := HT.out; show m2 ≤ w.heap.size; omega))).trans p2
  have HQ1 : Hid (RowIn .u32 w2 lo m1 a1 (marksL k0 z1.length)) := HR1.out.apart hw2 (.inl (Nat.le_refl _))
  have HQ2 : Hid (RowIn .u32 w2 m1 m2 a2 (marksL (k0 + z1.length) z2.length)) := hr2
  have HQ3 : Hid (RowIn .u32 w2 m2 hi a3 z3) := HR3.out.apart hw2 (.inr (Nat.le_refl _))
  have HW2 : Hid (Within lo hi (w.alloc (.cells #[.slice a1 n1 c1, .slice a2 n2 c2, .slice a3 n3 c3] 51)) w2) := HW1.out.tr (hw2.wide I0.out.lo1 I0.out.hi2)
  clear hr2 hw2 HR1 HR2 HR3 HW1 p1
  go_wp2_with fail
  refine (markPointS_any a3 n3 c3 z3 (k0 + z1.length + z2.length) _ m2 hi (by omega) (by omega) (by have := HL.out; omega) HL.out.2.2 HQ3.out).mono ?_
  rintro e w3 ⟨rfl, hr3, hw3⟩
  have HW3 : Hid (Within lo hi (w.alloc (.cells #[.slice a1 n1 c1, .slice a2 n2 c2, .slice a3 n3 c3] 51)) w3) := HW2.out.tr (hw3.wide (Nat.le_trans I0.out.lo1 I0.out.m12) (Nat.le_refl _))
  have HI : Hid (ScIn w3 lo hi a1 a2 a3 n1 n2 n3 (marksL k0 z1.length) (marksL (k0 + z1.length) z2.length) (marksL (k0 + z1.length + z2.length) z3.length) m1 m2) := by
    refine ⟨by rw [marks_length]; exact HL.out.1, by rw [marks_length]; exact HL.out.2.1, by rw [marks_length]; exact HL.out.2.2, I0.out.lo1, I0.out.m12, I0.out.hi2, ?_, HQ1.out.apart hw3 (.inl I0.out.m12), HQ2.out.apart hw3 (.inl (Nat.le_refl _)), hr3⟩
    rw [HW3.out.size]
    exact I0.out.top
  clear hr3 hw3 HQ1 HQ2 HQ3 HW2 p2 I0
  go_wp2
  go_ret
  exact ⟨ret_intM rfl, HI.out, _, bel0 _ _, HW3.out⟩

set_option maxRecDepth 100000 in
set_option maxHeartbeats 4000000 in
theorem heldScene_any (a1 a2 a3 : Option Addr) (n1 n2 n3 c1 c2 c3 : Nat) (k0 : Int) (w : World) (hn : n1 + n2 + n3 ≤ 1048576) (h0 : 1 ≤ k0) (h1 : k0 ≤ 1048576) (hr1 : RowAt .u32 w a1 (marksL k0 (n1 * 9))) (hr2 : RowAt .u32 w a2 (marksL (k0 + ((n1 * 9 : Nat) : Int)) (n2 * 6))) (hr3 : RowAt .u32 w a3 (marksL (k0 + ((n1 * 9 : Nat) : Int) + ((n2 * 6 : Nat) : Int)) (n3 * 3))) :
    Calls Try.prog 29 #[.agg #[.slice a1 n1 c1, .slice a2 n2 c2, .slice a3 n3 c3], .int .i64 k0] w fun e w' => e = .returned (.int .i64 (k0 + ((n1 * 9 : Nat) : Int) + ((n2 * 6 : Nat) : Int) + ((n3 * 3 : Nat) : Int))) ∧ Below w.heap.size w w' := by
  have HR1 : Hid (RowAt .u32 w a1 (marksL k0 (n1 * 9))) := hr1
  have HR2 : Hid (RowAt .u32 w a2 (marksL (k0 + ((n1 * 9 : Nat) : Int)) (n2 * 6))) := hr2
  have HR3 : Hid (RowAt .u32 w a3 (marksL (k0 + ((n1 * 9 : Nat) : Int) + ((n2 * 6 : Nat) : Int)) (n3 * 3))) := hr3
  clear hr1 hr2 hr3
  go_enter Try.func29, Try.ntmps29
  go_wp2_with fail
  refine (heldTriS_any a1 n1 c1 k0 _ (by omega) h0 (by omega) (HR1.out.later (bel0 _ _))).mono ?_
  rintro e w1 ⟨rfl, hb1⟩
  have p1 : w1.cell? ⟨w.heap.size, 1, none⟩ = some (.slice a2 n2 c2) := by rw [(bcell hb1).1 _ _ (by simp)]; simp [go_sem]
  have p2 : w1.cell? ⟨w.heap.size, 2, none⟩ = some (.slice a3 n3 c3) := by rw [(bcell hb1).1 _ _ (by simp)]; simp [go_sem]
  have S1 : w.heap.size < w1.heap.size := by have := hb1.size; simp at this; omega
  have HB1 : Hid (Below w.heap.size w w1) := (bel0 _ _).trans (hb1.mono (by simp))
  have hneg1 : ¬ k0 + ((n1 * 9 : Nat) : Int) < 0 := by omega
  obtain ⟨K1, hK1⟩ : ∃ K1, K1 = k0 + ((n1 * 9 : Nat) : Int) := ⟨_, rfl⟩
  have hK1a : 1 ≤ K1 := by omega
  have hK1b : K1 ≤ 1048576 + n1 * 9 := by omega
  rw [← hK1] at hneg1 HR2 HR3 ⊢
  have HK1 : Hid (K1 = k0 + ((n1 * 9 : Nat) : Int)) := hK1
  clear hb1 hK1
  go_wp2_with fail
  refine (heldRayS_any a2 n2 c2 K1 _ (by omega) (by omega) (by omega) (HR2.out.later HB1.out)).mono ?_
  rintro e w2 ⟨rfl, hb2⟩
  replace p2 := ((bcell hb2).1 _ _ S1).trans p2
  have HB2 : Hid (Below w.heap.size w w2) := HB1.out.trans (hb2.mono HB1.out.size)
  have hneg2 : ¬ K1 + ((n2 * 6 : Nat) : Int) < 0 := by omega
  obtain ⟨K2, hK2⟩ : ∃ K2, K2 = K1 + ((n2 * 6 : Nat) : Int) := ⟨_, rfl⟩
  have hK2a : 1 ≤ K2 := by omega
  have hK2b : K2 ≤ 1048576 + n1 * 9 + n2 * 6 := by omega
  rw [← hK2] at hneg2 HR3 ⊢
  have HK2 : Hid (K2 = K1 + ((n2 * 6 : Nat) : Int)) := hK2
  clear hb2 hK2 p1 HB1
  go_wp2_with fail
  refine (heldPointS_any a3 n3 c3 K2 _ (by omega) (by omega) (by omega) (HR3.out.later HB2.out)).mono ?_
  rintro e w3 ⟨rfl, hb3⟩
  have HB3 : Hid (Below w.heap.size w w3) := HB2.out.trans (hb3.mono HB2.out.size)
  have hneg3 : ¬ K2 + ((n3 * 3 : Nat) : Int) < 0 := by omega
  clear hb3 HB2 p2
  go_wp2
  go_ret
  exact ⟨ret_intM (by have := HK1.out; have := HK2.out; omega), HB3.out⟩

theorem LwS.within {w W W' : World} {a1 a2 a3 : Option Addr} {n1 n2 n3 c1 c2 c3 lo hi : Nat} {z1 z2 z3 : List Int} (h : LwS w a1 a2 a3 n1 n2 n3 c1 c2 c3 z1 z2 z3 W) (hs : ScAt w a1 a2 a3 n1 n2 n3 z1 z2 z3) (hw : Within lo hi W W') (hl : w.heap.size < lo) : LwS w a1 a2 a3 n1 n2 n3 c1 c2 c3 z1 z2 z3 W' := by
  have hb : Below w.heap.size w W' := h.bel.trans (hw.below.mono (by omega))
  exact ⟨⟨by rw [hw.size]; exact h.bx.lt, (hw.cell (p := ⟨w.heap.size, 0, none⟩) (.inl hl)).trans h.bx.q0, (hw.cell (p := ⟨w.heap.size, 1, none⟩) (.inl hl)).trans h.bx.q1, (hw.cell (p := ⟨w.heap.size, 2, none⟩) (.inl hl)).trans h.bx.q2⟩, hs.later hb, hb⟩

end Go.Proofs.Ytcjdnomhnlbmbaa

/-
  Rows of values of one cell each, told by a function of the place.
-/
namespace Go.Proofs.Ytcjdnomhnlbmbaa
open Go.RowKit

/-- The slice of n values that begins at a reads as f 0, f 1, .. -/
def RowF (w : World) (a : Option Addr) (n : Nat) (f : Nat → Value) : Prop :=
  n = 0 ∨ ∃ b off, a = some ⟨b, off, none⟩ ∧ b < w.heap.size ∧ ∀ j, j < n → w.cell? ⟨b, off + j, none⟩ = some (f j)
/-- .. and lies in blocks from lo to below hi, and may be written. -/
def RowFIn (w : World) (lo hi : Nat) (a : Option Addr) (n : Nat) (f : Nat → Value) : Prop :=
  n = 0 ∨ ∃ b off, a = some ⟨b, off, none⟩ ∧ lo ≤ b ∧ b < hi ∧ b < w.heap.size ∧ (∀ j, j < n → w.cell? ⟨b, off + j, none⟩ = some (f j)) ∧ ∀ j, j < n → w.frozen? ⟨b, off + j, none⟩ = false

theorem RowFIn.row {w : World} {lo hi : Nat} {a : Option Addr} {n : Nat} {f : Nat → Value} (h : RowFIn w lo hi a n f) : RowF w a n f := by
  rcases h with h | ⟨b, off, h1, _, _, h2, h3, _⟩
  · exact .inl h
  · exact .inr ⟨b, off, h1, h2, h3⟩
theorem RowF.later {w w' : World} {a : Option Addr} {n : Nat} {f : Nat → Value} (h : RowF w a n f) (hb : Below w.heap.size w w') : RowF w' a n f := by
  rcases h with h | ⟨b, off, h1, h2, h3⟩
  · exact .inl h
  · exact .inr ⟨b, off, h1, Nat.lt_of_lt_of_le h2 hb.size, fun j hj => ((bcell hb).1 _ _ h2).trans (h3 j hj)⟩
theorem RowFIn.later {w w' : World} {lo hi : Nat} {a : Option Addr} {n : Nat} {f : Nat → Value} (h : RowFIn w lo hi a n f) (hb : Below w.heap.size w w') : RowFIn w' lo hi a n f := by
  rcases h with h | ⟨b, off, h1, h0, h00, h2, h3, h4⟩
  · exact .inl h
  · exact .inr ⟨b, off, h1, h0, h00, Nat.lt_of_lt_of_le h2 hb.size, fun j hj => ((bcell hb).1 _ _ h2).trans (h3 j hj), fun j hj => ((bcell hb).2 _ _ h2).trans (h4 j hj)⟩
theorem RowFIn.apart {w w' : World} {lo hi lo' hi' : Nat} {a : Option Addr} {n : Nat} {f : Nat → Value} (h : RowFIn w lo hi a n f) (hb : Within lo' hi' w w') (hd : hi ≤ lo' ∨ hi' ≤ lo) : RowFIn w' lo hi a n f := by
  rcases h with h | ⟨b, off, h1, h0, h00, h2, h3, h4⟩
  · exact .inl h
  · exact .inr ⟨b, off, h1, h0, h00, by rw [hb.size]; exact h2, fun j hj => (hb.cell (p := ⟨b, off + j, none⟩) (by simp; omega)).trans (h3 j hj), fun j hj => (hb.frozen (p := ⟨b, off + j, none⟩) (by simp; omega)).trans (h4 j hj)⟩

/-- A row of n places that is being filled: the first m hold f 0, f 1, .. -/
structure FillF (w : World) (b off n : Nat) (f : Nat → Value) (m : Nat) : Prop where
  lt : b < w.heap.size
  done : ∀ j, j < m → w.cell? ⟨b, off + j, none⟩ = some (f j)
  all : ∀ j, j < n → ∃ v, w.cell? ⟨b, off + j, none⟩ = some v
  free : ∀ j, j < n → w.frozen? ⟨b, off + j, none⟩ = false
theorem FillF.step {w : World} {b off n : Nat} {f : Nat → Value} {m : Nat} (h : FillF w b off n f m) (hm : m < n) : FillF (w.setCell ⟨b, off + m, none⟩ (f m)) b off n f (m + 1) := by
  obtain ⟨u, hu⟩ := h.all m hm
  refine ⟨by simpa using h.lt, fun j hj => ?_, fun j hj => ?_, fun j hj => ?_⟩
  · by_cases e : j = m
    · subst e; exact World.cell?_setCell_same _ _ _ hu
    · rw [World.cell?_setCell_other _ _ _ _ (by intro hh; apply e; have := congrArg Addr.off hh; simp at this; omega)]; exact h.done j (by omega)
  · by_cases e : j = m
    · subst e; exact ⟨_, World.cell?_setCell_same _ _ _ hu⟩
    · rw [World.cell?_setCell_other _ _ _ _ (by intro hh; apply e; have := congrArg Addr.off hh; simp at this; omega)]; exact h.all j hj
  · rw [World.frozen?_setCell]; exact h.free j hj
theorem FillF.later {w w' : World} {b off n : Nat} {f : Nat → Value} {m : Nat} (h : FillF w b off n f m) (hb : Below w.heap.size w w') : FillF w' b off n f m :=
  ⟨Nat.lt_of_lt_of_le h.lt hb.size, fun j hj => ((bcell hb).1 _ _ h.lt).trans (h.done j hj), fun j hj => by obtain ⟨v, hv⟩ := h.all j hj; exact ⟨v, ((bcell hb).1 _ _ h.lt).trans hv⟩, fun j hj => ((bcell hb).2 _ _ h.lt).trans (h.free j hj)⟩
theorem FillF.row {w : World} {b off n lo hi : Nat} {f : Nat → Value} (h : FillF w b off n f n) (h1 : lo ≤ b) (h2 : b < hi) : RowFIn w lo hi (some ⟨b, off, none⟩) n f := .inr ⟨b, off, rfl, h1, h2, h.lt, h.done, h.free⟩
theorem FillF.start (w : World) (z : Value) (n : Nat) (t : TypeId) (f : Nat → Value) : FillF (w.alloc (.cells (madeCells #[z] n) t)) w.heap.size 0 n f 0 := by
  refine ⟨by simp, fun j hj => absurd hj (by omega), fun j hj => ⟨z, ?_⟩, fun j hj => by simp⟩
  simp [hj, madeCells, Nat.mod_one]

end Go.Proofs.Ytcjdnomhnlbmbaa

/-
  Lists of ints as the laws copy, compare and mark them.
-/
namespace Go.Proofs.Ytcjdnomhnlbmbaa
open Go.RowKit

theorem info_Int : (Try.prog.info? 3).map (fun i => (i.zero, i.size, i.bytes)) = some (some (.int .i64 0), 1, 8) := by kernel_rfl

set_option maxHeartbeats 1000000 in
theorem toIntS_any (a : Option Addr) (n c : Nat) (g : Nat → Int) (w : World) (hn : n ≤ 1048576) (hz : RowF w a n (fun j => .int .i64 (g j))) :
    Calls Try.prog 46 #[.slice a n c] w fun e w' => ∃ a', e = .returned (.slice a' n n) ∧ RowFIn w' w.heap.size w'.heap.size a' n (fun j => .int .i64 (g j)) ∧ Below w.heap.size w w' := by
  have hmk := run_make_row' (P := Try.prog) 23 3 (.int .i64 0) 8 Try.underlying23 info_Int rfl .i64 .i64 n (by omega) (by omega)
  have HS : Hid (FillF (w.alloc (.cells (madeCells #[.int .i64 0] n) 3)) w.heap.size 0 n (fun j => .int .i64 (g j)) 0) := FillF.start _ _ _ _ _
  have HZ : Hid (RowF w a n (fun j => .int .i64 (g j))) := hz
  clear hz
  go_enter Try.func46, Try.ntmps46
  go_wp2
  go_loopw [4] (fun si wr => ∃ i : Nat, i ≤ n ∧ si = .int .i64 i ∧ Hid (FillF wr w.heap.size 0 n (fun j => .int .i64 (g j)) i) ∧ Hid (Below w.heap.size w wr)) (fun si _ => n - (intOf si).toNat)
  case atStart => exact ⟨0, Nat.zero_le _, rfl, HS, bel0 _ _⟩
  case round =>
    obtain ⟨i, hi, rfl, hF, hb⟩ := hrel
    clear hmk HS
    by_cases hlt : i < n
    · obtain ⟨b, off, rfl, hbl, hc⟩ := HZ.out.resolve_left (by omega)
      have g1 : wr.cell? ⟨b, off + i, none⟩ = some (.int .i64 (g i)) := ((bcell hb.out).1 _ _ hbl).trans (hc i hlt)
      obtain ⟨u, g2⟩ := hF.out.all i hlt
      have g3 := hF.out.free i hlt
      have hs := hF.out.step hlt
      have hbe := hb.out.setCell (p := ⟨w.heap.size, 0 + i, none⟩) (Nat.le_refl _) (.int .i64 (g i))
      rw [Nat.zero_add] at g2 g3 hs hbe
      have HS : Hid (FillF (wr.setCell ⟨w.heap.size, i, none⟩ (.int .i64 (g i))) w.heap.size 0 n (fun j => .int .i64 (g j)) (i + 1)) := hs
      have HB : Hid (Below w.heap.size w (wr.setCell ⟨w.heap.size, i, none⟩ (.int .i64 (g i)))) := hbe
      have hib : (i : Int) < n := by omega
      clear hs hbe hc hF hb
      go_wp2
      go_roundw
      case rel => exact ⟨i + 1, by omega, by go_num, HS, HB⟩
      case measure => simp [intOf]; omega
    · have e : i = n := by omega
      subst e
      go_wp2
      go_ret
      exact ⟨_, rfl, hF.out.row (Nat.le_refl _) hF.out.lt, hb.out⟩

set_option maxHeartbeats 1000000 in
theorem eqIntS_same (a a1 : Option Addr) (n c c1 : Nat) (g : Nat → Int) (w : World) (hn : n ≤ 1048576) (hz : RowF w a n (fun j => .int .i64 (g j))) (hy : RowF w a1 n (fun j => .int .i64 (g j))) :
    Calls Try.prog 38 #[.slice a n c, .slice a1 n c1] w fun e w' => e = .returned (.bool true) ∧ Below w.heap.size w w' := by
  have HZ : Hid (RowF w a n (fun j => .int .i64 (g j))) := hz
  have HY : Hid (RowF w a1 n (fun j => .int .i64 (g j))) := hy
  clear hz hy
  go_enter Try.func38, Try.ntmps38
  go_wp2
  go_loopw [5] (fun si wr => ∃ i : Nat, i ≤ n ∧ si = .int .i64 i ∧ Hid (Below w.heap.size w wr)) (fun si _ => n - (intOf si).toNat)
  case atStart => exact ⟨0, Nat.zero_le _, rfl, Below.refl _ _⟩
  case round =>
    obtain ⟨i, hi, rfl, hb⟩ := hrel
    by_cases hlt : i < n
    · obtain ⟨b, off, rfl, hbl, hc⟩ := HZ.out.resolve_left (by omega)
      obtain ⟨b1, off1, rfl, hbl1, hc1⟩ := HY.out.resolve_left (by omega)
      have g1 : wr.cell? ⟨b, off + i, none⟩ = some (.int .i64 (g i)) := ((bcell hb.out).1 _ _ hbl).trans (hc i hlt)
      have g2 : wr.cell? ⟨b1, off1 + i, none⟩ = some (.int .i64 (g i)) := ((bcell hb.out).1 _ _ hbl1).trans (hc1 i hlt)
      obtain ⟨x, hx⟩ : ∃ x, x = g i := ⟨_, rfl⟩
      rw [← hx] at g1 g2
      have hne : (x != x) = false := by simp
      have hib : (i : Int) < n := by omega
      clear hc hc1 hx
      go_wp2
      go_quiet (fail)
      go_wp2
      go_roundw
      case rel => exact ⟨i + 1, by omega, by go_num, by first | exact hb | exact below_drewN hb.out _⟩
      case measure => simp [intOf]; omega
    · go_wp2
      go_ret
      exact ⟨rfl, hb.out⟩

set_option maxHeartbeats 1000000 in
theorem markIntS_any (a : Option Addr) (n c : Nat) (g : Nat → Int) (k0 : Int) (w : World) (lo hi : Nat) (hn : n ≤ 1048576) (h0 : 1 ≤ k0) (h1 : k0 ≤ 33554432) (hz : RowFIn w lo hi a n (fun j => .int .i64 (g j))) :
    Calls Try.prog 40 #[.slice a n c, .int .i64 k0] w fun e w' => e = .returned (.int .i64 (k0 + n)) ∧ RowFIn w' lo hi a n (fun j : Nat => .int .i64 (k0 + j)) ∧ Within lo hi w w' := by
  by_cases hn0 : n = 0
  · subst hn0
    go_enter Try.func40, Try.ntmps40
    go_wp2
    go_loop [1, 5] (fun k i => k = .int .i64 k0 ∧ i = .int .i64 0) (fun _ _ => 0)
    case atStart => exact ⟨rfl, rfl⟩
    case round =>
      obtain ⟨rfl, rfl⟩ := hrel
      go_wp2
      go_ret
      exact ⟨ret_intM (by simp), .inl rfl, Within.refl _ _ _⟩
  · obtain ⟨b, off, rfl, hlo, hhi, hb, hc, hf⟩ := hz.resolve_left hn0
    have HS : Hid (FillF w b off n (fun j : Nat => .int .i64 (k0 + j)) 0) := ⟨hb, fun j hj => absurd hj (by omega), fun j hj => ⟨_, hc j hj⟩, hf⟩
    clear hc hf hz
    go_enter Try.func40, Try.ntmps40
    go_wp2
    go_loopw [1, 5] (fun k si wr => ∃ i : Nat, i ≤ n ∧ si = .int .i64 i ∧ k = .int .i64 (k0 + i) ∧ Hid (FillF wr b off n (fun j : Nat => .int .i64 (k0 + j)) i) ∧ Hid (Within lo hi w wr)) (fun _ si _ => n - (intOf si).toNat)
    case atStart => exact ⟨0, Nat.zero_le _, rfl, by simp, HS, Within.refl _ _ _⟩
    case round =>
      obtain ⟨i, hi', rfl, rfl, hM, hW⟩ := hrel
      clear HS
      by_cases hlt : i < n
      · obtain ⟨v, q⟩ := hM.out.all i hlt
        have f := hM.out.free i hlt
        have HM2 : Hid (FillF (wr.setCell ⟨b, off + i, none⟩ (.int .i64 (k0 + i))) b off n (fun j : Nat => .int .i64 (k0 + j)) (i + 1)) := hM.out.step hlt
        have HW2 : Hid (Within lo hi w (wr.setCell ⟨b, off + i, none⟩ (.int .i64 (k0 + i)))) := hW.out.setCell (p := ⟨b, off + i, none⟩) hlo hhi _
        have hb1 : k0 + (i : Int) ≤ 2000000000 := by omega
        have ht3 : (k0 + (i : Int)).tmod 3 = (k0 + (i : Int)) % 3 := Int.tmod_eq_emod_of_nonneg (by omega)
        have hib : (i : Int) < n := by omega
        clear hM hW
        go_wp2
        go_roundw
        case rel => exact ⟨i + 1, by omega, by go_num, by go_num, HM2, HW2⟩
        case measure => simp [intOf]; omega
      · have hin : i = n := by omega
        subst hin
        have HR : Hid (RowFIn wr lo hi (some ⟨b, off, none⟩) i (fun j : Nat => .int .i64 (k0 + j))) := hM.out.row hlo hhi
        clear hM
        go_wp2
        go_ret
        exact ⟨rfl, HR.out, hW.out⟩

set_option maxHeartbeats 1000000 in
theorem heldIntS_any (a : Option Addr) (n c : Nat) (k0 : Int) (w : World) (hn : n ≤ 1048576) (h0 : 1 ≤ k0) (h1 : k0 ≤ 33554432) (hz : RowF w a n (fun j : Nat => .int .i64 (k0 + j))) :
    Calls Try.prog 42 #[.slice a n c, .int .i64 k0] w fun e w' => e = .returned (.int .i64 (k0 + n)) ∧ Below w.heap.size w w' := by
  by_cases hn0 : n = 0
  · subst hn0
    go_enter Try.func42, Try.ntmps42
    go_wp2
    go_loop [1, 5] (fun k i => k = .int .i64 k0 ∧ i = .int .i64 0) (fun _ _ => 0)
    case atStart => exact ⟨rfl, rfl⟩
    case round =>
      obtain ⟨rfl, rfl⟩ := hrel
      go_wp2
      go_ret
      exact ⟨ret_intM (by simp), Below.refl _ _⟩
  · obtain ⟨b, off, rfl, hb, hc⟩ := hz.resolve_left hn0
    go_enter Try.func42, Try.ntmps42
    go_wp2
    go_loop [1, 5] (fun k si => ∃ i : Nat, i ≤ n ∧ si = .int .i64 i ∧ k = .int .i64 (k0 + i)) (fun _ si => n - (intOf si).toNat)
    case atStart => exact ⟨0, Nat.zero_le _, rfl, by simp⟩
    case round =>
      obtain ⟨i, hi', rfl, rfl⟩ := hrel
      by_cases hlt : i < n
      · have q : w.cell? ⟨b, off + i, none⟩ = some (.int .i64 (k0 + i)) := hc i hlt
        have hb1 : k0 + (i : Int) ≤ 2000000000 := by omega
        have ht3 : (k0 + (i : Int)).tmod 3 = (k0 + (i : Int)) % 3 := Int.tmod_eq_emod_of_nonneg (by omega)
        have hib : (i : Int) < n := by omega
        clear hc
        go_wp2
        go_round
        case rel => exact ⟨i + 1, by omega, by go_num, by go_num⟩
        case measure => simp [intOf]; omega
      · have hin : i = n := by omega
        subst hin
        go_wp2
        go_ret
        exact ⟨rfl, Below.refl _ _⟩

end Go.Proofs.Ytcjdnomhnlbmbaa

/-
  Lists of bools as the laws copy, compare and mark them.
-/
namespace Go.Proofs.Ytcjdnomhnlbmbaa
open Go.RowKit

theorem info_Bool : (Try.prog.info? 4).map (fun i => (i.zero, i.size, i.bytes)) = some (some (.bool false), 1, 1) := by kernel_rfl

set_option maxHeartbeats 1000000 in
theorem toBoolS_any (a : Option Addr) (n c : Nat) (g : Nat → Bool) (w : World) (hn : n ≤ 1048576) (hz : RowF w a n (fun j => .bool (g j))) :
    Calls Try.prog 47 #[.slice a n c] w fun e w' => ∃ a', e = .returned (.slice a' n n) ∧ RowFIn w' w.heap.size w'.heap.size a' n (fun j => .bool (g j)) ∧ Below w.heap.size w w' := by
  have hmk := run_make_row' (P := Try.prog) 24 4 (.bool false) 1 Try.underlying24 info_Bool rfl .i64 .i64 n (by omega) (by omega)
  have HS : Hid (FillF (w.alloc (.cells (madeCells #[.bool false] n) 4)) w.heap.size 0 n (fun j => .bool (g j)) 0) := FillF.start _ _ _ _ _
  have HZ : Hid (RowF w a n (fun j => .bool (g j))) := hz
  clear hz
  go_enter Try.func47, Try.ntmps47
  go_wp2
  go_loopw [4] (fun si wr => ∃ i : Nat, i ≤ n ∧ si = .int .i64 i ∧ Hid (FillF wr w.heap.size 0 n (fun j => .bool (g j)) i) ∧ Hid (Below w.heap.size w wr)) (fun si _ => n - (intOf si).toNat)
  case atStart => exact ⟨0, Nat.zero_le _, rfl, HS, bel0 _ _⟩
  case round =>
    obtain ⟨i, hi, rfl, hF, hb⟩ := hrel
    clear hmk HS
    by_cases hlt : i < n
    · obtain ⟨b, off, rfl, hbl, hc⟩ := HZ.out.resolve_left (by omega)
      have g1 : wr.cell? ⟨b, off + i, none⟩ = some (.bool (g i)) := ((bcell hb.out).1 _ _ hbl).trans (hc i hlt)
      obtain ⟨u, g2⟩ := hF.out.all i hlt
      have g3 := hF.out.free i hlt
      have hs := hF.out.step hlt
      have hbe := hb.out.setCell (p := ⟨w.heap.size, 0 + i, none⟩) (Nat.le_refl _) (.bool (g i))
      rw [Nat.zero_add] at g2 g3 hs hbe
      have HS : Hid (FillF (wr.setCell ⟨w.heap.size, i, none⟩ (.bool (g i))) w.heap.size 0 n (fun j => .bool (g j)) (i + 1)) := hs
      have HB : Hid (Below w.heap.size w (wr.setCell ⟨w.heap.size, i, none⟩ (.bool (g i)))) := hbe
      have hib : (i : Int) < n := by omega
      clear hs hbe hc hF hb
      go_wp2
      go_roundw
      case rel => exact ⟨i + 1, by omega, by go_num, HS, HB⟩
      case measure => simp [intOf]; omega
    · have e : i = n := by omega
      subst e
      go_wp2
      go_ret
      exact ⟨_, rfl, hF.out.row (Nat.le_refl _) hF.out.lt, hb.out⟩

set_option maxHeartbeats 1000000 in
theorem eqBoolS_same (a a1 : Option Addr) (n c c1 : Nat) (g : Nat → Bool) (w : World) (hn : n ≤ 1048576) (hz : RowF w a n (fun j => .bool (g j))) (hy : RowF w a1 n (fun j => .bool (g j))) :
    Calls Try.prog 39 #[.slice a n c, .slice a1 n c1] w fun e w' => e = .returned (.bool true) ∧ Below w.heap.size w w' := by
  have HZ : Hid (RowF w a n (fun j => .bool (g j))) := hz
  have HY : Hid (RowF w a1 n (fun j => .bool (g j))) := hy
  clear hz hy
  go_enter Try.func39, Try.ntmps39
  go_wp2
  go_loopw [5] (fun si wr => ∃ i : Nat, i ≤ n ∧ si = .int .i64 i ∧ Hid (Below w.heap.size w wr)) (fun si _ => n - (intOf si).toNat)
  case atStart => exact ⟨0, Nat.zero_le _, rfl, Below.refl _ _⟩
  case round =>
    obtain ⟨i, hi, rfl, hb⟩ := hrel
    by_cases hlt : i < n
    · obtain ⟨b, off, rfl, hbl, hc⟩ := HZ.out.resolve_left (by omega)
      obtain ⟨b1, off1, rfl, hbl1, hc1⟩ := HY.out.resolve_left (by omega)
      have g1 : wr.cell? ⟨b, off + i, none⟩ = some (.bool (g i)) := ((bcell hb.out).1 _ _ hbl).trans (hc i hlt)
      have g2 : wr.cell? ⟨b1, off1 + i, none⟩ = some (.bool (g i)) := ((bcell hb.out).1 _ _ hbl1).trans (hc1 i hlt)
      obtain ⟨x, hx⟩ : ∃ x, x = g i := ⟨_, rfl⟩
      rw [← hx] at g1 g2
      have hne : (x != x) = false := by simp
      have hib : (i : Int) < n := by omega
      clear hc hc1 hx
      go_wp2
      go_quiet (fail)
      go_wp2
      go_roundw
      case rel => exact ⟨i + 1, by omega, by go_num, by first | exact hb | exact below_drewN hb.out _⟩
      case measure => simp [intOf]; omega
    · go_wp2
      go_ret
      exact ⟨rfl, hb.out⟩

set_option maxHeartbeats 1000000 in
theorem markBoolS_any (a : Option Addr) (n c : Nat) (g : Nat → Bool) (k0 : Int) (w : World) (lo hi : Nat) (hn : n ≤ 1048576) (h0 : 1 ≤ k0) (h1 : k0 ≤ 33554432) (hz : RowFIn w lo hi a n (fun j => .bool (g j))) :
    Calls Try.prog 41 #[.slice a n c, .int .i64 k0] w fun e w' => e = .returned (.int .i64 (k0 + n)) ∧ RowFIn w' lo hi a n (fun j : Nat => .bool ((k0 + j) % 3 == 0)) ∧ Within lo hi w w' := by
  by_cases hn0 : n = 0
  · subst hn0
    go_enter Try.func41, Try.ntmps41
    go_wp2
    go_loop [1, 5] (fun k i => k = .int .i64 k0 ∧ i = .int .i64 0) (fun _ _ => 0)
    case atStart => exact ⟨rfl, rfl⟩
    case round =>
      obtain ⟨rfl, rfl⟩ := hrel
      go_wp2
      go_ret
      exact ⟨ret_intM (by simp), .inl rfl, Within.refl _ _ _⟩
  · obtain ⟨b, off, rfl, hlo, hhi, hb, hc, hf⟩ := hz.resolve_left hn0
    have HS : Hid (FillF w b off n (fun j : Nat => .bool ((k0 + j) % 3 == 0)) 0) := ⟨hb, fun j hj => absurd hj (by omega), fun j hj => ⟨_, hc j hj⟩, hf⟩
    clear hc hf hz
    go_enter Try.func41, Try.ntmps41
    go_wp2
    go_loopw [1, 5] (fun k si wr => ∃ i : Nat, i ≤ n ∧ si = .int .i64 i ∧ k = .int .i64 (k0 + i) ∧ Hid (FillF wr b off n (fun j : Nat => .bool ((k0 + j) % 3 == 0)) i) ∧ Hid (Within lo hi w wr)) (fun _ si _ => n - (intOf si).toNat)
    case atStart => exact ⟨0, Nat.zero_le _, rfl, by simp, HS, Within.refl _ _ _⟩
    case round =>
      obtain ⟨i, hi', rfl, rfl, hM, hW⟩ := hrel
      clear HS
      by_cases hlt : i < n
      · obtain ⟨v, q⟩ := hM.out.all i hlt
        have f := hM.out.free i hlt
        have HM2 : Hid (FillF (wr.setCell ⟨b, off + i, none⟩ (.bool ((k0 + i) % 3 == 0))) b off n (fun j : Nat => .bool ((k0 + j) % 3 == 0)) (i + 1)) := hM.out.step hlt
        have HW2 : Hid (Within lo hi w (wr.setCell ⟨b, off + i, none⟩ (.bool ((k0 + i) % 3 == 0)))) := hW.out.setCell (p := ⟨b, off + i, none⟩) hlo hhi _
        have hb1 : k0 + (i : Int) ≤ 2000000000 := by omega
        have ht3 : (k0 + (i : Int)).tmod 3 = (k0 + (i : Int)) % 3 := Int.tmod_eq_emod_of_nonneg (by omega)
        have hib : (i : Int) < n := by omega
        clear hM hW
        go_wp2
        go_roundw
        case rel => exact ⟨i + 1, by omega, by go_num, by go_num, HM2, HW2⟩
        case measure => simp [intOf]; omega
      · have hin : i = n := by omega
        subst hin
        have HR : Hid (RowFIn wr lo hi (some ⟨b, off, none⟩) i (fun j : Nat => .bool ((k0 + j) % 3 == 0))) := hM.out.row hlo hhi
        clear hM
        go_wp2
        go_ret
        exact ⟨rfl, HR.out, hW.out⟩

set_option maxHeartbeats 1000000 in
theorem heldBoolS_any (a : Option Addr) (n c : Nat) (k0 : Int) (w : World) (hn : n ≤ 1048576) (h0 : 1 ≤ k0) (h1 : k0 ≤ 33554432) (hz : RowF w a n (fun j : Nat => .bool ((k0 + j) % 3 == 0))) :
    Calls Try.prog 43 #[.slice a n c, .int .i64 k0] w fun e w' => e = .returned (.int .i64 (k0 + n)) ∧ Below w.heap.size w w' := by
  by_cases hn0 : n = 0
  · subst hn0
    go_enter Try.func43, Try.ntmps43
    go_wp2
    go_loop [1, 5] (fun k i => k = .int .i64 k0 ∧ i = .int .i64 0) (fun _ _ => 0)
    case atStart => exact ⟨rfl, rfl⟩
    case round =>
      obtain ⟨rfl, rfl⟩ := hrel
      go_wp2
      go_ret
      exact ⟨ret_intM (by simp), Below.refl _ _⟩
  · obtain ⟨b, off, rfl, hb, hc⟩ := hz.resolve_left hn0
    go_enter Try.func43, Try.ntmps43
    go_wp2
    go_loop [1, 5] (fun k si => ∃ i : Nat, i ≤ n ∧ si = .int .i64 i ∧ k = .int .i64 (k0 + i)) (fun _ si => n - (intOf si).toNat)
    case atStart => exact ⟨0, Nat.zero_le _, rfl, by simp⟩
    case round =>
      obtain ⟨i, hi', rfl, rfl⟩ := hrel
      by_cases hlt : i < n
      · have q : w.cell? ⟨b, off + i, none⟩ = some (.bool ((k0 + i) % 3 == 0)) := hc i hlt
        have hb1 : k0 + (i : Int) ≤ 2000000000 := by omega
        have ht3 : (k0 + (i : Int)).tmod 3 = (k0 + (i : Int)) % 3 := Int.tmod_eq_emod_of_nonneg (by omega)
        have hib : (i : Int) < n := by omega
        clear hc
        go_wp2
        go_round
        case rel => exact ⟨i + 1, by omega, by go_num, by go_num⟩
        case measure => simp [intOf]; omega
      · have hin : i = n := by omega
        subst hin
        go_wp2
        go_ret
        exact ⟨rfl, Below.refl _ _⟩

end Go.Proofs.Ytcjdnomhnlbmbaa
