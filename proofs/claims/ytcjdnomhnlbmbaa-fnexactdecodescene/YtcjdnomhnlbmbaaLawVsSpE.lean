/-
  The law of ValidScene, for any program whose ValidScene answers whether the scene is valid.
-/
import Derived.Test.YtcjdnomhnlbmbaaSpW
import Derived.Test.YtcjdnomhnlbmbaaAppB
namespace Go.Proofs.Ytcjdnomhnlbmbaa
open Go.RowKit

/-- The function answers whether a scene is valid. -/
def VldSays (f : FuncId) : Prop := ∀ (a1 a2 a3 : Option Addr) (n1 n2 n3 c1 c2 c3 : Nat) (z1 z2 z3 : List Int) (w : World), n1 + n2 + n3 ≤ 1048576 → ScAt w a1 a2 a3 n1 n2 n3 z1 z2 z3 → U32 z1 → U32 z2 → U32 z3 →
  Calls Try.prog f #[.agg #[.slice a1 n1 c1, .slice a2 n2 c2, .slice a3 n3 c3]] w fun e w' => e = .returned (.bool (validSc n1 n2 n3 z1 z2 z3)) ∧ Below w.heap.size w w'

/-- A box that holds a scene's three slices. -/
structure BxS (w : World) (X : Nat) (v1 v2 v3 : Value) : Prop where
  lt : X < w.heap.size
  q0 : w.cell? ⟨X, 0, none⟩ = some v1
  q1 : w.cell? ⟨X, 1, none⟩ = some v2
  q2 : w.cell? ⟨X, 2, none⟩ = some v3
theorem BxS.later {w w' : World} {X : Nat} {v1 v2 v3 : Value} (h : BxS w X v1 v2 v3) (hb : Below w.heap.size w w') : BxS w' X v1 v2 v3 :=
  ⟨Nat.lt_of_lt_of_le h.lt hb.size, ((bcell hb).1 _ _ h.lt).trans h.q0, ((bcell hb).1 _ _ h.lt).trans h.q1, ((bcell hb).1 _ _ h.lt).trans h.q2⟩
theorem BxS.new (w : World) (v1 v2 v3 : Value) (t : TypeId) : BxS (w.alloc (.cells #[v1, v2, v3] t)) w.heap.size v1 v2 v3 :=
  ⟨by simp, by simp [go_sem], by simp [go_sem], by simp [go_sem]⟩

/-- Memory while a law over a scene runs: the box of the argument, the argument's lists. -/
structure LwS (w : World) (a1 a2 a3 : Option Addr) (n1 n2 n3 c1 c2 c3 : Nat) (z1 z2 z3 : List Int) (W : World) : Prop where
  bx : BxS W w.heap.size (.slice a1 n1 c1) (.slice a2 n2 c2) (.slice a3 n3 c3)
  sc : ScAt W a1 a2 a3 n1 n2 n3 z1 z2 z3
  bel : Below w.heap.size w W
theorem LwS.later {w W W' : World} {a1 a2 a3 : Option Addr} {n1 n2 n3 c1 c2 c3 : Nat} {z1 z2 z3 : List Int} (h : LwS w a1 a2 a3 n1 n2 n3 c1 c2 c3 z1 z2 z3 W) (hb : Below W.heap.size W W') : LwS w a1 a2 a3 n1 n2 n3 c1 c2 c3 z1 z2 z3 W' :=
  ⟨h.bx.later hb, h.sc.later hb, h.bel.trans (hb.mono h.bel.size)⟩
theorem LwS.start {w : World} {a1 a2 a3 : Option Addr} {n1 n2 n3 c1 c2 c3 : Nat} {z1 z2 z3 : List Int} (hs : ScAt w a1 a2 a3 n1 n2 n3 z1 z2 z3) (t : TypeId) : LwS w a1 a2 a3 n1 n2 n3 c1 c2 c3 z1 z2 z3 (w.alloc (.cells #[.slice a1 n1 c1, .slice a2 n2 c2, .slice a3 n3 c3] t)) :=
  ⟨BxS.new _ _ _ _ _, hs.later (bel0 _ _), bel0 _ _⟩

theorem last7 {p0 p1 p2 p3 p4 p5 q : Prop} (h : p0 ∧ p1 ∧ p2 ∧ p3 ∧ p4 ∧ p5 ∧ q) : q := h.2.2.2.2.2.2

set_option maxRecDepth 100000 in
set_option maxHeartbeats 16000000 in
theorem lawValidScene_any (hI : VldSays 24) (a1 a2 a3 : Option Addr) (n1 n2 n3 c1 c2 c3 : Nat) (z1 z2 z3 : List Int) (w : World) (h1 : n1 ≤ maxLen) (h2 : n2 ≤ maxLen) (h3 : n3 ≤ maxLen) (hu1 : U32 z1) (hu2 : U32 z2) (hu3 : U32 z3) (hs : ScAt w a1 a2 a3 n1 n2 n3 z1 z2 z3) :
    Calls Try.prog 5 #[.agg #[.slice a1 n1 c1, .slice a2 n2 c2, .slice a3 n3 c3]] w fun e w' => e = .returned (.bool true) ∧ Below w.heap.size w w' := by
  have HSC : Hid (ScAt w a1 a2 a3 n1 n2 n3 z1 z2 z3) := hs
  have HU : Hid (U32 z1 ∧ U32 z2 ∧ U32 z3) := ⟨hu1, hu2, hu3⟩
  have HI : Hid (VldSays 24) := hI
  clear hs hu1 hu2 hu3 hI
  go_enter Try.func5, Try.ntmps5
  go_wp2_with fail
  refine (szScene_any a1 a2 a3 n1 n2 n3 c1 c2 c3 _ h1 h2 h3).mono ?_
  rintro e W0 ⟨r, rfl, hr, hb⟩
  have F0 : Hid (LwS w a1 a2 a3 n1 n2 n3 c1 c2 c3 z1 z2 z3 W0) := (LwS.start HSC.out _).later hb
  clear hb
  rcases hr with hr | ⟨hr, hn⟩
  · go_wp2
    go_ret
    exact ⟨rfl, F0.out.bel⟩
  · have HN : Hid (n1 + n2 + n3 ≤ 1048576) := hn
    have hrn : ¬ r < 0 := by omega
    have q0 := F0.out.bx.q0
    have q1 := F0.out.bx.q1
    have q2 := F0.out.bx.q2
    clear hn
    go_wp2_with fail
    refine (toScene_any a1 a2 a3 n1 n2 n3 c1 c2 c3 z1 z2 z3 _ HN.out F0.out.sc).mono ?_
    rintro e W1 ⟨b1, b2, b3, m1, m2, rfl, hi1, hb1⟩
    have F1 : Hid (LwS w a1 a2 a3 n1 n2 n3 c1 c2 c3 z1 z2 z3 W1) := F0.out.later hb1
    have I1 : Hid (ScAt W1 b1 b2 b3 n1 n2 n3 z1 z2 z3) := hi1.at
    clear hb1 hi1 q0 q1 q2 F0
    go_wp2_with fail
    refine (validV_any b1 b2 b3 n1 n2 n3 n1 n2 n3 z1 z2 z3 _ HN.out I1.out HU.out.1 HU.out.2.1 HU.out.2.2).mono ?_
    rintro e W2 ⟨rfl, hb2⟩
    have F2 : Hid (LwS w a1 a2 a3 n1 n2 n3 c1 c2 c3 z1 z2 z3 W2) := F1.out.later hb2
    have q0 := F2.out.bx.q0
    have q1 := F2.out.bx.q1
    have q2 := F2.out.bx.q2
    obtain ⟨V, hV⟩ : ∃ V, V = validSc n1 n2 n3 z1 z2 z3 := ⟨_, rfl⟩
    rw [← hV]
    have HV : Hid (V = validSc n1 n2 n3 z1 z2 z3) := hV
    clear hb2 F1 I1 hV
    go_wp2_with fail
    refine (toScene_any a1 a2 a3 n1 n2 n3 c1 c2 c3 z1 z2 z3 _ HN.out F2.out.sc).mono ?_
    rintro e W3 ⟨d1, d2, d3, k1, k2, rfl, hi3, hb3⟩
    have F3 : Hid (∀ t, LwS w a1 a2 a3 n1 n2 n3 c1 c2 c3 z1 z2 z3 (W3.alloc (.cells #[.slice d1 n1 n1, .slice d2 n2 n2, .slice d3 n3 n3] t))) := fun t => (F2.out.later hb3).later (bel0 _ _)
    have X3 : Hid (∀ t, BxS (W3.alloc (.cells #[.slice d1 n1 n1, .slice d2 n2 n2, .slice d3 n3 n3] t)) W3.heap.size (.slice d1 n1 n1) (.slice d2 n2 n2) (.slice d3 n3 n3)) := fun t => BxS.new _ _ _ _ _
    have I3 : Hid (∀ t, ScAt (W3.alloc (.cells #[.slice d1 n1 n1, .slice d2 n2 n2, .slice d3 n3 n3] t)) d1 d2 d3 n1 n2 n3 z1 z2 z3) := fun t => hi3.at.later (bel0 _ _)
    clear hb3 hi3 q0 q1 q2 F2
    go_wp2_with fail
    refine (HI.out d1 d2 d3 n1 n2 n3 n1 n2 n3 z1 z2 z3 _ HN.out (I3.out _) HU.out.1 HU.out.2.1 HU.out.2.2).mono ?_
    rintro e W4 ⟨rfl, hb4⟩
    have F4 : Hid (LwS w a1 a2 a3 n1 n2 n3 c1 c2 c3 z1 z2 z3 W4) := (F3.out _).later hb4
    have X4 : Hid (BxS W4 W3.heap.size (.slice d1 n1 n1) (.slice d2 n2 n2) (.slice d3 n3 n3)) := (X3.out _).later hb4
    have I4 : Hid (ScAt W4 d1 d2 d3 n1 n2 n3 z1 z2 z3) := (I3.out _).later hb4
    rw [← HV.out]
    have hne : (V != V) = false := by simp
    have HH : Hid (∀ w', Below W4.heap.size W4 w' → w'.cell? ⟨w.heap.size, 0, none⟩ = some (.slice a1 n1 c1) ∧ w'.cell? ⟨w.heap.size, 1, none⟩ = some (.slice a2 n2 c2) ∧ w'.cell? ⟨w.heap.size, 2, none⟩ = some (.slice a3 n3 c3) ∧ w'.cell? ⟨W3.heap.size, 0, none⟩ = some (.slice d1 n1 n1) ∧ w'.cell? ⟨W3.heap.size, 1, none⟩ = some (.slice d2 n2 n2) ∧ w'.cell? ⟨W3.heap.size, 2, none⟩ = some (.slice d3 n3 n3) ∧ Below W4.heap.size W4 w') := by
      intro w' hw
      have e1 := F4.out.bx.later hw
      have e2 := X4.out.later hw
      exact ⟨e1.q0, e1.q1, e1.q2, e2.q0, e2.q1, e2.q2, hw⟩
    clear hb4 F3 X3 I3 HI HV
    go_wp2
    go_region_held3 (fun w' => w'.cell? ⟨w.heap.size, 0, none⟩ = some (.slice a1 n1 c1) ∧ w'.cell? ⟨w.heap.size, 1, none⟩ = some (.slice a2 n2 c2) ∧ w'.cell? ⟨w.heap.size, 2, none⟩ = some (.slice a3 n3 c3) ∧ w'.cell? ⟨W3.heap.size, 0, none⟩ = some (.slice d1 n1 n1) ∧ w'.cell? ⟨W3.heap.size, 1, none⟩ = some (.slice d2 n2 n2) ∧ w'.cell? ⟨W3.heap.size, 2, none⟩ = some (.slice d3 n3 n3) ∧ Below W4.heap.size W4 w')
      (first | exact HH.out _ (Below.refl _ _).drew | exact HH.out _ (by assumption))
      (first
        | (go_at_call 23; refine (toScene_any a1 a2 a3 n1 n2 n3 c1 c2 c3 z1 z2 z3 _ HN.out (F4.out.sc.later (Below.refl _ _).drew)).mono ?_; rintro e W5 ⟨g1, g2, g3, j1, j2, rfl, hi5, hb5⟩; have hB5 : Below W4.heap.size W4 W5 := (Below.refl _ _).drew.trans hb5)
        | (go_at_call 25; refine (eqScene_same d1 d2 d3 g1 g2 g3 n1 n2 n3 _ _ _ _ _ _ z1 z2 z3 _ HN.out (I4.out.later hB5) hi5.at).mono ?_; rintro e W6 ⟨rfl, hb6⟩; have hB6 : Below W4.heap.size W4 W6 := hB5.trans (hb6.mono hB5.size)))
    have F6 : Hid (LwS w a1 a2 a3 n1 n2 n3 c1 c2 c3 z1 z2 z3 W6) := F4.out.later hB6
    clear hb5 hb6 hB5 hB6 hi5 F4
    go_wp2
    go_ret
    exact ⟨rfl, F6.out.bel⟩

end Go.Proofs.Ytcjdnomhnlbmbaa

/-
  The model's l6point.
-/
namespace Go.Proofs.Ytcjdnomhnlbmbaa
open Go.RowKit

theorem OwnY.up {w : World} {base base' : Nat} {v : Value} {ys : List Int} (h : OwnY w base v ys) (hb : base' ≤ base) : OwnY w base' v ys := by
  refine ⟨h.1, ?_⟩
  rcases h.2 with h1 | ⟨g, cap, cur, h1, h2, h3⟩
  · exact .inl h1
  · exact .inr ⟨g, cap, cur, h1, Nat.le_trans hb h2, h3⟩

theorem leB_ne (v : Int) (n : Nat) (h : n ≠ 0) : leB v n ≠ [] := by
  intro e
  have := leB_length v n
  rw [e] at this
  simp at this
  omega

set_option maxRecDepth 100000 in
set_option maxHeartbeats 4000000 in
theorem point6_any (x y z : Int) (w : World) (xa : 0 ≤ x) (xb : x < 4294967296) (ya : 0 ≤ y) (yb : y < 4294967296) (za : 0 ≤ z) (zb : z < 4294967296) :
    Calls Try.prog 105 #[.agg #[.int .u32 x, .int .u32 y, .int .u32 z]] w fun e w' => NewY w (ptB x y z) e w' := by
  go_enter Try.func105, Try.ntmps105
  go_wp2_with fail
  refine (little_any x 4 _ xa (by omega) (by decide)).mono ?_
  rintro e w1 ⟨v1, rfl, ho1, hb1⟩
  have c1 : w1.cell? ⟨w.heap.size, 1, none⟩ = some (.int .u32 y) := by rw [(bcell hb1).1 _ _ (by simp)]; simp [go_sem]
  have c2 : w1.cell? ⟨w.heap.size, 2, none⟩ = some (.int .u32 z) := by rw [(bcell hb1).1 _ _ (by simp)]; simp [go_sem]
  have S1 : w.heap.size + 1 ≤ w1.heap.size := by have := hb1.size; simpa using this
  have HB1 : Hid (Below (w.heap.size + 1) (w.alloc (.cells #[.int .u32 x, .int .u32 y, .int .u32 z] 84)) w1) := by unfold Hid; simpa using hb1
  have HO1 : Hid (OwnY w1 (w.heap.size + 1) v1 (leB x 4)) := by unfold Hid; simpa using ho1
  clear hb1 ho1
  go_wp2_with fail
  refine (little_any y 4 _ ya (by omega) (by decide)).mono ?_
  rintro e w2 ⟨v2, rfl, ho2, hb2⟩
  replace c2 := ((bcell hb2).1 _ _ (by omega)).trans c2
  obtain ⟨b2, o2, k2, rfl, hr2⟩ := ho2.spot (leB_ne _ _ (by decide))
  have HO1b : Hid (OwnY w2 (w.heap.size + 1) v1 (leB x 4)) := HO1.out.later hb2
  have HB2 : Hid (Below (w.heap.size + 1) (w.alloc (.cells #[.int .u32 x, .int .u32 y, .int .u32 z] 84)) w2) := HB1.out.trans (hb2.mono S1)
  have S2 : w.heap.size + 1 ≤ w2.heap.size := Nat.le_trans S1 hb2.size
  have HR2 : Hid (RowAt .u8 w2 (some ⟨b2, o2, none⟩) (leB y 4)) := hr2.row
  clear hb2 ho2 hr2 HO1 HB1
  go_wp2_with (first | (at_builtin; refine appB rfl (.tmp 8) (.tmp 12) rfl (w.heap.size + 1) v1 (leB x 4) ⟨b2, o2, none⟩ _ k2 (leB y 4) rfl HO1b.out rfl rfl (by rw [leB_length]; omega) (by rw [leB_length]; omega) (leB_ne _ _ (by decide)) HR2.out S2 ?_; intro a3 m3 k3 w3 ho3 hb3; replace c2 := (hb3.cell (p := ⟨w.heap.size, 2, none⟩) (by simp)).trans c2) | fail)
  have S3 : w.heap.size + 1 ≤ w3.heap.size := Nat.le_trans S2 hb3.size
  have HO3 : Hid (OwnY w3 (w.heap.size + 1) (.slice a3 m3 k3) (leB x 4 ++ leB y 4)) := ho3
  have HB3 : Hid (Below (w.heap.size + 1) (w.alloc (.cells #[.int .u32 x, .int .u32 y, .int .u32 z] 84)) w3) := HB2.out.trans hb3
  clear ho3 hb3 HO1b HR2 HB2
  refine (little_any z 4 _ za (by omega) (by decide)).mono ?_
  rintro e w4 ⟨v4, rfl, ho4, hb4⟩
  obtain ⟨b4, o4, k4, rfl, hr4⟩ := ho4.spot (leB_ne _ _ (by decide))
  have HO3b : Hid (OwnY w4 (w.heap.size + 1) (.slice a3 m3 k3) (leB x 4 ++ leB y 4)) := HO3.out.later hb4
  have HB4 : Hid (Below (w.heap.size + 1) (w.alloc (.cells #[.int .u32 x, .int .u32 y, .int .u32 z] 84)) w4) := HB3.out.trans (hb4.mono S3)
  have S4 : w.heap.size + 1 ≤ w4.heap.size := Nat.le_trans S3 hb4.size
  have HR4 : Hid (RowAt .u8 w4 (some ⟨b4, o4, none⟩) (leB z 4)) := hr4.row
  clear hb4 ho4 hr4 HO3 HB3
  go_wp2_with (at_builtin; refine appB rfl (.tmp 14) (.tmp 18) rfl (w.heap.size + 1) _ (leB x 4 ++ leB y 4) ⟨b4, o4, none⟩ _ k4 (leB z 4) rfl HO3b.out rfl rfl (by rw [leB_length]; omega) (by rw [List.length_append, leB_length, leB_length]; omega) (leB_ne _ _ (by decide)) HR4.out S4 ?_; intro a5 m5 k5 w5 ho5 hb5)
  have HO5 : Hid (OwnY w5 w.heap.size (.slice a5 m5 k5) (leB x 4 ++ leB y 4 ++ leB z 4)) := ho5.up (Nat.le_succ _)
  have HB5 : Hid (Below w.heap.size w w5) := (bel0 _ _).trans ((HB4.out.trans hb5).mono (Nat.le_succ _))
  clear ho5 hb5 HO3b HR4 HB4
  go_wp2
  go_ret
  exact ⟨_, rfl, HO5.out, HB5.out⟩

end Go.Proofs.Ytcjdnomhnlbmbaa
