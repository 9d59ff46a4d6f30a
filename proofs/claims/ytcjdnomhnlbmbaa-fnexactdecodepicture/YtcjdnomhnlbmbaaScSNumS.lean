/-
  Scenes as the laws measure, copy and compare them.
-/
import Derived.Test.YtcjdnomhnlbmbaaSdT
import Derived.Test.YtcjdnomhnlbmbaaSdR
import Derived.Test.YtcjdnomhnlbmbaaSdP
import Derived.Test.YtcjdnomhnlbmbaaNum
namespace Go.Proofs.Ytcjdnomhnlbmbaa
open Go.RowKit

/-- The three lists of a scene read as these numbers: 9 for each triangle, 6 for each ray, 3 for each light. -/
structure ScAt (w : World) (a1 a2 a3 : Option Addr) (n1 n2 n3 : Nat) (z1 z2 z3 : List Int) : Prop where
  l1 : z1.length = n1 * 9
  l2 : z2.length = n2 * 6
  l3 : z3.length = n3 * 3
  r1 : RowAt .u32 w a1 z1
  r2 : RowAt .u32 w a2 z2
  r3 : RowAt .u32 w a3 z3

theorem ScAt.later {w w' : World} {a1 a2 a3 : Option Addr} {n1 n2 n3 : Nat} {z1 z2 z3 : List Int} (h : ScAt w a1 a2 a3 n1 n2 n3 z1 z2 z3) (hb : Below w.heap.size w w') : ScAt w' a1 a2 a3 n1 n2 n3 z1 z2 z3 :=
  ⟨h.l1, h.l2, h.l3, h.r1.later hb, h.r2.later hb, h.r3.later hb⟩

/-- .. and lie, one behind the other, in memory from block lo to below hi, which may be written. -/
structure ScIn (w : World) (lo hi : Nat) (a1 a2 a3 : Option Addr) (n1 n2 n3 : Nat) (z1 z2 z3 : List Int) (m1 m2 : Nat) : Prop where
  l1 : z1.length = n1 * 9
  l2 : z2.length = n2 * 6
  l3 : z3.length = n3 * 3
  lo1 : lo ≤ m1
  m12 : m1 ≤ m2
  hi2 : m2 ≤ hi
  top : hi ≤ w.heap.size
  r1 : RowIn .u32 w lo m1 a1 z1
  r2 : RowIn .u32 w m1 m2 a2 z2
  r3 : RowIn .u32 w m2 hi a3 z3

theorem ScIn.at {w : World} {lo hi : Nat} {a1 a2 a3 : Option Addr} {n1 n2 n3 : Nat} {z1 z2 z3 : List Int} {m1 m2 : Nat} (h : ScIn w lo hi a1 a2 a3 n1 n2 n3 z1 z2 z3 m1 m2) : ScAt w a1 a2 a3 n1 n2 n3 z1 z2 z3 :=
  ⟨h.l1, h.l2, h.l3, h.r1.row, h.r2.row, h.r3.row⟩

theorem ScIn.later {w w' : World} {lo hi : Nat} {a1 a2 a3 : Option Addr} {n1 n2 n3 : Nat} {z1 z2 z3 : List Int} {m1 m2 : Nat} (h : ScIn w lo hi a1 a2 a3 n1 n2 n3 z1 z2 z3 m1 m2) (hb : Below w.heap.size w w') : ScIn w' lo hi a1 a2 a3 n1 n2 n3 z1 z2 z3 m1 m2 :=
  ⟨h.l1, h.l2, h.l3, h.lo1, h.m12, h.hi2, Nat.le_trans h.top hb.size, h.r1.later hb, h.r2.later hb, h.r3.later hb⟩

theorem ScIn.apart {w w' : World} {lo hi lo' hi' : Nat} {a1 a2 a3 : Option Addr} {n1 n2 n3 : Nat} {z1 z2 z3 : List Int} {m1 m2 : Nat} (h : ScIn w lo hi a1 a2 a3 n1 n2 n3 z1 z2 z3 m1 m2) (hw : Within lo' hi' w w') (hd : hi ≤ lo' ∨ hi' ≤ lo) : ScIn w' lo hi a1 a2 a3 n1 n2 n3 z1 z2 z3 m1 m2 :=
  have h1 := h.lo1
  have h2 := h.m12
  have h3 := h.hi2
  ⟨h.l1, h.l2, h.l3, h1, h2, h3, by rw [hw.size]; exact h.top, h.r1.apart hw (by omega), h.r2.apart hw (by omega), h.r3.apart hw (by omega)⟩

theorem within_set (w : World) (p : Addr) (v : Value) : Within p.block (p.block + 1) w (w.setCell p v) := (Within.refl _ _ _).setCell (Nat.le_refl _) (Nat.lt_succ_self _) _

/-- What szScene answers: below 0, or the lists are small. -/
def SzSc (w : World) (n1 n2 n3 : Nat) (e : Ending) (w' : World) : Prop := ∃ r : Int, e = .returned (.int .i64 r) ∧ (r < 0 ∨ (0 ≤ r ∧ n1 + n2 + n3 ≤ 1048576)) ∧ Below w.heap.size w w'

set_option maxRecDepth 100000 in
set_option maxHeartbeats 2000000 in
theorem szScene_any (a1 a2 a3 : Option Addr) (n1 n2 n3 c1 c2 c3 : Nat) (w : World) (h1 : n1 ≤ maxLen) (h2 : n2 ≤ maxLen) (h3 : n3 ≤ maxLen) :
    Calls Try.prog 21 #[.agg #[.slice a1 n1 c1, .slice a2 n2 c2, .slice a3 n3 c3], .int .i64 1048576] w fun e w' => SzSc w n1 n2 n3 e w' := by
  unfold maxLen at h1 h2 h3
  by_cases q1 : (1048576 : Int) - n1 < 0
  · go_enter Try.func21, Try.ntmps21
    go_wp2
    go_ret
    exact ⟨-1, rfl, .inl (by decide), bel0 _ _⟩
  · by_cases q2 : (1048576 : Int) - n1 - n2 < 0
    · go_enter Try.func21, Try.ntmps21
      go_wp2
      go_ret
      exact ⟨-1, rfl, .inl (by decide), bel0 _ _⟩
    · by_cases q3 : (1048576 : Int) - n1 - n2 - n3 < 0
      · go_enter Try.func21, Try.ntmps21
        go_wp2
        go_ret
        exact ⟨-1, rfl, .inl (by decide), bel0 _ _⟩
      · go_enter Try.func21, Try.ntmps21
        go_wp2
        go_ret
        exact ⟨1048576 - n1 - n2 - n3, rfl, .inr ⟨by omega, by omega⟩, bel0 _ _⟩

/-- What toScene answers: the same scene in new memory. -/
def ToSc (w : World) (n1 n2 n3 : Nat) (z1 z2 z3 : List Int) (e : Ending) (w' : World) : Prop :=
  ∃ b1 b2 b3 m1 m2, e = .returned (.agg #[.slice b1 n1 n1, .slice b2 n2 n2, .slice b3 n3 n3]) ∧ ScIn w' w.heap.size w'.heap.size b1 b2 b3 n1 n2 n3 z1 z2 z3 m1 m2 ∧ Below w.heap.size w w'

set_option maxRecDepth 100000 in
set_option maxHeartbeats 4000000 in
theorem toScene_any (a1 a2 a3 : Option Addr) (n1 n2 n3 c1 c2 c3 : Nat) (z1 z2 z3 : List Int) (w : World) (hn : n1 + n2 + n3 ≤ 1048576) (hs : ScAt w a1 a2 a3 n1 n2 n3 z1 z2 z3) :
    Calls Try.prog 23 #[.agg #[.slice a1 n1 c1, .slice a2 n2 c2, .slice a3 n3 c3]] w fun e w' => ToSc w n1 n2 n3 z1 z2 z3 e w' := by
  have HSC : Hid (ScAt w a1 a2 a3 n1 n2 n3 z1 z2 z3) := hs
  have HN : Hid (n1 + n2 + n3 ≤ 1048576) := hn
  clear hs hn
  go_enter Try.func23, Try.ntmps23
  go_wp2_with fail
  refine (toTriS_any a1 n1 c1 z1 _ (by have := HN.out; omega) HSC.out.l1 (HSC.out.r1.later (bel3 _ _ _ _))).mono ?_
  rintro e w1 ⟨b1, rfl, hr1, hb1⟩
  have s1 := hb1.size
  simp at s1
  have p1 : w1.cell? ⟨w.heap.size, 1, none⟩ = some (.slice a2 n2 c2) := by rw [(bcell hb1).1 _ _ (by simp <;> omega)]; simp [go_sem]
  have p2 : w1.cell? ⟨w.heap.size, 2, none⟩ = some (.slice a3 n3 c3) := by rw [(bcell hb1).1 _ _ (by simp <;> omega)]; simp [go_sem]
  have r1 : ∀ j, j < 3 → w1.cell? ⟨w.heap.size + 1, j, none⟩ = some (.slice none 0 0) := by intro j hj; rw [(bcell hb1).1 _ _ (by simp)]; simp [go_sem]; rcases j with _ | _ | _ | j <;> simp_all <;> omega
  have r2 : ∀ j, w1.frozen? ⟨w.heap.size + 1, j, none⟩ = false := by intro j; rw [(bcell hb1).2 _ _ (by simp)]; simp [go_sem]
  have o1 : ∀ j, j < 3 → w1.cell? ⟨w.heap.size + 1 + 1, j, none⟩ = some (.slice none 0 0) := by intro j hj; rw [(bcell hb1).1 _ _ (by simp)]; simp [go_sem]; rcases j with _ | _ | _ | j <;> simp_all <;> omega
  have o2 : ∀ j, w1.frozen? ⟨w.heap.size + 1 + 1, j, none⟩ = false := by intro j; rw [(bcell hb1).2 _ _ (by simp)]; simp [go_sem]
  have r10 := r1 0 (by omega)
  have r11 := r1 1 (by omega)
  have r12 := r1 2 (by omega)
  have o10 := o1 0 (by omega)
  have o11 := o1 1 (by omega)
  have o12 := o1 2 (by omega)
  have HB1 : Hid (Below w.heap.size w w1) := (bel3 _ _ _ _).trans (hb1.mono (by simp <;> omega))
  have HR1 : Hid (RowIn .u32 w1 (w.heap.size + 3) w1.heap.size b1 z1) := by
    have := hr1.rowIn
    unfold Hid
    simpa using this
  have S1 : Hid (w.heap.size + 3 ≤ w1.heap.size) := by unfold Hid; omega
  clear hb1 hr1 r1 o1 s1
  go_wp2_with fail
  refine (toRayS_any a2 n2 c2 z2 _ (by have := HN.out; omega) HSC.out.l2 (HSC.out.r2.later (HB1.out.setCell (by simp <;> omega) _))).mono ?_
  rintro e w2 ⟨b2, rfl, hr2, hb2⟩
  have hlt : ∀ b, b < w.heap.size + 3 → b < (w1.setCell ⟨w.heap.size + 1 + 1, 0, none⟩ (.slice b1 n1 n1)).heap.size := by intro b hb; have := S1.out; simp; omega
  replace p2 : w2.cell? ⟨w.heap.size, 2, none⟩ = some (.slice a3 n3 c3) := by rw [(bcell hb2).1 _ _ (hlt _ (by omega))]; simp [go_sem, p2]
  replace r10 : w2.cell? ⟨w.heap.size + 1, 0, none⟩ = some (.slice none 0 0) := by rw [(bcell hb2).1 _ _ (hlt _ (by omega))]; simp [go_sem, r10]
  replace r11 : w2.cell? ⟨w.heap.size + 1, 1, none⟩ = some (.slice none 0 0) := by rw [(bcell hb2).1 _ _ (hlt _ (by omega))]; simp [go_sem, r11]
  replace r12 : w2.cell? ⟨w.heap.size + 1, 2, none⟩ = some (.slice none 0 0) := by rw [(bcell hb2).1 _ _ (hlt _ (by omega))]; simp [go_sem, r12]
  replace o10 : w2.cell? ⟨w.heap.size + 1 + 1, 0, none⟩ = some (.slice b1 n1 n1) := by rw [(bcell hb2).1 _ _ (hlt _ (by omega))]; simp [go_sem, o10]
  replace o11 : w2.cell? ⟨w.heap.size + 1 + 1, 1, none⟩ = some (.slice none 0 0) := by rw [(bcell hb2).1 _ _ (hlt _ (by omega))]; simp [go_sem, o11]
  replace o12 : w2.cell? ⟨w.heap.size + 1 + 1, 2, none⟩ = some (.slice none 0 0) := by rw [(bcell hb2).1 _ _ (hlt _ (by omega))]; simp [go_sem, o12]
  replace r2 : ∀ j, w2.frozen? ⟨w.heap.size + 1, j, none⟩ = false := by intro j; rw [(bcell hb2).2 _ _ (hlt _ (by omega))]; simp [go_sem, r2]
  replace o2 : ∀ j, w2.frozen? ⟨w.heap.size + 1 + 1, j, none⟩ = false := by intro j; rw [(bcell hb2).2 _ _ (hlt _ (by omega))]; simp [go_sem, o2]
  have s2 := hb2.size
  simp at s2
  have HB2 : Hid (Below w.heap.size w w2) := (HB1.out.setCell (p := ⟨w.heap.size + 1 + 1, 0, none⟩) (by simp <;> omega) _).trans (hb2.mono (by simp; have := S1.out; omega))
  have HR1b : Hid (RowIn .u32 w2 (w.heap.size + 3) w1.heap.size b1 z1) := (HR1.out.apart (within_set _ _ _) (.inr (by simp))).later hb2
  have HR2 : Hid (RowIn .u32 w2 w1.heap.size w2.heap.size b2 z2) := by
    have := hr2.rowIn
    unfold Hid
    simpa using this
  have S2 : Hid (w1.heap.size ≤ w2.heap.size) := s2
  clear hb2 hr2 HB1 HR1 hlt s2 p1
  go_wp2_with fail
  refine (toPointS_any a3 n3 c3 z3 _ (by have := HN.out; omega) HSC.out.l3 (HSC.out.r3.later (HB2.out.setCell (by simp <;> omega) _))).mono ?_
  rintro e w3 ⟨b3, rfl, hr3, hb3⟩
  have hlt : ∀ b, b < w.heap.size + 3 → b < (w2.setCell ⟨w.heap.size + 1 + 1, 1, none⟩ (.slice b2 n2 n2)).heap.size := by intro b hb; have := S1.out; have := S2.out; simp; omega
  replace r10 : w3.cell? ⟨w.heap.size + 1, 0, none⟩ = some (.slice none 0 0) := by rw [(bcell hb3).1 _ _ (hlt _ (by omega))]; simp [go_sem, r10]
  replace r11 : w3.cell? ⟨w.heap.size + 1, 1, none⟩ = some (.slice none 0 0) := by rw [(bcell hb3).1 _ _ (hlt _ (by omega))]; simp [go_sem, r11]
  replace r12 : w3.cell? ⟨w.heap.size + 1, 2, none⟩ = some (.slice none 0 0) := by rw [(bcell hb3).1 _ _ (hlt _ (by omega))]; simp [go_sem, r12]
  replace o10 : w3.cell? ⟨w.heap.size + 1 + 1, 0, none⟩ = some (.slice b1 n1 n1) := by rw [(bcell hb3).1 _ _ (hlt _ (by omega))]; simp [go_sem, o10]
  replace o11 : w3.cell? ⟨w.heap.size + 1 + 1, 1, none⟩ = some (.slice b2 n2 n2) := by rw [(bcell hb3).1 _ _ (hlt _ (by omega))]; simp [go_sem, o11]
  replace o12 : w3.cell? ⟨w.heap.size + 1 + 1, 2, none⟩ = some (.slice none 0 0) := by rw [(bcell hb3).1 _ _ (hlt _ (by omega))]; simp [go_sem, o12]
  replace r2 : ∀ j, w3.frozen? ⟨w.heap.size + 1, j, none⟩ = false := by intro j; rw [(bcell hb3).2 _ _ (hlt _ (by omega))]; simp [go_sem, r2]
  replace o2 : ∀ j, w3.frozen? ⟨w.heap.size + 1 + 1, j, none⟩ = false := by intro j; rw [(bcell hb3).2 _ _ (hlt _ (by omega))]; simp [go_sem, o2]
  have s3 := hb3.size
  simp at s3
  have HB3 : Hid (Below w.heap.size w w3) := (HB2.out.setCell (p := ⟨w.heap.size + 1 + 1, 1, none⟩) (by simp <;> omega) _).trans (hb3.mono (by simp; have := S1.out; have := S2.out; omega))
  have HI : Hid (ScIn w3 (w.heap.size + 3) w3.heap.size b1 b2 b3 n1 n2 n3 z1 z2 z3 w1.heap.size w2.heap.size) := by
    refine ⟨HSC.out.l1, HSC.out.l2, HSC.out.l3, S1.out, S2.out, s3, Nat.le_refl _, ?_, ?_, ?_⟩
    · exact (HR1b.out.apart (within_set _ _ _) (.inr (by simp))).later hb3
    · exact (HR2.out.apart (within_set _ _ _) (.inr (by have := S1.out; simp; omega))).later hb3
    · have := hr3.rowIn
      simpa using this
  have S3 : Hid (w2.heap.size ≤ w3.heap.size) := s3
  clear hb3 hr3 HB2 HR1b HR2 hlt s3 p2
  go_wp2
  refine bodyPost_ret (v := .agg #[.slice b1 n1 n1, .slice b2 n2 n2, .slice b3 n3 n3]) (by simp [results, Try.results23, go_sem, r10, r11, r12]) rfl ?_
  refine ⟨b1, b2, b3, w1.heap.size, w2.heap.size, rfl, ?_, ?_⟩
  · have hh := ((((HI.out.apart (within_set w3 ⟨w.heap.size + 1 + 1, 2, none⟩ (.slice b3 n3 n3)) (.inr (by simp))).apart (within_set _ ⟨w.heap.size + 1, 0, none⟩ (.slice b1 n1 n1)) (.inr (by simp))).apart (within_set _ ⟨w.heap.size + 1, 1, none⟩ (.slice b2 n2 n2)) (.inr (by simp))).apart (within_set _ ⟨w.heap.size + 1, 2, none⟩ (.slice b3 n3 n3)) (.inr (by simp)))
    refine ⟨hh.l1, hh.l2, hh.l3, by have := S1.out; omega, hh.m12, by simpa using S3.out, by simp, ?_, hh.r2, by simpa using hh.r3⟩
    rcases hh.r1 with h | ⟨b, off, q1, q2, q3⟩
    · exact .inl h
    · exact .inr ⟨b, off, q1, by omega, q3⟩
  · exact (((HB3.out.setCell (by simp <;> omega) _).setCell (by simp <;> omega) _).setCell (by simp <;> omega) _).setCell (by simp <;> omega) _

set_option maxRecDepth 100000 in
set_option maxHeartbeats 4000000 in
theorem eqScene_same (a1 a2 a3 b1 b2 b3 : Option Addr) (n1 n2 n3 c1 c2 c3 d1 d2 d3 : Nat) (z1 z2 z3 : List Int) (w : World) (hn : n1 + n2 + n3 ≤ 1048576) (hs : ScAt w a1 a2 a3 n1 n2 n3 z1 z2 z3) (hs1 : ScAt w b1 b2 b3 n1 n2 n3 z1 z2 z3) :
    Calls Try.prog 25 #[.agg #[.slice a1 n1 c1, .slice a2 n2 c2, .slice a3 n3 c3], .agg #[.slice b1 n1 d1, .slice b2 n2 d2, .slice b3 n3 d3]] w fun e w' => e = .returned (.bool true) ∧ Below w.heap.size w w' := by
  have HSC : Hid (ScAt w a1 a2 a3 n1 n2 n3 z1 z2 z3) := hs
  have HSD : Hid (ScAt w b1 b2 b3 n1 n2 n3 z1 z2 z3) := hs1
  have HN : Hid (n1 + n2 + n3 ≤ 1048576) := hn
  clear hs hs1 hn
  go_enter Try.func25, Try.ntmps25
  go_wp2_with fail
  refine (eqTriS_same a1 b1 n1 c1 d1 z1 _ (by have := HN.out; omega) HSC.out.l1 (HSC.out.r1.later (bel2 _ _ _)) (HSD.out.r1.later (bel2 _ _ _))).mono ?_
  rintro e w1 ⟨rfl, hb1⟩
  have p1 : w1.cell? ⟨w.heap.size, 1, none⟩ = some (.slice a2 n2 c2) := by rw [(bcell hb1).1 _ _ (by simp <;> omega)]; simp [go_sem]
  have p2 : w1.cell? ⟨w.heap.size, 2, none⟩ = some (.slice a3 n3 c3) := by rw [(bcell hb1).1 _ _ (by simp <;> omega)]; simp [go_sem]
  have q1 : w1.cell? ⟨w.heap.size + 1, 1, none⟩ = some (.slice b2 n2 d2) := by rw [(bcell hb1).1 _ _ (by simp)]; simp [go_sem]
  have q2 : w1.cell? ⟨w.heap.size + 1, 2, none⟩ = some (.slice b3 n3 d3) := by rw [(bcell hb1).1 _ _ (by simp)]; simp [go_sem]
  have HB1 : Hid (Below w.heap.size w w1) := (bel2 _ _ _).trans (hb1.mono (by simp <;> omega))
  have hs1 := hb1.size
  simp at hs1
  have S1 : Hid (w.heap.size + 1 < w1.heap.size) := by unfold Hid; omega
  clear hb1 hs1
  go_wp2_with fail
  refine (eqRayS_same a2 b2 n2 c2 d2 z2 _ (by have := HN.out; omega) HSC.out.l2 (HSC.out.r2.later HB1.out) (HSD.out.r2.later HB1.out)).mono ?_
  rintro e w2 ⟨rfl, hb2⟩
  replace p2 := ((bcell hb2).1 _ _ (by have := S1.out; omega)).trans p2
  replace q2 := ((bcell hb2).1 _ _ S1.out).trans q2
  have HB2 : Hid (Below w.heap.size w w2) := HB1.out.trans (hb2.mono HB1.out.size)
  clear hb2 HB1
  go_wp2_with fail
  refine (eqPointS_same a3 b3 n3 c3 d3 z3 _ (by have := HN.out; omega) HSC.out.l3 (HSC.out.r3.later HB2.out) (HSD.out.r3.later HB2.out)).mono ?_
  rintro e w3 ⟨rfl, hb3⟩
  have HB3 : Hid (Below w.heap.size w w3) := HB2.out.trans (hb3.mono HB2.out.size)
  clear hb3 HB2
  go_wp2
  go_ret
  exact ⟨rfl, HB3.out⟩

end Go.Proofs.Ytcjdnomhnlbmbaa

/-
  Plain mathematics: digits shifted up and down.
-/
namespace Go.Proofs.Ytcjdnomhnlbmbaa

theorem two_pow_le {a b : Nat} (h : a ≤ b) : (2 : Int) ^ a ≤ 2 ^ b := by
  obtain ⟨d, rfl⟩ := Nat.le.dest h
  have h1 : (0 : Int) < 2 ^ a := Int.pow_pos (by decide)
  have h2 : (0 : Int) < 2 ^ d := Int.pow_pos (by decide)
  have h3 : (2 : Int) ^ a * 1 ≤ 2 ^ a * 2 ^ d := Int.mul_le_mul_of_nonneg_left (by omega) (by omega)
  rw [Int.pow_add]
  omega

/-- Something is left over. -/
def lostB (m q : Int) : Bool := decide (m % q ≠ 0)

/-! ### Up -/
def timesL (q : Int) (zs : List Int) : List Int := zs.map (· * q)

theorem val_timesL (B q : Int) : ∀ zs : List Int, val B (timesL q zs) = val B zs * q
  | [] => by simp [timesL, val]
  | z :: zs => by
    have ih := val_timesL B q zs
    simp only [timesL, List.map_cons, val] at ih ⊢
    rw [ih, Int.add_mul, Int.mul_assoc]

theorem timesL_length (q : Int) (zs : List Int) : (timesL q zs).length = zs.length := by simp [timesL]

theorem timesL_drop {q : Int} {zs : List Int} {k : Nat} (h : k < zs.length) : timesL q (zs.drop k) = zs.getD k 0 * q :: timesL q (zs.drop (k + 1)) := by
  rw [List.drop_eq_getElem_cons h, List.getD_eq_getElem?_getD, List.getElem?_eq_getElem h]
  rfl

theorem val_zeros (B : Int) : ∀ n : Nat, val B (List.replicate n 0) = 0
  | 0 => rfl
  | n + 1 => by rw [List.replicate_succ]; simp [val, val_zeros B n]

theorem val_up (B : Int) (n : Nat) (zs : List Int) : val B (List.replicate n 0 ++ zs) = B ^ n * val B zs := by
  rw [val_append, val_zeros, List.length_replicate]
  omega

theorem Dig.zeros {B : Int} (hB : 0 < B) (n : Nat) : Dig B (List.replicate n 0) := by
  intro z hz
  have := List.eq_of_mem_replicate hz
  subst this
  exact ⟨Int.le_refl 0, hB⟩

theorem canon_up {B : Int} (hB : 0 < B) {zs : List Int} (h : Canon B zs) (hne : zs ≠ []) (n : Nat) : Canon B (List.replicate n 0 ++ zs) := by
  have hl : zs.length ≠ 0 := fun e => hne (List.length_eq_zero_iff.1 e)
  refine canon_last (Dig.append (Dig.zeros hB n) h.1) (by rw [List.length_append]; omega) ?_
  have := last_of_canon h.2 hl
  rw [List.getD_eq_getElem?_getD] at this ⊢
  rw [List.length_append, List.length_replicate, List.getElem?_append_right (by rw [List.length_replicate]; omega), List.length_replicate, show n + zs.length - 1 - n = zs.length - 1 by omega]
  exact this

/-- The carry of digits times q stays below q. -/
theorem times_carry {B q x c : Int} (hB : 0 < B) (hq : 0 < q) (hx0 : 0 ≤ x) (hx1 : x < B) (hc0 : 0 ≤ c) (hc1 : c < q) : 0 ≤ (x * q + c) / B ∧ (x * q + c) / B < q := by
  have h0 := Int.mul_nonneg hx0 (Int.le_of_lt hq)
  refine ⟨Int.ediv_nonneg (by omega) (by omega), Int.ediv_lt_of_lt_mul hB ?_⟩
  have h1 : (x + 1) * q ≤ B * q := Int.mul_le_mul_of_nonneg_right (by omega) (by omega)
  rw [Int.add_mul, Int.one_mul, Int.mul_comm B q] at h1
  omega

theorem dig_times {B q : Int} (hB : 0 < B) (hq : 0 < q) (hqB : q ≤ B) : ∀ (zs : List Int) (c : Int), Dig B zs → 0 ≤ c → c < q → Dig B (carryL B (timesL q zs) c)
  | [], c, _, h0, h1 => by
    simp only [timesL, List.map_nil, carryL]
    split
    · exact Dig.nil B
    · exact Dig.cons h0 (by omega) (Dig.nil B)
  | z :: zs, c, h, h0, h1 => by
    simp only [timesL, List.map_cons, carryL]
    have h2 := times_carry hB hq h.head.1 h.head.2 h0 h1
    exact Dig.cons (Int.emod_nonneg _ (by omega)) (Int.emod_lt_of_pos _ hB) (dig_times hB hq hqB zs _ h.tail h2.1 h2.2)

/-! ### Down -/
def downL (B q : Int) : List Int → List Int
  | [] => []
  | z :: zs => (z + B * zs.headD 0) / q % B :: downL B q zs

theorem down_length (B q : Int) : ∀ zs : List Int, (downL B q zs).length = zs.length
  | [] => rfl
  | z :: zs => by simp only [downL, List.length_cons, down_length B q zs]

theorem dig_down {B : Int} (hB : 0 < B) (q : Int) : ∀ zs : List Int, Dig B (downL B q zs)
  | [] => Dig.nil B
  | z :: zs => Dig.cons (Int.emod_nonneg _ (by omega)) (Int.emod_lt_of_pos _ hB) (dig_down hB q zs)

theorem headD_drop (zs : List Int) (k : Nat) : (zs.drop k).headD 0 = zs.getD k 0 := by
  rw [List.headD_eq_head?_getD, List.head?_drop, List.getD_eq_getElem?_getD]

theorem down_drop {B q : Int} {zs : List Int} {k : Nat} (h : k < zs.length) : downL B q (zs.drop k) = (zs.getD k 0 + B * zs.getD (k + 1) 0) / q % B :: downL B q (zs.drop (k + 1)) := by
  rw [List.drop_eq_getElem_cons h]
  simp only [downL]
  rw [headD_drop]
  simp [List.getD_eq_getElem?_getD, h]

theorem val_head (B : Int) (zs : List Int) : val B zs = zs.headD 0 + B * val B zs.tail := by
  cases zs <;> simp [val]

/-- One digit. -/
theorem down_digit {B q r z y : Int} (hBq : B = q * r) (hq : 0 < q) (hr : 0 < r) (hz0 : 0 ≤ z) (hz1 : z < B) : (z + B * y) / q % B = z / q + r * (y % q) := by
  have e1 : (z + B * y) / q = z / q + r * y := by
    rw [hBq, Int.mul_assoc]
    rw [Int.add_mul_ediv_left _ _ (by omega)]
  have e2 : r * y = B * (y / q) + r * (y % q) := by
    have h := Int.mul_add r (q * (y / q)) (y % q)
    rw [Int.mul_ediv_add_emod y q, ← Int.mul_assoc, Int.mul_comm r q, ← hBq] at h
    exact h
  have hd0 : 0 ≤ z / q := Int.ediv_nonneg hz0 (by omega)
  have hd1 : z / q < r := Int.ediv_lt_of_lt_mul hq (by rw [Int.mul_comm r q, ← hBq]; exact hz1)
  have hm0 := Int.emod_nonneg y (show q ≠ 0 by omega)
  have hm1 := Int.emod_lt_of_pos y hq
  have h3 : r * (y % q) ≤ r * (q - 1) := Int.mul_le_mul_of_nonneg_left (by omega) (by omega)
  have h4 : 0 ≤ r * (y % q) := Int.mul_nonneg (by omega) hm0
  rw [Int.mul_sub, Int.mul_one, Int.mul_comm r q, ← hBq] at h3
  rw [e1, e2, show z / q + (B * (y / q) + r * (y % q)) = (z / q + r * (y % q)) + B * (y / q) by omega, Int.add_mul_emod_self_left]
  exact Int.emod_eq_of_lt (by omega) (by omega)

theorem val_down {B q r : Int} (hBq : B = q * r) (hq : 0 < q) (hr : 0 < r) : ∀ {zs : List Int}, Dig B zs → val B (downL B q zs) = val B zs / q
  | [], _ => by simp [downL, val]
  | z :: zs, h => by
    have ih := val_down hBq hq hr h.tail
    simp only [downL, val]
    rw [ih, down_digit hBq hq hr h.head.1 h.head.2]
    have hv := val_head B zs
    have hBr : B * val B zs.tail = q * (r * val B zs.tail) := by rw [hBq, Int.mul_assoc]
    have e1 : val B zs / q = zs.headD 0 / q + r * val B zs.tail := by
      rw [hv, hBr, Int.add_mul_ediv_left _ _ (by omega)]
    have e2 : (z + B * val B zs) / q = z / q + r * val B zs := by
      rw [hBq, Int.mul_assoc, Int.add_mul_ediv_left _ _ (by omega)]
    have e3 : val B zs % q = zs.headD 0 % q := by
      rw [hv, hBr, Int.add_mul_emod_self_left]
    have e4 := Int.mul_ediv_add_emod (val B zs) q
    rw [e2, ← e3]
    have e5 : r * val B zs = B * (val B zs / q) + r * (val B zs % q) := by
      have h := Int.mul_add r (q * (val B zs / q)) (val B zs % q)
      rw [e4, ← Int.mul_assoc, Int.mul_comm r q, ← hBq] at h
      exact h
    omega

theorem val_parts (B : Int) (zs : List Int) (s : Nat) (hs : s ≤ zs.length) : val B zs = val B (zs.take s) + B ^ s * val B (zs.drop s) := by
  have h := val_append B (zs.drop s) (zs.take s)
  rw [List.take_append_drop, List.length_take, show min s zs.length = s by omega] at h
  exact h

theorem pow_pos' {B : Int} (hB : 0 < B) (s : Nat) : 0 < B ^ s := Int.pow_pos hB

/-- Cut at a whole digit and within the next one. -/
theorem val_cut {B q r : Int} (hBq : B = q * r) (hq : 0 < q) (hr : 0 < r) (hB : 0 < B) {zs : List Int} (h : Dig B zs) {s : Nat} (hs : s ≤ zs.length) : val B (downL B q (zs.drop s)) = val B zs / (B ^ s * q) := by
  rw [val_down hBq hq hr (h.drop s)]
  have hp := pow_pos' hB s
  rw [← Int.ediv_ediv_of_nonneg (by omega)]
  congr 1
  rw [val_parts B zs s hs, Int.add_mul_ediv_left _ _ (by omega)]
  have h0 := val_nonneg hB (h.take s)
  have h1 := val_lt_pow hB (h.take s)
  rw [List.length_take, show min s zs.length = s by omega] at h1
  rw [Int.ediv_eq_zero_of_lt h0 h1]
  omega

/-- Nothing is cut off: no digit below, and nothing of the next one. -/
theorem cut_exact {B q : Int} (hq : 0 < q) (hqB : ∃ r, B = q * r) (hB : 0 < B) {zs : List Int} (h : Dig B zs) {s : Nat} (hs : s ≤ zs.length) : val B zs % (B ^ s * q) = 0 ↔ val B (zs.take s) = 0 ∧ zs.getD s 0 % q = 0 := by
  have hp := pow_pos' hB s
  have h0 := val_nonneg hB (h.take s)
  have h1 := val_lt_pow hB (h.take s)
  rw [List.length_take, show min s zs.length = s by omega] at h1
  have hsp := val_parts B zs s hs
  have hd : val B (zs.drop s) % q = zs.getD s 0 % q := by
    obtain ⟨r, hr⟩ := hqB
    rw [val_head B (zs.drop s), headD_drop, show B * val B (zs.drop s).tail = q * (r * val B (zs.drop s).tail) by rw [hr, Int.mul_assoc], Int.add_mul_emod_self_left]
  rw [← hd]
  have hm0 := Int.emod_nonneg (val B (zs.drop s)) (show q ≠ 0 by omega)
  have hm1 := Int.emod_lt_of_pos (val B (zs.drop s)) hq
  have hde := Int.mul_ediv_add_emod (val B (zs.drop s)) q
  have e : val B zs = (val B (zs.take s) + B ^ s * (val B (zs.drop s) % q)) + B ^ s * q * (val B (zs.drop s) / q) := by
    rw [hsp, Int.mul_assoc, Int.add_assoc, ← Int.mul_add]
    congr 2
    omega
  have hlt : val B (zs.take s) + B ^ s * (val B (zs.drop s) % q) < B ^ s * q := by
    have : B ^ s * (val B (zs.drop s) % q) ≤ B ^ s * (q - 1) := Int.mul_le_mul_of_nonneg_left (by omega) (by omega)
    rw [Int.mul_sub, Int.mul_one] at this
    omega
  have hge : 0 ≤ B ^ s * (val B (zs.drop s) % q) := Int.mul_nonneg (by omega) hm0
  rw [e, Int.add_mul_emod_self_left, Int.emod_eq_of_lt (by omega) hlt]
  constructor
  · intro h2
    refine ⟨by omega, ?_⟩
    have h3 : B ^ s * (val B (zs.drop s) % q) = 0 := by omega
    rcases Int.mul_eq_zero.1 h3 with h4 | h4
    · omega
    · exact h4
  · rintro ⟨h2, h3⟩
    rw [h2, h3]
    simp

/-- Is any digit not 0? -/
def anyN (zs : List Int) : Bool := zs.any (· != 0)

theorem anyN_snoc (zs : List Int) (z : Int) : anyN (zs ++ [z]) = (anyN zs || (z != 0)) := by simp [anyN]

theorem anyN_take {zs : List Int} {k : Nat} (h : k < zs.length) : anyN (zs.take (k + 1)) = (anyN (zs.take k) || (zs.getD k 0 != 0)) := by
  rw [List.take_succ_eq_append_getElem h, anyN_snoc]
  simp [List.getD_eq_getElem?_getD, h]

theorem anyN_val {B : Int} (hB : 0 < B) : ∀ {zs : List Int}, Dig B zs → (anyN zs = true ↔ val B zs ≠ 0)
  | [], _ => by simp [anyN, val]
  | z :: zs, h => by
    have ih := anyN_val hB h.tail
    have h1 := val_nonneg hB h.tail
    have h2 := h.head
    have h3 := Int.mul_nonneg (Int.le_of_lt hB) h1
    have e : anyN (z :: zs) = ((z != 0) || anyN zs) := by simp [anyN]
    rw [e]
    simp only [Bool.or_eq_true, bne_iff_ne, ne_eq, val, ih]
    constructor
    · rintro (h4 | h4) h5
      · omega
      · have h6 : 0 < val B zs := by omega
        have h7 := Int.mul_pos hB h6
        omega
    · intro h4
      by_cases h5 : z = 0
      · right
        intro h6
        apply h4
        rw [h5, h6]
        simp
      · exact .inl h5

theorem trim_anyN : ∀ zs : List Int, trimL zs = [] ↔ anyN zs = false
  | [] => by simp [trimL, anyN]
  | z :: zs => by
    have ih := trim_anyN zs
    have e : anyN (z :: zs) = ((z != 0) || anyN zs) := by simp [anyN]
    rw [e]
    simp only [trimL]
    by_cases h : trimL zs = [] ∧ z = 0
    · rw [if_pos h]
      simp [h.2, ih.1 h.1]
    · rw [if_neg h]
      constructor
      · intro h'; cases h'
      · intro h'
        simp only [Bool.or_eq_false_iff, bne_eq_false_iff_eq] at h'
        exact absurd ⟨ih.2 h'.2, h'.1⟩ h

end Go.Proofs.Ytcjdnomhnlbmbaa
