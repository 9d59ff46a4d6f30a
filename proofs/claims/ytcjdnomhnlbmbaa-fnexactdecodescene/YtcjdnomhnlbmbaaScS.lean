/-
  Scenes as the laws measure, copy and compare them.
-/
import Derived.Test.YtcjdnomhnlbmbaaSdT
import Derived.Test.YtcjdnomhnlbmbaaSdR
import Derived.Test.YtcjdnomhnlbmbaaScPSdP
namespace Go.Proofs.Ytcjdnomhnlbmbaa
open Go.RowKit

/-- The three lists of a scene read as these numbers: 9 for each triangle, 6 for each ray, 3 for each light. -/
structure ScAt (w : World) (a1 a2 a3 : Option Addr) (n1 n2 n3 : Nat) (z1 z2 z3 : List Int) : Prop where
  l1 : z1.length = n1 * 9
  l2 : z2.length = n2 * 6
  l3 : z3.length = n3 * 3
  r1 : RowAt .u32 w a1 z1
  r2 : RowAt .u32 w a2 z2
  r3 : RowAt .u32 w a3 z3

theorem ScAt.later {w w' : World} {a1 a2 a3 : Option Addr} {n1 n2 n3 : Nat} {z1 z2 z3 : List Int} (h : ScAt w a1 a2 a3 n1 n2 n3 z1 z2 z3) (hb : Below w.heap.size w w') : ScAt w' a1 a2 a3 n1 n2 n3 z1 z2 z3 :=
  ⟨h.l1, h.l2, h.l3, h.r1.later hb, h.r2.later hb, h.r3.later hb⟩

/-- .. and lie, one behind the other, in memory from block lo to below hi, which may be written. -/
structure ScIn (w : World) (lo hi : Nat) (a1 a2 a3 : Option Addr) (n1 n2 n3 : Nat) (z1 z2 z3 : List Int) (m1 m2 : Nat) : Prop where
  l1 : z1.length = n1 * 9
  l2 : z2.length = n2 * 6
  l3 : z3.length = n3 * 3
  lo1 : lo ≤ m1
  m12 : m1 ≤ m2
  hi2 : m2 ≤ hi
  top : hi ≤ w.heap.size
  r1 : RowIn .u32 w lo m1 a1 z1
  r2 : RowIn .u32 w m1 m2 a2 z2
  r3 : RowIn .u32 w m2 hi a3 z3

theorem ScIn.at {w : World} {lo hi : Nat} {a1 a2 a3 : Option Addr} {n1 n2 n3 : Nat} {z1 z2 z3 : List Int} {m1 m2 : Nat} (h : ScIn w lo hi a1 a2 a3 n1 n2 n3 z1 z2 z3 m1 m2) : ScAt w a1 a2 a3 n1 n2 n3 z1 z2 z3 :=
  ⟨h.l1, h.l2, h.l3, h.r1.row, h.r2.row, h.r3.row⟩

theorem ScIn.later {w w' : World} {lo hi : Nat} {a1 a2 a3 : Option Addr} {n1 n2 n3 : Nat} {z1 z2 z3 : List Int} {m1 m2 : Nat} (h : ScIn w lo hi a1 a2 a3 n1 n2 n3 z1 z2 z3 m1 m2) (hb : Below w.heap.size w w') : ScIn w' lo hi a1 a2 a3 n1 n2 n3 z1 z2 z3 m1 m2 :=
  ⟨h.l1, h.l2, h.l3, h.lo1, h.m12, h.hi2, Nat.le_trans h.top hb.size, h.r1.later hb, h.r2.later hb, h.r3.later hb⟩

theorem ScIn.apart {w w' : World} {lo hi lo' hi' : Nat} {a1 a2 a3 : Option Addr} {n1 n2 n3 : Nat} {z1 z2 z3 : List Int} {m1 m2 : Nat} (h : ScIn w lo hi a1 a2 a3 n1 n2 n3 z1 z2 z3 m1 m2) (hw : Within lo' hi' w w') (hd : hi ≤ lo' ∨ hi' ≤ lo) : ScIn w' lo hi a1 a2 a3 n1 n2 n3 z1 z2 z3 m1 m2 :=
  have h1 := h.lo1
  have h2 := h.m12
  have h3 := h.hi2
  ⟨h.l1, h.l2, h.l3, h1, h2, h3, by rw [hw.size]; exact h.top, h.r1.apart hw (by omega), h.r2.apart hw (by omega), h.r3.apart hw (by omega)⟩

theorem within_set (w : World) (p : Addr) (v : Value) : Within p.block (p.block + 1) w (w.setCell p v) := (Within.refl _ _ _).setCell (Nat.le_refl _) (Nat.lt_succ_self _) _

/-- What szScene answers: below 0, or the lists are small. -/
def SzSc (w : World) (n1 n2 n3 : Nat) (e : Ending) (w' : World) : Prop := ∃ r : Int, e = .returned (.int .i64 r) ∧ (r < 0 ∨ (0 ≤ r ∧ n1 + n2 + n3 ≤ 1048576)) ∧ Below w.heap.size w w'

set_option maxRecDepth 100000 in
set_option maxHeartbeats 2000000 in
theorem szScene_any (a1 a2 a3 : Option Addr) (n1 n2 n3 c1 c2 c3 : Nat) (w : World) (h1 : n1 ≤ maxLen) (h2 : n2 ≤ maxLen) (h3 : n3 ≤ maxLen) :
    Calls Try.prog 21 #[.agg #[.slice a1 n1 c1, .slice a2 n2 c2, .slice a3 n3 c3], .int .i64 1048576] w fun e w' => SzSc w n1 n2 n3 e w' := by
  unfold maxLen at h1 h2 h3
  by_cases q1 : (1048576 : Int) - n1 < 0
  · go_enter Try.func21, Try.ntmps21
    go_wp2
    go_ret
    exact ⟨-1, rfl, .inl (by decide), bel0 _ _⟩
  · by_cases q2 : (1048576 : Int) - n1 - n2 < 0
    · go_enter Try.func21, Try.ntmps21
      go_wp2
      go_ret
      exact ⟨-1, rfl, .inl (by decide), bel0 _ _⟩
    · by_cases q3 : (1048576 : Int) - n1 - n2 - n3 < 0
      · go_enter Try.func21, Try.ntmps21
        go_wp2
        go_ret
        exact ⟨-1, rfl, .inl (by decide), bel0 _ _⟩
      · go_enter Try.func21, Try.ntmps21
        go_wp2
        go_ret
        exact ⟨1048576 - n1 - n2 - n3, rfl, .inr ⟨by omega, by omega⟩, bel0 _ _⟩

/-- What toScene answers: the same scene in new memory. -/
def ToSc (w : World) (n1 n2 n3 : Nat) (z1 z2 z3 : List Int) (e : Ending) (w' : World) : Prop :=
  ∃ b1 b2 b3 m1 m2, e = .returned (.agg #[.slice b1 n1 n1, .slice b2 n2 n2, .slice b3 n3 n3]) ∧ ScIn w' w.heap.size w'.heap.size b1 b2 b3 n1 n2 n3 z1 z2 z3 m1 m2 ∧ Below w.heap.size w w'

set_option maxRecDepth 100000 in
set_option maxHeartbeats 4000000 in
theorem toScene_any (a1 a2 a3 : Option Addr) (n1 n2 n3 c1 c2 c3 : Nat) (z1 z2 z3 : List Int) (w : World) (hn : n1 + n2 + n3 ≤ 1048576) (hs : ScAt w a1 a2 a3 n1 n2 n3 z1 z2 z3) :
    Calls Try.prog 23 #[.agg #[.slice a1 n1 c1, .slice a2 n2 c2, .slice a3 n3 c3]] w fun e w' => ToSc w n1 n2 n3 z1 z2 z3 e w' := by
  have HSC : Hid (ScAt w a1 a2 a3 n1 n2 n3 z1 z2 z3) := hs
  have HN : Hid (n1 + n2 + n3 ≤ 1048576) := hn
  clear hs hn
  go_enter Try.func23, Try.ntmps23
  go_wp2_with fail
  refine (toTriS_any a1 n1 c1 z1 _ (by have := HN.out; omega) HSC.out.l1 (HSC.out.r1.later (bel3 _ _ _ _))).mono ?_
  rintro e w1 ⟨b1, rfl, hr1, hb1⟩
  have s1 := hb1.size
  simp at s1
  have p1 : w1.cell? ⟨w.heap.size, 1, none⟩ = some (.slice a2 n2 c2) := by rw [(bcell hb1).1 _ _ (by simp <;> omega)]; simp [go_sem]
  have p2 : w1.cell? ⟨w.heap.size, 2, none⟩ = some (.slice a3 n3 c3) := by rw [(bcell hb1).1 _ _ (by simp <;> omega)]; simp [go_sem]
  have r1 : ∀ j, j < 3 → w1.cell? ⟨w.heap.size + 1, j, none⟩ = some (.slice none 0 0) := by intro j hj; rw [(bcell hb1).1 _ _ (by simp)]; simp [go_sem]; rcases j with _ | _ | _ | j <;> simp_all <;> omega
  have r2 : ∀ j, w1.frozen? ⟨w.heap.size + 1, j, none⟩ = false := by intro j; rw [(bcell hb1).2 _ _ (by simp)]; simp [go_sem]
  have o1 : ∀ j, j < 3 → w1.cell? ⟨w.heap.size + 1 + 1, j, none⟩ = some (.slice none 0 0) := by intro j hj; rw [(bcell hb1).1 _ _ (by simp)]; simp [go_sem]; rcases j with _ | _ | _ | j <;> simp_all <;> omega
  have o2 : ∀ j, w1.frozen? ⟨w.heap.size + 1 + 1, j, none⟩ = false := by intro j; rw [(bcell hb1).2 _ _ (by simp)]; simp [go_sem]
  have r10 := r1 0 (by omega)
  have r11 := r1 1 (by omega)
  have r12 := r1 2 (by omega)
  have o10 := o1 0 (by omega)
  have o11 := o1 1 (by omega)
  have o12 := o1 2 (by omega)
  have HB1 : Hid (Below w.heap.size w w1) := (bel3 _ _ _ _).trans (hb1.mono (by simp <;> omega))
  have HR1 : Hid (RowIn .u32 w1 (w.heap.size + 3) w1.heap.size b1 z1) := by
    have := hr1.rowIn
    unfold Hid
    simpa using this
  have S1 : Hid (w.heap.size + 3 ≤ w1.heap.size) := by unfold Hid; omega
  clear hb1 hr1 r1 o1 s1
  go_wp2_with fail
  refine (toRayS_any a2 n2 c2 z2 _ (by have := HN.out; omega) HSC.out.l2 (HSC.out.r2.later (HB1.out.setCell (by simp <;> omega) _))).mono ?_
  rintro e w2 ⟨b2, rfl, hr2, hb2⟩
  have hlt : ∀ b, b < w.heap.size + 3 → b < (w1.setCell ⟨w.heap.size + 1 + 1, 0, none⟩ (.slice b1 n1 n1)).heap.size := by intro b hb; have := S1.out; simp; omega
  replace p2 : w2.cell? ⟨w.heap.size, 2, none⟩ = some (.slice a3 n3 c3) := by rw [(bcell hb2).1 _ _ (hlt _ (by omega))]; simp [go_sem, p2]
  replace r10 : w2.cell? ⟨w.heap.size + 1, 0, none⟩ = some (.slice none 0 0) := by rw [(bcell hb2).1 _ _ (hlt _ (by omega))]; simp [go_sem, r10]
  replace r11 : w2.cell? ⟨w.heap.size + 1, 1, none⟩ = some (.slice none 0 0) := by rw [(bcell hb2).1 _ _ (hlt _ (by omega))]; simp [go_sem, r11]
  replace r12 : w2.cell? ⟨w.heap.size + 1, 2, none⟩ = some (.slice none 0 0) := by rw [(bcell hb2).1 _ _ (hlt _ (by omega))]; simp [go_sem, r12]
  replace o10 : w2.cell? ⟨w.heap.size + 1 + 1, 0, none⟩ = some (.slice b1 n1 n1) := by rw [(bcell hb2).1 _ _ (hlt _ (by omega))]; simp [go_sem, o10]
  replace o11 : w2.cell? ⟨w.heap.size + 1 + 1, 1, none⟩ = some (.slice none 0 0) := by rw [(bcell hb2).1 _ _ (hlt _ (by omega))]; simp [go_sem, o11]
  replace o12 : w2.cell? ⟨w.heap.size + 1 + 1, 2, none⟩ = some (.slice none 0 0) := by rw [(bcell hb2).1 _ _ (hlt _ (by omega))]; simp [go_sem, o12]
  replace r2 : ∀ j, w2.frozen? ⟨w.heap.size + 1, j, none⟩ = false := by intro j; rw [(bcell hb2).2 _ _ (hlt _ (by omega))]; simp [go_sem, r2]
  replace o2 : ∀ j, w2.frozen? ⟨w.heap.size + 1 + 1, j, none⟩ = false := by intro j; rw [(bcell hb2).2 _ _ (hlt _ (by omega))]; simp [go_sem, o2]
  have s2 := hb2.size
  simp at s2
  have HB2 : Hid (Below w.heap.size w w2) := (HB1.out.setCell (p := ⟨w.heap.size + 1 + 1, 0, none⟩) (by simp <;> omega) _).trans (hb2.mono (by simp; have := S1.out; omega))
  have HR1b : Hid (RowIn .u32 w2 (w.heap.size + 3) w1.heap.size b1 z1) := (HR1.out.apart (within_set _ _ _) (.inr (by simp))).later hb2
  have HR2 : Hid (RowIn .u32 w2 w1.heap.size w2.heap.size b2 z2) := by
    have := hr2.rowIn
    unfold Hid
    simpa using this
  have S2 : Hid (w1.heap.size ≤ w2.heap.size) := s2
  clear hb2 hr2 HB1 HR1 hlt s2 p1
  go_wp2_with fail
  refine (toPointS_any a3 n3 c3 z3 _ (by have := HN.out; omega) HSC.out.l3 (HSC.out.r3.later (HB2.out.setCell (by simp <;> omega) _))).mono ?_
  rintro e w3 ⟨b3, rfl, hr3, hb3⟩
  have hlt : ∀ b, b < w.heap.size + 3 → b < (w2.setCell ⟨w.heap.size + 1 + 1, 1, none⟩ (.slice b2 n2 n2)).heap.size := by intro b hb; have := S1.out; have := S2.out; simp; omega
  replace r10 : w3.cell? ⟨w.heap.size + 1, 0, none⟩ = some (.slice none 0 0) := by rw [(bcell hb3).1 _ _ (hlt _ (by omega))]; simp [go_sem, r10]
  replace r11 : w3.cell? ⟨w.heap.size + 1, 1, none⟩ = some (.slice none 0 0) := by rw [(bcell hb3).1 _ _ (hlt _ (by omega))]; simp [go_sem, r11]
  replace r12 : w3.cell? ⟨w.heap.size + 1, 2, none⟩ = some (.slice none 0 0) := by rw [(bcell hb3).1 _ _ (hlt _ (by omega))]; simp [go_sem, r12]
  replace o10 : w3.cell? ⟨w.heap.size + 1 + 1, 0, none⟩ = some (.slice b1 n1 n1) := by rw [(bcell hb3).1 _ _ (hlt _ (by omega))]; simp [go_sem, o10]
  replace o11 : w3.cell? ⟨w.heap.size + 1 + 1, 1, none⟩ = some (.slice b2 n2 n2) := by rw [(bcell hb3).1 _ _ (hlt _ (by omega))]; simp [go_sem, o11]
  replace o12 : w3.cell? ⟨w.heap.size + 1 + 1, 2, none⟩ = some (.slice none 0 0) := by rw [(bcell hb3).1 _ _ (hlt _ (by omega))]; simp [go_sem, o12]
  replace r2 : ∀ j, w3.frozen? ⟨w.heap.size + 1, j, none⟩ = false := by intro j; rw [(bcell hb3).2 _ _ (hlt _ (by omega))]; simp [go_sem, r2]
  replace o2 : ∀ j, w3.frozen? ⟨w.heap.size + 1 + 1, j, none⟩ = false := by intro j; rw [(bcell hb3).2 _ _ (hlt _ (by omega))]; simp [go_sem, o2]
  have s3 := hb3.size
  simp at s3
  have HB3 : Hid (Below w.heap.size w w3) := (HB2.out.setCell (p := ⟨w.heap.size + 1 + 1, 1, none⟩) (by simp <;> omega) _).trans (hb3.mono (by simp; have := S1.out; have := S2.out; omega))
  have HI : Hid (ScIn w3 (w.heap.size + 3) w3.heap.size b1 b2 b3 n1 n2 n3 z1 z2 z3 w1.heap.size w2.heap.size) := by
    refine ⟨HSC.out.l1, HSC.out.l2, HSC.out.l3, S1.out, S2.out, s3, Nat.le_refl _, ?_, ?_, ?_⟩
    · exact (HR1b.out.apart (within_set _ _ _) (.inr (by simp))).later hb3
    · exact (HR2.out.apart (within_set _ _ _) (.inr (by have := S1.out; simp; omega))).later hb3
    · have := hr3.rowIn
      simpa using this
  have S3 : Hid (w2.heap.size ≤ w3.heap.size) := s3
  clear hb3 hr3 HB2 HR1b HR2 hlt s3 p2
  go_wp2
  refine bodyPost_ret (v := .agg #[.slice b1 n1 n1, .slice b2 n2 n2, .slice b3 n3 n3]) (by simp [results, Try.results23, go_sem, r10, r11, r12]) rfl ?_
  refine ⟨b1, b2, b3, w1.heap.size, w2.heap.size, rfl, ?_, ?_⟩
  · have hh := ((((HI.out.apart (within_set w3 ⟨w.heap.size + 1 + 1, 2, none⟩ (.slice b3 n3 n3)) (.inr (by simp))).apart (within_set _ ⟨w.heap.size + 1, 0, none⟩ (.slice b1 n1 n1)) (.inr (by simp))).apart (within_set _ ⟨w.heap.size + 1, 1, none⟩ (.slice b2 n2 n2)) (.inr (by simp))).apart (within_set _ ⟨w.heap.size + 1, 2, none⟩ (.slice b3 n3 n3)) (.inr (by simp)))
    refine ⟨hh.l1, hh.l2, hh.l3, by have := S1.out; omega, hh.m12, by simpa using S3.out, by simp, ?_, hh.r2, by simpa using hh.r3⟩
    rcases hh.r1 with h | ⟨b, off, q1, q2, q3⟩
    · exact .inl h
    · exact .inr ⟨b, off, q1, by omega, q3⟩
  · exact (((HB3.out.setCell (by simp <;> omega) _).setCell (by simp <;> omega) _).setCell (by simp <;> omega) _).setCell (by simp <;> omega) _

set_option maxRecDepth 100000 in
set_option maxHeartbeats 4000000 in
theorem eqScene_same (a1 a2 a3 b1 b2 b3 : Option Addr) (n1 n2 n3 c1 c2 c3 d1 d2 d3 : Nat) (z1 z2 z3 : List Int) (w : World) (hn : n1 + n2 + n3 ≤ 1048576) (hs : ScAt w a1 a2 a3 n1 n2 n3 z1 z2 z3) (hs1 : ScAt w b1 b2 b3 n1 n2 n3 z1 z2 z3) :
    Calls Try.prog 25 #[.agg #[.slice a1 n1 c1, .slice a2 n2 c2, .slice a3 n3 c3], .agg #[.slice b1 n1 d1, .slice b2 n2 d2, .slice b3 n3 d3]] w fun e w' => e = .returned (.bool true) ∧ Below w.heap.size w w' := by
  have HSC : Hid (ScAt w a1 a2 a3 n1 n2 n3 z1 z2 z3) := hs
  have HSD : Hid (ScAt w b1 b2 b3 n1 n2 n3 z1 z2 z3) := hs1
  have HN : Hid (n1 + n2 + n3 ≤ 1048576) := hn
  clear hs hs1 hn
  go_enter Try.func25, Try.ntmps25
  go_wp2_with fail
  refine (eqTriS_same a1 b1 n1 c1 d1 z1 _ (by have := HN.out; omega) HSC.out.l1 (HSC.out.r1.later (bel2 _ _ _)) (HSD.out.r1.later (bel2 _ _ _))).mono ?_
  rintro e w1 ⟨rfl, hb1⟩
  have p1 : w1.cell? ⟨w.heap.size, 1, none⟩ = some (.slice a2 n2 c2) := by rw [(bcell hb1).1 _ _ (by simp <;> omega)]; simp [go_sem]
  have p2 : w1.cell? ⟨w.heap.size, 2, none⟩ = some (.slice a3 n3 c3) := by rw [(bcell hb1).1 _ _ (by simp <;> omega)]; simp [go_sem]
  have q1 : w1.cell? ⟨w.heap.size + 1, 1, none⟩ = some (.slice b2 n2 d2) := by rw [(bcell hb1).1 _ _ (by simp)]; simp [go_sem]
  have q2 : w1.cell? ⟨w.heap.size + 1, 2, none⟩ = some (.slice b3 n3 d3) := by rw [(bcell hb1).1 _ _ (by simp)]; simp [go_sem]
  have HB1 : Hid (Below w.heap.size w w1) := (bel2 _ _ _).trans (hb1.mono (by simp <;> omega))
  have hs1 := hb1.size
  simp at hs1
  have S1 : Hid (w.heap.size + 1 < w1.heap.size) := by unfold Hid; omega
  clear hb1 hs1
  go_wp2_with fail
  refine (eqRayS_same a2 b2 n2 c2 d2 z2 _ (by have := HN.out; omega) HSC.out.l2 (HSC.out.r2.later HB1.out) (HSD.out.r2.later HB1.out)).mono ?_
  rintro e w2 ⟨rfl, hb2⟩
  replace p2 := ((bcell hb2).1 _ _ (by have := S1.out; omega)).trans p2
  replace q2 := ((bcell hb2).1 _ _ S1.out).trans q2
  have HB2 : Hid (Below w.heap.size w w2) := HB1.out.trans (hb2.mono HB1.out.size)
  clear hb2 HB1
  go_wp2_with fail
  refine (eqPointS_same a3 b3 n3 c3 d3 z3 _ (by have := HN.out; omega) HSC.out.l3 (HSC.out.r3.later HB2.out) (HSD.out.r3.later HB2.out)).mono ?_
  rintro e w3 ⟨rfl, hb3⟩
  have HB3 : Hid (Below w.heap.size w w3) := HB2.out.trans (hb3.mono HB2.out.size)
  clear hb3 HB2
  go_wp2
  go_ret
  exact ⟨rfl, HB3.out⟩

end Go.Proofs.Ytcjdnomhnlbmbaa
