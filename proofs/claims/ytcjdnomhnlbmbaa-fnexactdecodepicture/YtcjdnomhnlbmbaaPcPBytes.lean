/-
  Pictures as the laws measure, copy, compare and mark them.
-/
import Derived.Test.YtcjdnomhnlbmbaaLawVsScMPcAPcIPcB
import Derived.Test.YtcjdnomhnlbmbaaMarks
namespace Go.Proofs.Ytcjdnomhnlbmbaa
open Go.RowKit

def intF (g : Nat → Int) : Nat → Value := fun j => .int .i64 (g j)
def boolF (h : Nat → Bool) : Nat → Value := fun j => .bool (h j)

/-- The two lists of a picture. -/
structure PcAt (w : World) (a1 a3 : Option Addr) (n1 n3 : Nat) (g : Nat → Int) (h : Nat → Bool) : Prop where
  r1 : RowF w a1 n1 (intF g)
  r3 : RowF w a3 n3 (boolF h)
theorem PcAt.later {w w' : World} {a1 a3 : Option Addr} {n1 n3 : Nat} {g : Nat → Int} {h : Nat → Bool} (p : PcAt w a1 a3 n1 n3 g h) (hb : Below w.heap.size w w') : PcAt w' a1 a3 n1 n3 g h := ⟨p.r1.later hb, p.r3.later hb⟩

structure PcIn (w : World) (lo hi : Nat) (a1 a3 : Option Addr) (n1 n3 : Nat) (g : Nat → Int) (h : Nat → Bool) (m1 : Nat) : Prop where
  lo1 : lo ≤ m1
  hi1 : m1 ≤ hi
  top : hi ≤ w.heap.size
  r1 : RowFIn w lo m1 a1 n1 (intF g)
  r3 : RowFIn w m1 hi a3 n3 (boolF h)
theorem PcIn.at {w : World} {lo hi : Nat} {a1 a3 : Option Addr} {n1 n3 : Nat} {g : Nat → Int} {h : Nat → Bool} {m1 : Nat} (p : PcIn w lo hi a1 a3 n1 n3 g h m1) : PcAt w a1 a3 n1 n3 g h := ⟨p.r1.row, p.r3.row⟩
theorem PcIn.later {w w' : World} {lo hi : Nat} {a1 a3 : Option Addr} {n1 n3 : Nat} {g : Nat → Int} {h : Nat → Bool} {m1 : Nat} (p : PcIn w lo hi a1 a3 n1 n3 g h m1) (hb : Below w.heap.size w w') : PcIn w' lo hi a1 a3 n1 n3 g h m1 :=
  ⟨p.lo1, p.hi1, Nat.le_trans p.top hb.size, p.r1.later hb, p.r3.later hb⟩
theorem PcIn.apart {w w' : World} {lo hi lo' hi' : Nat} {a1 a3 : Option Addr} {n1 n3 : Nat} {g : Nat → Int} {h : Nat → Bool} {m1 : Nat} (p : PcIn w lo hi a1 a3 n1 n3 g h m1) (hw : Within lo' hi' w w') (hd : hi ≤ lo' ∨ hi' ≤ lo) : PcIn w' lo hi a1 a3 n1 n3 g h m1 :=
  have h1 := p.lo1
  have h2 := p.hi1
  ⟨h1, h2, by rw [hw.size]; exact p.top, p.r1.apart hw (by omega), p.r3.apart hw (by omega)⟩

/-- What szPicture answers. -/
def SzPc (w : World) (n1 n3 : Nat) (e : Ending) (w' : World) : Prop := ∃ r : Int, e = .returned (.int .i64 r) ∧ (r < 0 ∨ (0 ≤ r ∧ n1 + n3 ≤ 1048576)) ∧ Below w.heap.size w w'

set_option maxRecDepth 100000 in
set_option maxHeartbeats 2000000 in
theorem szPicture_any (a1 a3 : Option Addr) (n1 n3 c1 c3 : Nat) (L : Int) (w : World) (h1 : n1 ≤ maxLen) (h3 : n3 ≤ maxLen) :
    Calls Try.prog 16 #[.agg #[.slice a1 n1 c1, .int .i64 L, .slice a3 n3 c3], .int .i64 1048576] w fun e w' => SzPc w n1 n3 e w' := by
  unfold maxLen at h1 h3
  by_cases q1 : (1048576 : Int) - n1 < 0
  · go_enter Try.func16, Try.ntmps16
    go_wp2
    go_ret
    exact ⟨-1, rfl, .inl (by decide), bel0 _ _⟩
  · by_cases q3 : (1048576 : Int) - n1 - n3 < 0
    · go_enter Try.func16, Try.ntmps16
      go_wp2
      go_ret
      exact ⟨-1, rfl, .inl (by decide), bel0 _ _⟩
    · go_enter Try.func16, Try.ntmps16
      go_wp2
      go_ret
      exact ⟨1048576 - n1 - n3, rfl, .inr ⟨by omega, by omega⟩, bel0 _ _⟩

/-- What toPicture answers: the same picture in new memory. -/
def ToPc (w : World) (n1 n3 : Nat) (g : Nat → Int) (L : Int) (h : Nat → Bool) (e : Ending) (w' : World) : Prop :=
  ∃ b1 b3 m1, e = .returned (.agg #[.slice b1 n1 n1, .int .i64 L, .slice b3 n3 n3]) ∧ PcIn w' w.heap.size w'.heap.size b1 b3 n1 n3 g h m1 ∧ Below w.heap.size w w'

set_option maxRecDepth 100000 in
set_option maxHeartbeats 4000000 in
theorem toPicture_any (a1 a3 : Option Addr) (n1 n3 c1 c3 : Nat) (L : Int) (g : Nat → Int) (h : Nat → Bool) (w : World) (hn : n1 + n3 ≤ 1048576) (hs : PcAt w a1 a3 n1 n3 g h) :
    Calls Try.prog 18 #[.agg #[.slice a1 n1 c1, .int .i64 L, .slice a3 n3 c3]] w fun e w' => ToPc w n1 n3 g L h e w' := by
  have HSC : Hid (PcAt w a1 a3 n1 n3 g h) := hs
  have HN : Hid (n1 + n3 ≤ 1048576) := hn
  clear hs hn
  go_enter Try.func18, Try.ntmps18
  go_wp2_with fail
  refine (toIntS_any a1 n1 c1 g _ (by have := HN.out; omega) (HSC.out.r1.later (bel3 _ _ _ _))).mono ?_
  rintro e w1 ⟨b1, rfl, hr1, hb1⟩
  have s1 := hb1.size
  simp at s1
  have p1 : w1.cell? ⟨w.heap.size, 1, none⟩ = some (.int .i64 L) := by rw [(bcell hb1).1 _ _ (by simp <;> omega)]; simp [go_sem]
  have p2 : w1.cell? ⟨w.heap.size, 2, none⟩ = some (.slice a3 n3 c3) := by rw [(bcell hb1).1 _ _ (by simp <;> omega)]; simp [go_sem]
  have r10 : w1.cell? ⟨w.heap.size + 1, 0, none⟩ = some (.slice none 0 0) := by rw [(bcell hb1).1 _ _ (by simp)]; simp [go_sem]
  have r11 : w1.cell? ⟨w.heap.size + 1, 1, none⟩ = some (.int .i64 0) := by rw [(bcell hb1).1 _ _ (by simp)]; simp [go_sem]
  have r12 : w1.cell? ⟨w.heap.size + 1, 2, none⟩ = some (.slice none 0 0) := by rw [(bcell hb1).1 _ _ (by simp)]; simp [go_sem]
  have r2 : ∀ j, w1.frozen? ⟨w.heap.size + 1, j, none⟩ = false := by intro j; rw [(bcell hb1).2 _ _ (by simp)]; simp [go_sem]
  have o10 : w1.cell? ⟨w.heap.size + 1 + 1, 0, none⟩ = some (.slice none 0 0) := by rw [(bcell hb1).1 _ _ (by simp)]; simp [go_sem]
  have o11 : w1.cell? ⟨w.heap.size + 1 + 1, 1, none⟩ = some (.int .i64 0) := by rw [(bcell hb1).1 _ _ (by simp)]; simp [go_sem]
  have o12 : w1.cell? ⟨w.heap.size + 1 + 1, 2, none⟩ = some (.slice none 0 0) := by rw [(bcell hb1).1 _ _ (by simp)]; simp [go_sem]
  have o2 : ∀ j, w1.frozen? ⟨w.heap.size + 1 + 1, j, none⟩ = false := by intro j; rw [(bcell hb1).2 _ _ (by simp)]; simp [go_sem]
  have HB1 : Hid (Below w.heap.size w w1) := (bel3 _ _ _ _).trans (hb1.mono (by simp <;> omega))
  have HR1 : Hid (RowFIn w1 (w.heap.size + 3) w1.heap.size b1 n1 (intF g)) := by
    unfold Hid intF
    simpa using hr1
  have S1 : Hid (w.heap.size + 3 ≤ w1.heap.size) := by unfold Hid; omega
  clear hb1 hr1 s1
  go_wp2_with fail
  refine (toBoolS_any a3 n3 c3 h _ (by have := HN.out; omega) (HSC.out.r3.later ((HB1.out.setCell (p := ⟨w.heap.size + 1 + 1, 0, none⟩) (by simp <;> omega) _).setCell (p := ⟨w.heap.size + 1 + 1, 1, none⟩) (by simp <;> omega) _))).mono ?_
  rintro e w3 ⟨b3, rfl, hr3, hb3⟩
  have hlt : ∀ b, b < w.heap.size + 3 → b < ((w1.setCell ⟨w.heap.size + 1 + 1, 0, none⟩ (.slice b1 n1 n1)).setCell ⟨w.heap.size + 1 + 1, 1, none⟩ (.int .i64 L)).heap.size := by intro b hb; have := S1.out; simp; omega
  replace r10 : w3.cell? ⟨w.heap.size + 1, 0, none⟩ = some (.slice none 0 0) := by rw [(bcell hb3).1 _ _ (hlt _ (by omega))]; simp [go_sem, r10]
  replace r11 : w3.cell? ⟨w.heap.size + 1, 1, none⟩ = some (.int .i64 0) := by rw [(bcell hb3).1 _ _ (hlt _ (by omega))]; simp [go_sem, r11]
  replace r12 : w3.cell? ⟨w.heap.size + 1, 2, none⟩ = some (.slice none 0 0) := by rw [(bcell hb3).1 _ _ (hlt _ (by omega))]; simp [go_sem, r12]
  replace o10 : w3.cell? ⟨w.heap.size + 1 + 1, 0, none⟩ = some (.slice b1 n1 n1) := by rw [(bcell hb3).1 _ _ (hlt _ (by omega))]; simp [go_sem, o10]
  replace o11 : w3.cell? ⟨w.heap.size + 1 + 1, 1, none⟩ = some (.int .i64 L) := by rw [(bcell hb3).1 _ _ (hlt _ (by omega))]; simp [go_sem, o11]
  replace o12 : w3.cell? ⟨w.heap.size + 1 + 1, 2, none⟩ = some (.slice none 0 0) := by rw [(bcell hb3).1 _ _ (hlt _ (by omega))]; simp [go_sem, o12]
  replace r2 : ∀ j, w3.frozen? ⟨w.heap.size + 1, j, none⟩ = false := by intro j; rw [(bcell hb3).2 _ _ (hlt _ (by omega))]; simp [go_sem, r2]
  replace o2 : ∀ j, w3.frozen? ⟨w.heap.size + 1 + 1, j, none⟩ = false := by intro j; rw [(bcell hb3).2 _ _ (hlt _ (by omega))]; simp [go_sem, o2]
  have s3 := hb3.size
  simp at s3
  have HB3 : Hid (Below w.heap.size w w3) := ((HB1.out.setCell (p := ⟨w.heap.size + 1 + 1, 0, none⟩) (by simp <;> omega) _).setCell (p := ⟨w.heap.size + 1 + 1, 1, none⟩) (by simp <;> omega) _).trans (hb3.mono (by simp; have := S1.out; omega))
  have HI : Hid (PcIn w3 (w.heap.size + 3) w3.heap.size b1 b3 n1 n3 g h w1.heap.size) := by
    refine ⟨S1.out, s3, Nat.le_refl _, ?_, ?_⟩
    · exact ((HR1.out.apart (within_set _ _ _) (.inr (by simp))).apart (within_set _ _ _) (.inr (by simp))).later hb3
    · unfold boolF
      simpa using hr3
  have S3 : Hid (w1.heap.size ≤ w3.heap.size) := s3
  clear hb3 hr3 HB1 HR1 hlt s3 p1 p2
  go_wp2
  refine bodyPost_ret (v := .agg #[.slice b1 n1 n1, .int .i64 L, .slice b3 n3 n3]) (by simp [results, Try.results18, go_sem, r10, r11, r12]) rfl ?_
  refine ⟨b1, b3, w1.heap.size, rfl, ?_, ?_⟩
  · have hh := ((((HI.out.apart (within_set w3 ⟨w.heap.size + 1 + 1, 2, none⟩ (.slice b3 n3 n3)) (.inr (by simp))).apart (within_set _ ⟨w.heap.size + 1, 0, none⟩ (.slice b1 n1 n1)) (.inr (by simp))).apart (within_set _ ⟨w.heap.size + 1, 1, none⟩ (.int .i64 L)) (.inr (by simp))).apart (within_set _ ⟨w.heap.size + 1, 2, none⟩ (.slice b3 n3 n3)) (.inr (by simp)))
    refine ⟨by have := S1.out; omega, by simpa using S3.out, by simp, ?_, by simpa using hh.r3⟩
    rcases hh.r1 with h | ⟨b, off, q1, q2, q3⟩
    · exact .inl h
    · exact .inr ⟨b, off, q1, by omega, q3⟩
  · exact (((HB3.out.setCell (by simp <;> omega) _).setCell (by simp <;> omega) _).setCell (by simp <;> omega) _).setCell (by simp <;> omega) _

set_option maxRecDepth 100000 in
set_option maxHeartbeats 4000000 in
theorem eqPicture_same (a1 a3 b1 b3 : Option Addr) (n1 n3 c1 c3 d1 d3 : Nat) (L : Int) (g : Nat → Int) (h : Nat → Bool) (w : World) (hn : n1 + n3 ≤ 1048576) (hs : PcAt w a1 a3 n1 n3 g h) (hs1 : PcAt w b1 b3 n1 n3 g h) :
    Calls Try.prog 11 #[.agg #[.slice a1 n1 c1, .int .i64 L, .slice a3 n3 c3], .agg #[.slice b1 n1 d1, .int .i64 L, .slice b3 n3 d3]] w fun e w' => e = .returned (.bool true) ∧ Below w.heap.size w w' := by
  have HSC : Hid (PcAt w a1 a3 n1 n3 g h) := hs
  have HSD : Hid (PcAt w b1 b3 n1 n3 g h) := hs1
  have HN : Hid (n1 + n3 ≤ 1048576) := hn
  have hne : (L != L) = false := by simp
  clear hs hs1 hn
  go_enter Try.func11, Try.ntmps11
  go_wp2_with fail
  refine (eqIntS_same a1 b1 n1 c1 d1 g _ (by have := HN.out; omega) (HSC.out.r1.later (bel2 _ _ _)) (HSD.out.r1.later (bel2 _ _ _))).mono ?_
  rintro e w1 ⟨rfl, hb1⟩
  have p1 : w1.cell? ⟨w.heap.size, 1, none⟩ = some (.int .i64 L) := by rw [(bcell hb1).1 _ _ (by simp <;> omega)]; simp [go_sem]
  have p2 : w1.cell? ⟨w.heap.size, 2, none⟩ = some (.slice a3 n3 c3) := by rw [(bcell hb1).1 _ _ (by simp <;> omega)]; simp [go_sem]
  have q1 : w1.cell? ⟨w.heap.size + 1, 1, none⟩ = some (.int .i64 L) := by rw [(bcell hb1).1 _ _ (by simp)]; simp [go_sem]
  have q2 : w1.cell? ⟨w.heap.size + 1, 2, none⟩ = some (.slice b3 n3 d3) := by rw [(bcell hb1).1 _ _ (by simp)]; simp [go_sem]
  have HB1 : Hid (Below w.heap.size w w1) := (bel2 _ _ _).trans (hb1.mono (by simp <;> omega))
  clear hb1
  go_wp2_with fail
  refine (eqBoolS_same a3 b3 n3 c3 d3 h _ (by have := HN.out; omega) (HSC.out.r3.later HB1.out) (HSD.out.r3.later HB1.out)).mono ?_
  rintro e w3 ⟨rfl, hb3⟩
  have HB3 : Hid (Below w.heap.size w w3) := HB1.out.trans (hb3.mono HB1.out.size)
  clear hb3 HB1
  go_wp2
  go_ret
  exact ⟨rfl, HB3.out⟩

/-- What markPicture answers. -/
def MkPc (w : World) (lo hi : Nat) (a1 a3 : Option Addr) (n1 n3 m1 : Nat) (k0 : Int) (e : Ending) (w' : World) : Prop :=
  e = .returned (.int .i64 (k0 + n1 + n3)) ∧ PcIn w' lo hi a1 a3 n1 n3 (fun j => k0 + j) (fun j => (k0 + n1 + j) % 3 == 0) m1 ∧ ∃ u, Below w.heap.size w u ∧ Within lo hi u w'

set_option maxRecDepth 100000 in
set_option maxHeartbeats 4000000 in
theorem markPicture_any (a1 a3 : Option Addr) (n1 n3 c1 c3 m1 lo hi : Nat) (L : Int) (g : Nat → Int) (h : Nat → Bool) (k0 : Int) (w : World) (hn : n1 + n3 ≤ 1048576) (h0 : 1 ≤ k0) (h1 : k0 ≤ 1048576) (hs : PcIn w lo hi a1 a3 n1 n3 g h m1) :
    Calls Try.prog 14 #[.agg #[.slice a1 n1 c1, .int .i64 L, .slice a3 n3 c3], .int .i64 k0] w fun e w' => MkPc w lo hi a1 a3 n1 n3 m1 k0 e w' := by
  have HSC : Hid (PcIn w lo hi a1 a3 n1 n3 g h m1) := hs
  have HT : Hid (hi ≤ w.heap.size) := hs.top
  clear hs
  go_enter Try.func14, Try.ntmps14
  go_wp2_with fail
  have I0 : Hid (PcIn (w.alloc (.cells #[.slice a1 n1 c1, .int .i64 L, .slice a3 n3 c3] 26)) lo hi a1 a3 n1 n3 g h m1) := HSC.out.later (bel0 _ _)
  refine (markIntS_any a1 n1 c1 g k0 _ lo m1 (by omega) h0 (by omega) I0.out.r1).mono ?_
  rintro e w1 ⟨rfl, hr1, hw1⟩
  have p2 : w1.cell? ⟨w.heap.size, 2, none⟩ = some (.slice a3 n3 c3) := by rw [hw1.cell (p := ⟨w.heap.size, 2, none⟩) (.inr (by have := I0.out.hi1; have := HT.out; show m1 ≤ w.heap.size; omega))]; simp [go_sem]
  have HR1 : Hid (RowFIn w1 lo m1 a1 n1 (intF (fun j => k0 + j))) := hr1
  have HR3 : Hid (RowFIn w1 m1 hi a3 n3 (boolF h)) := I0.out.r3.apart hw1 (.inr (Nat.le_refl _))
  have HW1 : Hid (Within lo hi (w.alloc (.cells #[.slice a1 n1 c1, .int .i64 L, .slice a3 n3 c3] 26)) w1) := hw1.wide (Nat.le_refl _) I0.out.hi1
  clear hr1 hw1
  go_wp2_with fail
  refine (markBoolS_any a3 n3 c3 h (k0 + n1) _ m1 hi (by omega) (by omega) (by omega) HR3.out).mono ?_
  rintro e w3 ⟨rfl, hr3, hw3⟩
  have HW3 : Hid (Within lo hi (w.alloc (.cells #[.slice a1 n1 c1, .int .i64 L, .slice a3 n3 c3] 26)) w3) := HW1.out.tr (hw3.wide I0.out.lo1 (Nat.le_refl _))
  have HI : Hid (PcIn w3 lo hi a1 a3 n1 n3 (fun j => k0 + j) (fun j => (k0 + n1 + j) % 3 == 0) m1) := by
    refine ⟨I0.out.lo1, I0.out.hi1, ?_, HR1.out.apart hw3 (.inl (Nat.le_refl _)), hr3⟩
    rw [HW3.out.size]
    exact I0.out.top
  clear hr3 hw3 HR1 HR3 HW1 p2 I0
  go_wp2
  go_ret
  exact ⟨ret_intM rfl, HI.out, _, bel0 _ _, HW3.out⟩

set_option maxRecDepth 100000 in
set_option maxHeartbeats 4000000 in
theorem heldPicture_any (a1 a3 : Option Addr) (n1 n3 c1 c3 : Nat) (L k0 : Int) (w : World) (hn : n1 + n3 ≤ 1048576) (h0 : 1 ≤ k0) (h1 : k0 ≤ 1048576) (hs : PcAt w a1 a3 n1 n3 (fun j => k0 + j) (fun j => (k0 + n1 + j) % 3 == 0)) :
    Calls Try.prog 15 #[.agg #[.slice a1 n1 c1, .int .i64 L, .slice a3 n3 c3], .int .i64 k0] w fun e w' => e = .returned (.int .i64 (k0 + n1 + n3)) ∧ Below w.heap.size w w' := by
  have HSC : Hid (PcAt w a1 a3 n1 n3 (fun j => k0 + j) (fun j => (k0 + n1 + j) % 3 == 0)) := hs
  have hneg1 : ¬ k0 + (n1 : Int) < 0 := by omega
  have hneg2 : ¬ k0 + (n1 : Int) + n3 < 0 := by omega
  clear hs
  go_enter Try.func15, Try.ntmps15
  go_wp2_with fail
  refine (heldIntS_any a1 n1 c1 k0 _ (by omega) h0 (by omega) (HSC.out.r1.later (bel0 _ _))).mono ?_
  rintro e w1 ⟨rfl, hb1⟩
  have p2 : w1.cell? ⟨w.heap.size, 2, none⟩ = some (.slice a3 n3 c3) := by rw [(bcell hb1).1 _ _ (by simp)]; simp [go_sem]
  have HB1 : Hid (Below w.heap.size w w1) := (bel0 _ _).trans (hb1.mono (by simp))
  clear hb1
  go_wp2_with fail
  refine (heldBoolS_any a3 n3 c3 (k0 + n1) _ (by omega) (by omega) (by omega) (HSC.out.r3.later HB1.out)).mono ?_
  rintro e w3 ⟨rfl, hb3⟩
  have HB3 : Hid (Below w.heap.size w w3) := HB1.out.trans (hb3.mono HB1.out.size)
  clear hb3 HB1 p2
  go_wp2
  go_ret
  exact ⟨ret_intM rfl, HB3.out⟩

end Go.Proofs.Ytcjdnomhnlbmbaa

/-
  The laws' own helpers over bytes.
-/
namespace Go.Proofs.Ytcjdnomhnlbmbaa
open Go.RowKit

theorem Try.info5 : (Try.prog.info? 5).map (fun i => (i.zero, i.size, i.bytes)) = some (some (.int .u8 0), 1, 1) := by kernel_rfl

set_option maxHeartbeats 400000 in
theorem eqY_any (a a' : Option Addr) (c c' : Nat) (zs ys : List Int) (w : World) (hn : zs.length ≤ maxLen) (hn' : ys.length ≤ maxLen) (hz : RowAt .u8 w a zs) (hy : RowAt .u8 w a' ys) :
    Calls Try.prog 12 #[.slice a zs.length c, .slice a' ys.length c'] w fun e w' => e = .returned (.bool (decide (zs = ys))) ∧ Below w.heap.size w w' := by
  unfold maxLen at hn hn'
  by_cases hl : zs.length = ys.length
  · rcases hz with hz | ⟨b, off, rfl, hb, hc⟩
    · subst hz
      have : ys = [] := List.length_eq_zero_iff.1 hl.symm
      subst this
      go_enter Try.func12, Try.ntmps12
      go_wp2
      go_loop [5] (fun i => i = .int .i64 0) (fun _ => 0)
      case atStart => rfl
      case round =>
        subst hrel
        go_wp2
        go_ret
        exact ⟨by simp, Below.refl _ _⟩
    · rcases hy with hy | ⟨b', off', rfl, hb', hc'⟩
      · subst hy
        have : zs = [] := List.length_eq_zero_iff.1 hl
        subst this
        go_enter Try.func12, Try.ntmps12
        go_wp2
        go_loop [5] (fun i => i = .int .i64 0) (fun _ => 0)
        case atStart => rfl
        case round =>
          subst hrel
          go_wp2
          go_ret
          exact ⟨by simp, Below.refl _ _⟩
      · have hne : ((zs.length : Int) != (ys.length : Int)) = false := by simp; omega
        have HL : Hid (zs.length = ys.length) := hl
        clear hl
        go_enter Try.func12, Try.ntmps12
        go_wp2
        go_loopw [5] (fun i wr => ∃ k : Nat, k ≤ zs.length ∧ i = .int .i64 k ∧ Hid (∀ j, j < k → zs.getD j 0 = ys.getD j 0) ∧ Below w.heap.size w wr) (fun i _ => zs.length - (intOf i).toNat)
        case atStart => exact ⟨0, Nat.zero_le _, rfl, fun j hj => absurd hj (by omega), Below.refl _ _⟩
        case round =>
          obtain ⟨k, hk, rfl, hsame, hnx⟩ := hrel
          by_cases hlt : k < zs.length
          · have hlt' : k < ys.length := by have := HL.out; omega
            have g1 : wr.cell? ⟨b, off + k, none⟩ = some (.int .u8 (zs.getD k 0)) := (hnx.cell (p := ⟨b, off + k, none⟩) hb).trans (hc k hlt)
            have g2 : wr.cell? ⟨b', off' + k, none⟩ = some (.int .u8 (ys.getD k 0)) := (hnx.cell (p := ⟨b', off' + k, none⟩) hb').trans (hc' k hlt')
            clear hc hc'
            go_wp2
            go_quiet (fail)
            go_wp2
            · go_ret
              exact ⟨ret_bool (neq_of hlt hlt' ‹_›).symm, below_drewN hnx _⟩
            · go_roundw
              case rel => exact ⟨k + 1, by omega, by go_num, same_succ hsame.out hlt hlt' ‹_›, below_drewN hnx _⟩
              case measure => simp [intOf]; omega
          · go_wp2
            go_ret
            exact ⟨ret_bool (same_all HL.out (by intro j hj; exact hsame.out j (by omega))).symm, hnx⟩
  · have hne : ((zs.length : Int) != (ys.length : Int)) = true := by simp; omega
    go_enter Try.func12, Try.ntmps12
    go_wp2
    go_ret
    exact ⟨by simp; intro h; exact hl (by rw [h]), Below.refl _ _⟩

set_option maxHeartbeats 400000 in
theorem toY_any (a : Option Addr) (c : Nat) (zs : List Int) (w : World) (hn : zs.length ≤ 1048576) (hz : RowAt .u8 w a zs) :
    Calls Try.prog 9 #[.slice a zs.length c] w fun e w' => ∃ a', e = .returned (.slice a' zs.length zs.length) ∧ RowNew .u8 w' w.heap.size a' zs ∧ Below w.heap.size w w' := by
  have hmk := run_make_row' (P := Try.prog) 22 5 (.int .u8 0) 1 Try.underlying22 Try.info5 rfl .i64 .i64 zs.length (by omega) (by omega)
  go_enter Try.func9, Try.ntmps9
  go_wp2
  go_loopw [4] (fun i wr => ∃ k : Nat, k ≤ zs.length ∧ i = .int .i64 k ∧ Own .u8 wr w.heap.size 0 (zs.take k ++ List.replicate (zs.length - k) 0) ∧ Below w.heap.size w wr) (fun i _ => zs.length - (intOf i).toNat)
  case atStart => exact ⟨0, Nat.zero_le _, rfl, by simpa using Own.made w zs.length _, bel0 _ _⟩
  case round =>
    obtain ⟨k, hk, rfl, hown, hnx⟩ := hrel
    by_cases hlt : k < zs.length
    · obtain ⟨b, off, rfl, hb, hc⟩ := hz.resolve_left (by intro h; subst h; simp at hlt)
      have g1 : wr.cell? ⟨b, off + k, none⟩ = some (.int .u8 (zs.getD k 0)) := (hnx.cell (p := ⟨b, off + k, none⟩) hb).trans (hc k hlt)
      have g2 := hown.cell k (by simp; omega)
      have g3 := hown.free k (by simp; omega)
      have hs := hown.set k (zs.getD k 0) (by simp; omega)
      rw [fill_step zs k hlt] at hs
      have hbe := hnx.setCell (p := ⟨w.heap.size, 0 + k, none⟩) (Nat.le_refl _) (.int .u8 (zs.getD k 0))
      rw [Nat.zero_add] at g2 g3 hs hbe
      have HS : Hid (Own .u8 (wr.setCell ⟨w.heap.size, k, none⟩ (.int .u8 (zs.getD k 0))) w.heap.size 0 (zs.take (k + 1) ++ List.replicate (zs.length - (k + 1)) 0)) := hs
      have HB : Hid (Below w.heap.size w (wr.setCell ⟨w.heap.size, k, none⟩ (.int .u8 (zs.getD k 0)))) := hbe
      clear hs hbe hc hown hnx hz
      go_wp2
      go_roundw
      case rel => exact ⟨k + 1, by omega, by go_num, by simpa [hlt] using HS.out, by simpa [hlt] using HB.out⟩
      case measure => simp [intOf]; omega
    · have e : k = zs.length := by omega
      subst e
      go_wp2
      go_ret
      exact ⟨_, rfl, by simpa using hown.new (Nat.le_refl _), hnx⟩

/-- A store into a row that is being marked. -/
theorem mark_set {wr : World} {b off n L : Nat} (h : ∀ j, j < L → ∃ v, wr.cell? ⟨b, off + j, none⟩ = some v) (hf : ∀ j, j < L → wr.frozen? ⟨b, off + j, none⟩ = false) (hn : n < L) (u : Value) :
    (∀ j, j < L → ∃ v, (wr.setCell ⟨b, off + n, none⟩ u).cell? ⟨b, off + j, none⟩ = some v) ∧ (∀ j, j < L → (wr.setCell ⟨b, off + n, none⟩ u).frozen? ⟨b, off + j, none⟩ = false) := by
  refine ⟨fun j hj => ?_, fun j hj => ?_⟩
  · by_cases e : j = n
    · subst e
      obtain ⟨v, hv⟩ := h j hj
      exact ⟨_, World.cell?_setCell_same _ _ _ hv⟩
    · rw [World.cell?_setCell_other _ _ _ _ (by intro hh; apply e; have := congrArg Addr.off hh; simp at this; omega)]; exact h j hj
  · rw [World.frozen?_setCell]; exact hf j hj

set_option maxHeartbeats 1000000 in
theorem markY_any (a : Option Addr) (c : Nat) (zs : List Int) (k0 : Int) (w : World) (lo hi : Nat) (hn : zs.length ≤ 1048576) (h0 : 1 ≤ k0) (h1 : k0 ≤ 2097152) (hz : RowIn .u8 w lo hi a zs) :
    Calls Try.prog 13 #[.slice a zs.length c, .int .i64 k0] w fun e w' => e = .returned (.int .i64 (k0 + zs.length)) ∧ Within lo hi w w' := by
  rcases hz with hz | ⟨b, off, rfl, hlo, hhi, hb, hc, hf⟩
  · subst hz
    go_enter Try.func13, Try.ntmps13
    go_wp2
    go_loop [1, 5] (fun k i => k = .int .i64 k0 ∧ i = .int .i64 0) (fun _ _ => 0)
    case atStart => exact ⟨rfl, rfl⟩
    case round =>
      obtain ⟨rfl, rfl⟩ := hrel
      go_wp2
      go_ret
      exact ⟨ret_intM (by simp), Within.refl _ _ _⟩
  · go_enter Try.func13, Try.ntmps13
    go_wp2
    go_loopw [1, 5] (fun k i wr => ∃ n : Nat, n ≤ zs.length ∧ i = .int .i64 n ∧ k = .int .i64 (k0 + n) ∧ Hid ((∀ j, j < zs.length → ∃ v, wr.cell? ⟨b, off + j, none⟩ = some v) ∧ (∀ j, j < zs.length → wr.frozen? ⟨b, off + j, none⟩ = false)) ∧ Within lo hi w wr) (fun _ i _ => zs.length - (intOf i).toNat)
    case atStart => exact ⟨0, Nat.zero_le _, rfl, by simp, ⟨fun j hj => ⟨_, hc j hj⟩, hf⟩, Within.refl _ _ _⟩
    case round =>
      obtain ⟨n, hn', rfl, rfl, hall, hwi⟩ := hrel
      clear hc hf
      by_cases hlt : n < zs.length
      · obtain ⟨v, hv⟩ := hall.out.1 n hlt
        have hv2 := hall.out.2 n hlt
        have HW : Hid (Within lo hi w wr) := hwi
        clear hwi
        go_wp2
        go_roundw
        case rel => exact ⟨n + 1, by omega, by go_num, by go_num, mark_set hall.out.1 hall.out.2 hlt _, HW.out.setCell hlo hhi _⟩
        case measure => simp [intOf]; omega
      · have hnn : n = zs.length := by omega
        subst hnn
        have HW : Hid (Within lo hi w wr) := hwi
        clear hall hwi
        go_wp2
        go_ret
        exact ⟨rfl, HW.out⟩

end Go.Proofs.Ytcjdnomhnlbmbaa
