/-
  The first fault of a list of bytes, and the model's l6fault.
-/
import Derived.Test.YtcjdnomhnlbmbaaSpD0
import Derived.BigQuiet
import Derived.Test.YtcjdnomhnlbmbaaLawVsSpE
namespace Go.Proofs.Ytcjdnomhnlbmbaa
open Go.RowKit

/-- The first that is there of f 0, f 1, .. -/
def firstF {α : Type} (f : Nat → Option α) : Nat → Option α
  | 0 => none
  | n + 1 => match firstF f n with
    | some x => some x
    | none => f n
theorem firstF_succ {α : Type} {f : Nat → Option α} {i : Nat} (h : firstF f i = none) (hx : f i = none) : firstF f (i + 1) = none := by
  simp only [firstF, h, hx]
theorem firstF_at {α : Type} {f : Nat → Option α} {i : Nat} {x : α} (h : firstF f i = none) (hx : f i = some x) : firstF f (i + 1) = some x := by
  simp only [firstF, h, hx]
theorem firstF_stay {α : Type} {f : Nat → Option α} {i : Nat} {x : α} (h : firstF f i = some x) : ∀ d, firstF f (i + d) = some x
  | 0 => h
  | d + 1 => by
    have := firstF_stay h d
    rw [← Nat.add_assoc]
    simp only [firstF, this]
theorem firstF_hit {α : Type} {f : Nat → Option α} {i n : Nat} {x : α} (hi : i < n) (h : firstF f i = none) (hx : f i = some x) : firstF f n = some x := by
  have := firstF_stay (firstF_at h hx) (n - (i + 1))
  rwa [show i + 1 + (n - (i + 1)) = n by omega] at this

def magicAt (bs : List Int) (i : Nat) : Option (Int × Int) :=
  if bs.length ≤ i then some (5, bs.length) else if bs.getD i 0 = ([83, 67, 69, 78] : List Int).getD i 0 then none else some (4, i)
def cntPl (k : Nat) : Nat := 4 + 2 * k
def cntSz (k : Nat) : Nat := if k = 2 then 1 else 2
def cntMo (k : Nat) : Int := if k = 2 then 4 else 40
def cntB (bs : List Int) (k : Nat) : Int := numB bs (cntPl k) (cntSz k)
def cntAt (bs : List Int) (k : Nat) : Option (Int × Int) :=
  if cntB bs k < 0 then some (5, bs.length) else if cntMo k < cntB bs k then some (2, cntPl k) else none
def dirAt (bs : List Int) (c0 c1 : Nat) (i : Nat) : Bool := decide (9 * c0 ≤ i) && decide (i < 9 * c0 + 6 * c1) && decide ((i - 9 * c0) % 6 = 5) && noWayB (fltB bs (1 + 4 * i)) (fltB bs (1 + 4 * i + 4)) (fltB bs (1 + 4 * i + 8))
def fltAt (bs : List Int) (c0 c1 : Nat) (i : Nat) : Option (Int × Int) :=
  if numB bs (9 + 4 * i) 4 < 0 then some (5, bs.length)
  else if fFin (numB bs (9 + 4 * i) 4) = false then some (6, ((9 + 4 * i : Nat) : Int))
  else if dirAt bs c0 c1 i = true then some (7, ((1 + 4 * i : Nat) : Int)) else none
def fltN (c0 c1 c2 : Nat) : Nat := 9 * c0 + 6 * c1 + 3 * c2
def tailF (bs : List Int) (c0 c1 c2 : Nat) : Int × Int :=
  match firstF (fltAt bs c0 c1) (fltN c0 c1 c2) with
  | some x => x
  | none => if 9 + 4 * fltN c0 c1 c2 < bs.length then (8, ((9 + 4 * fltN c0 c1 c2 : Nat) : Int)) else (0, 0)
def countsF (bs : List Int) : Int × Int :=
  match firstF (cntAt bs) 3 with
  | some x => x
  | none => tailF bs (cntB bs 0).toNat (cntB bs 1).toNat (cntB bs 2).toNat
/-- The first fault of a scene's bytes: a code and an offset. -/
def faultF (bs : List Int) : Int × Int :=
  match firstF (magicAt bs) 4 with
  | some x => x
  | none => countsF bs

theorem faultF_magic {bs : List Int} {x : Int × Int} (h : firstF (magicAt bs) 4 = some x) : faultF bs = x := by unfold faultF; rw [h]
theorem faultF_counts {bs : List Int} {x : Int × Int} (h : firstF (magicAt bs) 4 = none) (h1 : firstF (cntAt bs) 3 = some x) : faultF bs = x := by unfold faultF; rw [h]; show countsF bs = x; unfold countsF; rw [h1]
theorem faultF_tail {bs : List Int} (h : firstF (magicAt bs) 4 = none) (h1 : firstF (cntAt bs) 3 = none) : faultF bs = tailF bs (cntB bs 0).toNat (cntB bs 1).toNat (cntB bs 2).toNat := by unfold faultF; rw [h]; show countsF bs = _; unfold countsF; rw [h1]
theorem tailF_hit {bs : List Int} {c0 c1 c2 : Nat} {x : Int × Int} (h : firstF (fltAt bs c0 c1) (fltN c0 c1 c2) = some x) : tailF bs c0 c1 c2 = x := by unfold tailF; rw [h]
theorem tailF_none {bs : List Int} {c0 c1 c2 : Nat} (h : firstF (fltAt bs c0 c1) (fltN c0 c1 c2) = none) : tailF bs c0 c1 c2 = if 9 + 4 * fltN c0 c1 c2 < bs.length then (8, ((9 + 4 * fltN c0 c1 c2 : Nat) : Int)) else (0, 0) := by unfold tailF; rw [h]

theorem firstF_none {α : Type} {f : Nat → Option α} {n : Nat} (h : firstF f n = none) : ∀ i, i < n → f i = none := by
  intro i hi
  cases hf : f i with
  | none => rfl
  | some x =>
    have hn : firstF f i = none := by
      cases hg : firstF f i with
      | none => rfl
      | some y =>
        have := firstF_stay hg (n - i)
        rw [show i + (n - i) = n by omega, h] at this
        cases this
    have := firstF_hit hi hn hf
    rw [h] at this
    cases this

/-- What a count is where none is wrong. -/
theorem cnt_ok {bs : List Int} (h : firstF (cntAt bs) 3 = none) (k : Nat) (hk : k < 3) : 0 ≤ cntB bs k ∧ cntB bs k ≤ cntMo k := by
  have := firstF_none h k hk
  unfold cntAt at this
  by_cases h1 : cntB bs k < 0
  · rw [if_pos h1] at this; cases this
  · rw [if_neg h1] at this
    by_cases h2 : cntMo k < cntB bs k
    · rw [if_pos h2] at this; cases this
    · omega

/-- What l6fault answers. -/
def FaultOut (w : World) (x : Int × Int) (e : Ending) (w' : World) : Prop := e = .returned (.tuple #[.int .i64 x.1, .int .i64 x.2]) ∧ Below w.heap.size w w'

end Go.Proofs.Ytcjdnomhnlbmbaa

/-
  Scenes as the laws mark them.
-/
namespace Go.Proofs.Ytcjdnomhnlbmbaa
open Go.RowKit

theorem Within.wide {lo hi lo' hi' : Nat} {w w' : World} (h : Within lo hi w w') (h1 : lo' ≤ lo) (h2 : hi ≤ hi') : Within lo' hi' w w' :=
  ⟨h.os, h.tape, h.output, h.size, fun k hk => h.block k (by omega)⟩
theorem Within.tr {lo hi : Nat} {w w' w'' : World} (h : Within lo hi w w') (h2 : Within lo hi w' w'') : Within lo hi w w'' :=
  ⟨h2.os.trans h.os, h2.tape.trans h.tape, h2.output.trans h.output, h2.size.trans h.size, fun k hk => (h2.block k hk).trans (h.block k hk)⟩

/-- What markScene answers. -/
def MkSc (w : World) (lo hi : Nat) (a1 a2 a3 : Option Addr) (n1 n2 n3 : Nat) (z1 z2 z3 : List Int) (m1 m2 : Nat) (k0 : Int) (e : Ending) (w' : World) : Prop :=
  e = .returned (.int .i64 (k0 + z1.length + z2.length + z3.length)) ∧ ScIn w' lo hi a1 a2 a3 n1 n2 n3 (marksL k0 z1.length) (marksL (k0 + z1.length) z2.length) (marksL (k0 + z1.length + z2.length) z3.length) m1 m2 ∧ ∃ u, Below w.heap.size w u ∧ Within lo hi u w'

set_option maxRecDepth 100000 in
set_option maxHeartbeats 4000000 in
theorem markScene_any (a1 a2 a3 : Option Addr) (n1 n2 n3 c1 c2 c3 : Nat) (z1 z2 z3 : List Int) (m1 m2 lo hi : Nat) (k0 : Int) (w : World) (hn : n1 + n2 + n3 ≤ 1048576) (h0 : 1 ≤ k0) (h1 : k0 ≤ 1048576) (hs : ScIn w lo hi a1 a2 a3 n1 n2 n3 z1 z2 z3 m1 m2) :
    Calls Try.prog 28 #[.agg #[.slice a1 n1 c1, .slice a2 n2 c2, .slice a3 n3 c3], .int .i64 k0] w fun e w' => MkSc w lo hi a1 a2 a3 n1 n2 n3 z1 z2 z3 m1 m2 k0 e w' := by
  have HSC : Hid (ScIn w lo hi a1 a2 a3 n1 n2 n3 z1 z2 z3 m1 m2) := hs
  have HT : Hid (hi ≤ w.heap.size) := hs.top
  have HL : Hid (z1.length = n1 * 9 ∧ z2.length = n2 * 6 ∧ z3.length = n3 * 3) := ⟨hs.l1, hs.l2, hs.l3⟩
  clear hs
  go_enter Try.func28, Try.ntmps28
  go_wp2_with fail
  have I0 : Hid (ScIn (w.alloc (.cells #[.slice a1 n1 c1, .slice a2 n2 c2, .slice a3 n3 c3] 51)) lo hi a1 a2 a3 n1 n2 n3 z1 z2 z3 m1 m2) := HSC.out.later (bel0 _ _)
  refine (markTriS_any a1 n1 c1 z1 k0 _ lo m1 (by omega) h0 (by omega) HL.out.1 I0.out.r1).mono ?_
  rintro e w1 ⟨rfl, hr1, hw1⟩
  have p1 : w1.cell? ⟨w.heap.size, 1, none⟩ = some (.slice a2 n2 c2) := by rw [hw1.cell (p := ⟨w.heap.size, 1, none⟩) (.inr (by have := I0.out.m12; have := I0.out.hi2; have := HT.out; show m1 ≤ w.heap.size; omega))]; simp [go_sem]
  have p2 : w1.cell? ⟨w.heap.size, 2, none⟩ = some (.slice a3 n3 c3) := by rw [hw1.cell (p := ⟨w.heap.size, 2, none⟩) (.inr (by have := I0.out.m12; have := I0.out.hi2; have := HT.out; show m1 ≤ w.heap.size; omega))]; simp [go_sem]
  have HR1 : Hid (RowIn .u32 w1 lo m1 a1 (marksL k0 z1.length)) := hr1
  have HR2 : Hid (RowIn .u32 w1 m1 m2 a2 z2) := I0.out.r2.apart hw1 (.inr (Nat.le_refl _))
  have HR3 : Hid (RowIn .u32 w1 m2 hi a3 z3) := I0.out.r3.apart hw1 (.inr I0.out.m12)
  have HW1 : Hid (Within lo hi (w.alloc (.cells #[.slice a1 n1 c1, .slice a2 n2 c2, .slice a3 n3 c3] 51)) w1) := hw1.wide (Nat.le_refl _) (Nat.le_trans I0.out.m12 I0.out.hi2)
  clear hr1 hw1
  go_wp2_with fail
  refine (markRayS_any a2 n2 c2 z2 (k0 + z1.length) _ m1 m2 (by omega) (by omega) (by have := HL.out; omega) HL.out.2.1 HR2.out).mono ?_
  rintro e w2 ⟨rfl, hr2, hw2⟩
  replace p2 := (hw2.cell (p := ⟨w.heap.size, 2, none⟩) (.inr (by have := I0.out.hi2; have := HT.out; show m2 ≤ w.heap.size; omega))).trans p2
  have HQ1 : Hid (RowIn .u32 w2 lo m1 a1 (marksL k0 z1.length)) := HR1.out.apart hw2 (.inl (Nat.le_refl _))
  have HQ2 : Hid (RowIn .u32 w2 m1 m2 a2 (marksL (k0 + z1.length) z2.length)) := hr2
  have HQ3 : Hid (RowIn .u32 w2 m2 hi a3 z3) := HR3.out.apart hw2 (.inr (Nat.le_refl _))
  have HW2 : Hid (Within lo hi (w.alloc (.cells #[.slice a1 n1 c1, .slice a2 n2 c2, .slice a3 n3 c3] 51)) w2) := HW1.out.tr (hw2.wide I0.out.lo1 I0.out.hi2)
  clear hr2 hw2 HR1 HR2 HR3 HW1 p1
  go_wp2_with fail
  refine (markPointS_any a3 n3 c3 z3 (k0 + z1.length + z2.length) _ m2 hi (by omega) (by omega) (by have := HL.out; omega) HL.out.2.2 HQ3.out).mono ?_
  rintro e w3 ⟨rfl, hr3, hw3⟩
  have HW3 : Hid (Within lo hi (w.alloc (.cells #[.slice a1 n1 c1, .slice a2 n2 c2, .slice a3 n3 c3] 51)) w3) := HW2.out.tr (hw3.wide (Nat.le_trans I0.out.lo1 I0.out.m12) (Nat.le_refl _))
  have HI : Hid (ScIn w3 lo hi a1 a2 a3 n1 n2 n3 (marksL k0 z1.length) (marksL (k0 + z1.length) z2.length) (marksL (k0 + z1.length + z2.length) z3.length) m1 m2) := by
    refine ⟨by rw [marks_length]; exact HL.out.1, by rw [marks_length]; exact HL.out.2.1, by rw [marks_length]; exact HL.out.2.2, I0.out.lo1, I0.out.m12, I0.out.hi2, ?_, HQ1.out.apart hw3 (.inl I0.out.m12), HQ2.out.apart hw3 (.inl (Nat.le_refl _)), hr3⟩
    rw [HW3.out.size]
    exact I0.out.top
  clear hr3 hw3 HQ1 HQ2 HQ3 HW2 p2 I0
  go_wp2
  go_ret
  exact ⟨ret_intM rfl, HI.out, _, bel0 _ _, HW3.out⟩

set_option maxRecDepth 100000 in
set_option maxHeartbeats 4000000 in
theorem heldScene_any (a1 a2 a3 : Option Addr) (n1 n2 n3 c1 c2 c3 : Nat) (k0 : Int) (w : World) (hn : n1 + n2 + n3 ≤ 1048576) (h0 : 1 ≤ k0) (h1 : k0 ≤ 1048576) (hr1 : RowAt .u32 w a1 (marksL k0 (n1 * 9))) (hr2 : RowAt .u32 w a2 (marksL (k0 + ((n1 * 9 : Nat) : Int)) (n2 * 6))) (hr3 : RowAt .u32 w a3 (marksL (k0 + ((n1 * 9 : Nat) : Int) + ((n2 * 6 : Nat) : Int)) (n3 * 3))) :
    Calls Try.prog 29 #[.agg #[.slice a1 n1 c1, .slice a2 n2 c2, .slice a3 n3 c3], .int .i64 k0] w fun e w' => e = .returned (.int .i64 (k0 + ((n1 * 9 : Nat) : Int) + ((n2 * 6 : Nat) : Int) + ((n3 * 3 : Nat) : Int))) ∧ Below w.heap.size w w' := by
  have HR1 : Hid (RowAt .u32 w a1 (marksL k0 (n1 * 9))) := hr1
  have HR2 : Hid (RowAt .u32 w a2 (marksL (k0 + ((n1 * 9 : Nat) : Int)) (n2 * 6))) := hr2
  have HR3 : Hid (RowAt .u32 w a3 (marksL (k0 + ((n1 * 9 : Nat) : Int) + ((n2 * 6 : Nat) : Int)) (n3 * 3))) := hr3
  clear hr1 hr2 hr3
  go_enter Try.func29, Try.ntmps29
  go_wp2_with fail
  refine (heldTriS_any a1 n1 c1 k0 _ (by omega) h0 (by omega) (HR1.out.later (bel0 _ _))).mono ?_
  rintro e w1 ⟨rfl, hb1⟩
  have p1 : w1.cell? ⟨w.heap.size, 1, none⟩ = some (.slice a2 n2 c2) := by rw [(bcell hb1).1 _ _ (by simp)]; simp [go_sem]
  have p2 : w1.cell? ⟨w.heap.size, 2, none⟩ = some (.slice a3 n3 c3) := by rw [(bcell hb1).1 _ _ (by simp)]; simp [go_sem]
  have S1 : w.heap.size < w1.heap.size := by have := hb1.size; simp at this; omega
  have HB1 : Hid (Below w.heap.size w w1) := (bel0 _ _).trans (hb1.mono (by simp))
  have hneg1 : ¬ k0 + ((n1 * 9 : Nat) : Int) < 0 := by omega
  obtain ⟨K1, hK1⟩ : ∃ K1, K1 = k0 + ((n1 * 9 : Nat) : Int) := ⟨_, rfl⟩
  have hK1a : 1 ≤ K1 := by omega
  have hK1b : K1 ≤ 1048576 + n1 * 9 := by omega
  rw [← hK1] at hneg1 HR2 HR3 ⊢
  have HK1 : Hid (K1 = k0 + ((n1 * 9 : Nat) : Int)) := hK1
  clear hb1 hK1
  go_wp2_with fail
  refine (heldRayS_any a2 n2 c2 K1 _ (by omega) (by omega) (by omega) (HR2.out.later HB1.out)).mono ?_
  rintro e w2 ⟨rfl, hb2⟩
  replace p2 := ((bcell hb2).1 _ _ S1).trans p2
  have HB2 : Hid (Below w.heap.size w w2) := HB1.out.trans (hb2.mono HB1.out.size)
  have hneg2 : ¬ K1 + ((n2 * 6 : Nat) : Int) < 0 := by omega
  obtain ⟨K2, hK2⟩ : ∃ K2, K2 = K1 + ((n2 * 6 : Nat) : Int) := ⟨_, rfl⟩
  have hK2a : 1 ≤ K2 := by omega
  have hK2b : K2 ≤ 1048576 + n1 * 9 + n2 * 6 := by omega
  rw [← hK2] at hneg2 HR3 ⊢
  have HK2 : Hid (K2 = K1 + ((n2 * 6 : Nat) : Int)) := hK2
  clear hb2 hK2 p1 HB1
  go_wp2_with fail
  refine (heldPointS_any a3 n3 c3 K2 _ (by omega) (by omega) (by omega) (HR3.out.later HB2.out)).mono ?_
  rintro e w3 ⟨rfl, hb3⟩
  have HB3 : Hid (Below w.heap.size w w3) := HB2.out.trans (hb3.mono HB2.out.size)
  have hneg3 : ¬ K2 + ((n3 * 3 : Nat) : Int) < 0 := by omega
  clear hb3 HB2 p2
  go_wp2
  go_ret
  exact ⟨ret_intM (by have := HK1.out; have := HK2.out; omega), HB3.out⟩

theorem LwS.within {w W W' : World} {a1 a2 a3 : Option Addr} {n1 n2 n3 c1 c2 c3 lo hi : Nat} {z1 z2 z3 : List Int} (h : LwS w a1 a2 a3 n1 n2 n3 c1 c2 c3 z1 z2 z3 W) (hs : ScAt w a1 a2 a3 n1 n2 n3 z1 z2 z3) (hw : Within lo hi W W') (hl : w.heap.size < lo) : LwS w a1 a2 a3 n1 n2 n3 c1 c2 c3 z1 z2 z3 W' := by
  have hb : Below w.heap.size w W' := h.bel.trans (hw.below.mono (by omega))
  exact ⟨⟨by rw [hw.size]; exact h.bx.lt, (hw.cell (p := ⟨w.heap.size, 0, none⟩) (.inl hl)).trans h.bx.q0, (hw.cell (p := ⟨w.heap.size, 1, none⟩) (.inl hl)).trans h.bx.q1, (hw.cell (p := ⟨w.heap.size, 2, none⟩) (.inl hl)).trans h.bx.q2⟩, hs.later hb, hb⟩

end Go.Proofs.Ytcjdnomhnlbmbaa
