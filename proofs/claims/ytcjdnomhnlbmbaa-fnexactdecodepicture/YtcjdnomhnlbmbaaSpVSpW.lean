/-
  What a scene must be to be valid, and the model's tests of it.
-/
import Derived.Test.YtcjdnomhnlbmbaaScSNumS
import Derived.Test.YtcjdnomhnlbmbaaNumZToNumF
namespace Go.Proofs.Ytcjdnomhnlbmbaa
open Go.RowKit

/-- A zero of either sign. -/
def zeroB (x : Int) : Bool := x % 2147483648 == 0
def pointB (x y z : Int) : Bool := fFin x && fFin y && fFin z
def noWayB (x y z : Int) : Bool := zeroB x && zeroB y && zeroB z
def triAt (zs : List Int) (i : Nat) : Bool := pointB (zs.getD (i * 9) 0) (zs.getD (i * 9 + 1) 0) (zs.getD (i * 9 + 2) 0) && pointB (zs.getD (i * 9 + 3) 0) (zs.getD (i * 9 + 4) 0) (zs.getD (i * 9 + 5) 0) && pointB (zs.getD (i * 9 + 6) 0) (zs.getD (i * 9 + 7) 0) (zs.getD (i * 9 + 8) 0)
def rayAt (zs : List Int) (i : Nat) : Bool := pointB (zs.getD (i * 6) 0) (zs.getD (i * 6 + 1) 0) (zs.getD (i * 6 + 2) 0) && pointB (zs.getD (i * 6 + 3) 0) (zs.getD (i * 6 + 4) 0) (zs.getD (i * 6 + 5) 0) && !(noWayB (zs.getD (i * 6 + 3) 0) (zs.getD (i * 6 + 4) 0) (zs.getD (i * 6 + 5) 0))
def ptAt (zs : List Int) (i : Nat) : Bool := pointB (zs.getD (i * 3) 0) (zs.getD (i * 3 + 1) 0) (zs.getD (i * 3 + 2) 0)
def validSc (n1 n2 n3 : Nat) (z1 z2 z3 : List Int) : Bool :=
  (decide (n1 ≤ 40) && (List.range n1).all (triAt z1)) && decide (n2 ≤ 40) && decide (n3 ≤ 4) && (List.range n2).all (rayAt z2) && (List.range n3).all (ptAt z3)

theorem all_range_succ (P : Nat → Bool) (i : Nat) : (List.range (i + 1)).all P = ((List.range i).all P && P i) := by
  rw [List.range_succ, List.all_append]
  simp
theorem all_range_false {P : Nat → Bool} {i n : Nat} (hi : i < n) (h : P i = false) : (List.range n).all P = false := by
  rw [List.all_eq_false]
  exact ⟨i, List.mem_range.2 hi, by simp [h]⟩

theorem finV_any (x : Int) (w : World) (xa : 0 ≤ x) (xb : x < 4294967296) :
    Calls Try.prog 88 #[.int .u32 x] w fun e w' => e = .returned (.bool (fFin x)) ∧ w' = w := by
  go_enter Try.func88, Try.ntmps88
  go_wp2
  go_ret
  exact ⟨by unfold fFin; rfl, rfl⟩

theorem zeroV_any (x : Int) (w : World) (xa : 0 ≤ x) (xb : x < 4294967296) :
    Calls Try.prog 108 #[.int .u32 x] w fun e w' => e = .returned (.bool (zeroB x)) ∧ w' = w := by
  go_enter Try.func108, Try.ntmps108
  go_wp2
  go_ret
  exact ⟨by unfold zeroB; rfl, rfl⟩

set_option maxHeartbeats 2000000 in
theorem pointV_any (x y z : Int) (w : World) (xa : 0 ≤ x) (xb : x < 4294967296) (ya : 0 ≤ y) (yb : y < 4294967296) (za : 0 ≤ z) (zb : z < 4294967296) :
    Calls Try.prog 56 #[.agg #[.int .u32 x, .int .u32 y, .int .u32 z]] w fun e w' => e = .returned (.bool (pointB x y z)) ∧ Below w.heap.size w w' := by
  go_enter Try.func56, Try.ntmps56
  go_wp2_with fail
  refine (finV_any x _ xa xb).mono ?_
  rintro e w1 ⟨rfl, rfl⟩
  cases hx : fFin x
  · go_wp2
    go_ret
    exact ⟨by simp [pointB, hx], bel0 _ _⟩
  · go_wp2_with fail
    refine (finV_any y _ ya yb).mono ?_
    rintro e w2 ⟨rfl, rfl⟩
    cases hy : fFin y
    · go_wp2
      go_ret
      exact ⟨by simp [pointB, hx, hy], bel0 _ _⟩
    · go_wp2_with fail
      refine (finV_any z _ za zb).mono ?_
      rintro e w3 ⟨rfl, rfl⟩
      go_wp2
      go_ret
      exact ⟨by simp [pointB, hx, hy], bel0 _ _⟩

set_option maxHeartbeats 2000000 in
theorem noWayV_any (x y z : Int) (w : World) (xa : 0 ≤ x) (xb : x < 4294967296) (ya : 0 ≤ y) (yb : y < 4294967296) (za : 0 ≤ z) (zb : z < 4294967296) :
    Calls Try.prog 87 #[.agg #[.int .u32 x, .int .u32 y, .int .u32 z]] w fun e w' => e = .returned (.bool (noWayB x y z)) ∧ Below w.heap.size w w' := by
  go_enter Try.func87, Try.ntmps87
  go_wp2_with fail
  refine (zeroV_any x _ xa xb).mono ?_
  rintro e w1 ⟨rfl, rfl⟩
  cases hx : zeroB x
  · go_wp2
    go_ret
    exact ⟨by simp [noWayB, hx], bel0 _ _⟩
  · go_wp2_with fail
    refine (zeroV_any y _ ya yb).mono ?_
    rintro e w2 ⟨rfl, rfl⟩
    cases hy : zeroB y
    · go_wp2
      go_ret
      exact ⟨by simp [noWayB, hx, hy], bel0 _ _⟩
    · go_wp2_with fail
      refine (zeroV_any z _ za zb).mono ?_
      rintro e w3 ⟨rfl, rfl⟩
      go_wp2
      go_ret
      exact ⟨by simp [noWayB, hx, hy], bel0 _ _⟩

set_option maxHeartbeats 4000000 in
theorem triV_any (x0 x1 x2 x3 x4 x5 x6 x7 x8 : Int) (w : World) (x0a : 0 ≤ x0) (x0b : x0 < 4294967296) (x1a : 0 ≤ x1) (x1b : x1 < 4294967296) (x2a : 0 ≤ x2) (x2b : x2 < 4294967296) (x3a : 0 ≤ x3) (x3b : x3 < 4294967296) (x4a : 0 ≤ x4) (x4b : x4 < 4294967296) (x5a : 0 ≤ x5) (x5b : x5 < 4294967296) (x6a : 0 ≤ x6) (x6b : x6 < 4294967296) (x7a : 0 ≤ x7) (x7b : x7 < 4294967296) (x8a : 0 ≤ x8) (x8b : x8 < 4294967296) :
    Calls Try.prog 86 #[.agg #[.int .u32 x0, .int .u32 x1, .int .u32 x2, .int .u32 x3, .int .u32 x4, .int .u32 x5, .int .u32 x6, .int .u32 x7, .int .u32 x8]] w fun e w' => e = .returned (.bool (pointB x0 x1 x2 && pointB x3 x4 x5 && pointB x6 x7 x8)) ∧ Below w.heap.size w w' := by
  go_enter Try.func86, Try.ntmps86
  go_wp2_with fail
  refine (pointV_any x0 x1 x2 _ x0a x0b x1a x1b x2a x2b).mono ?_
  rintro e w1 ⟨rfl, hb1⟩
  have c3 : w1.cell? ⟨w.heap.size, 3, none⟩ = some (.int .u32 x3) := by rw [(bcell hb1).1 _ _ (by simp)]; simp [go_sem]
  have c4 : w1.cell? ⟨w.heap.size, 4, none⟩ = some (.int .u32 x4) := by rw [(bcell hb1).1 _ _ (by simp)]; simp [go_sem]
  have c5 : w1.cell? ⟨w.heap.size, 5, none⟩ = some (.int .u32 x5) := by rw [(bcell hb1).1 _ _ (by simp)]; simp [go_sem]
  have c6 : w1.cell? ⟨w.heap.size, 6, none⟩ = some (.int .u32 x6) := by rw [(bcell hb1).1 _ _ (by simp)]; simp [go_sem]
  have c7 : w1.cell? ⟨w.heap.size, 7, none⟩ = some (.int .u32 x7) := by rw [(bcell hb1).1 _ _ (by simp)]; simp [go_sem]
  have c8 : w1.cell? ⟨w.heap.size, 8, none⟩ = some (.int .u32 x8) := by rw [(bcell hb1).1 _ _ (by simp)]; simp [go_sem]
  have B1 : Below w.heap.size w w1 := (bel0 _ _).trans (hb1.mono (by simp))
  have S1 : w.heap.size < w1.heap.size := by have := hb1.size; simp at this; omega
  have HB1 : Hid (Below w.heap.size w w1) := B1
  clear hb1 B1
  cases h1 : pointB x0 x1 x2
  · go_wp2
    go_ret
    exact ⟨by simp [h1], HB1.out⟩
  · go_wp2_with fail
    refine (pointV_any x3 x4 x5 _ x3a x3b x4a x4b x5a x5b).mono ?_
    rintro e w2 ⟨rfl, hb2⟩
    replace c6 := ((bcell hb2).1 _ _ S1).trans c6
    replace c7 := ((bcell hb2).1 _ _ S1).trans c7
    replace c8 := ((bcell hb2).1 _ _ S1).trans c8
    have HB2 : Hid (Below w.heap.size w w2) := HB1.out.trans (hb2.mono HB1.out.size)
    clear hb2
    cases h2 : pointB x3 x4 x5
    · go_wp2
      go_ret
      exact ⟨by simp [h1, h2], HB2.out⟩
    · go_wp2_with fail
      refine (pointV_any x6 x7 x8 _ x6a x6b x7a x7b x8a x8b).mono ?_
      rintro e w3 ⟨rfl, hb3⟩
      have HB3 : Hid (Below w.heap.size w w3) := HB2.out.trans (hb3.mono HB2.out.size)
      clear hb3
      go_wp2
      go_ret
      exact ⟨by simp [h1, h2], HB3.out⟩

set_option maxHeartbeats 4000000 in
theorem rayV_any (x0 x1 x2 x3 x4 x5 : Int) (w : World) (x0a : 0 ≤ x0) (x0b : x0 < 4294967296) (x1a : 0 ≤ x1) (x1b : x1 < 4294967296) (x2a : 0 ≤ x2) (x2b : x2 < 4294967296) (x3a : 0 ≤ x3) (x3b : x3 < 4294967296) (x4a : 0 ≤ x4) (x4b : x4 < 4294967296) (x5a : 0 ≤ x5) (x5b : x5 < 4294967296) :
    Calls Try.prog 55 #[.agg #[.int .u32 x0, .int .u32 x1, .int .u32 x2, .int .u32 x3, .int .u32 x4, .int .u32 x5]] w fun e w' => e = .returned (.bool (pointB x0 x1 x2 && pointB x3 x4 x5 && !(noWayB x3 x4 x5))) ∧ Below w.heap.size w w' := by
  go_enter Try.func55, Try.ntmps55
  go_wp2_with fail
  refine (pointV_any x0 x1 x2 _ x0a x0b x1a x1b x2a x2b).mono ?_
  rintro e w1 ⟨rfl, hb1⟩
  have c3 : w1.cell? ⟨w.heap.size, 3, none⟩ = some (.int .u32 x3) := by rw [(bcell hb1).1 _ _ (by simp)]; simp [go_sem]
  have c4 : w1.cell? ⟨w.heap.size, 4, none⟩ = some (.int .u32 x4) := by rw [(bcell hb1).1 _ _ (by simp)]; simp [go_sem]
  have c5 : w1.cell? ⟨w.heap.size, 5, none⟩ = some (.int .u32 x5) := by rw [(bcell hb1).1 _ _ (by simp)]; simp [go_sem]
  have B1 : Below w.heap.size w w1 := (bel0 _ _).trans (hb1.mono (by simp))
  have S1 : w.heap.size < w1.heap.size := by have := hb1.size; simp at this; omega
  have HB1 : Hid (Below w.heap.size w w1) := B1
  clear hb1 B1
  cases h1 : pointB x0 x1 x2
  · go_wp2
    go_ret
    exact ⟨by simp [h1], HB1.out⟩
  · go_wp2_with fail
    refine (pointV_any x3 x4 x5 _ x3a x3b x4a x4b x5a x5b).mono ?_
    rintro e w2 ⟨rfl, hb2⟩
    replace c3 := ((bcell hb2).1 _ _ S1).trans c3
    replace c4 := ((bcell hb2).1 _ _ S1).trans c4
    replace c5 := ((bcell hb2).1 _ _ S1).trans c5
    have HB2 : Hid (Below w.heap.size w w2) := HB1.out.trans (hb2.mono HB1.out.size)
    clear hb2
    cases h2 : pointB x3 x4 x5
    · go_wp2
      go_ret
      exact ⟨by simp [h1, h2], HB2.out⟩
    · go_wp2_with fail
      refine (noWayV_any x3 x4 x5 _ x3a x3b x4a x4b x5a x5b).mono ?_
      rintro e w3 ⟨rfl, hb3⟩
      have HB3 : Hid (Below w.heap.size w w3) := HB2.out.trans (hb3.mono HB2.out.size)
      clear hb3
      go_wp2
      go_ret
      exact ⟨by simp [h1, h2], HB3.out⟩

set_option maxRecDepth 100000 in
set_option maxHeartbeats 4000000 in
theorem trisV_any (a : Option Addr) (n c : Nat) (zs : List Int) (w : World) (hn : n ≤ 1048576) (hl : zs.length = n * 9) (hu : U32 zs) (hz : RowAt .u32 w a zs) :
    Calls Try.prog 54 #[.slice a n c] w fun e w' => e = .returned (.bool (decide (n ≤ 40) && (List.range n).all (triAt zs))) ∧ Below w.heap.size w w' := by
  have HL : Hid (zs.length = n * 9) := hl
  have HZ : Hid (RowAt .u32 w a zs) := hz
  have HU : Hid (U32 zs) := hu
  clear hl hz hu
  by_cases hn4 : n ≤ 40
  · have hng : ¬ (40 : Int) < n := by omega
    go_enter Try.func54, Try.ntmps54
    go_wp2
    go_loopw [3] (fun si wr => ∃ (i : Nat), i ≤ n ∧ si = .int .i64 i ∧ Hid ((List.range i).all (triAt zs) = true) ∧ Hid (Below w.heap.size w wr)) (fun si _ => n - (intOf si).toNat)
    case atStart => exact ⟨0, Nat.zero_le _, rfl, rfl, Below.refl _ _⟩
    case round =>
      obtain ⟨i, hi, rfl, hA, hb⟩ := hrel
      by_cases hlt : i < n
      · have hle : ∀ j, j < 9 → i * 9 + j < zs.length := by intro j hj; rw [HL.out]; omega
        obtain ⟨b, off, rfl, hbl, hc⟩ := HZ.out.resolve_left (by intro h; have := hle 0 (by omega); rw [h] at this; simp at this)
        have HT : Hid (triAt zs i = triAt zs i) := rfl
        obtain ⟨x0, hx0⟩ : ∃ x, x = zs.getD (i * 9) 0 := ⟨_, rfl⟩
        have q0 : wr.cell? ⟨b, off + i * 9, none⟩ = some (.int .u32 x0) := by
          have := (hb.out.cell (p := ⟨b, off + (i * 9 + 0), none⟩) hbl).trans (hc (i * 9 + 0) (hle 0 (by omega)))
          rw [hx0]
          simpa [Nat.add_assoc] using this
        have x0a : 0 ≤ x0 := by rw [hx0]; exact (HU.out.at _).1
        have x0b : x0 < 4294967296 := by rw [hx0]; exact (HU.out.at _).2
        obtain ⟨x1, hx1⟩ : ∃ x, x = zs.getD (i * 9 + 1) 0 := ⟨_, rfl⟩
        have q1 : wr.cell? ⟨b, off + i * 9 + 1, none⟩ = some (.int .u32 x1) := by
          have := (hb.out.cell (p := ⟨b, off + (i * 9 + 1), none⟩) hbl).trans (hc (i * 9 + 1) (hle 1 (by omega)))
          rw [hx1]
          simpa [Nat.add_assoc] using this
        have x1a : 0 ≤ x1 := by rw [hx1]; exact (HU.out.at _).1
        have x1b : x1 < 4294967296 := by rw [hx1]; exact (HU.out.at _).2
        obtain ⟨x2, hx2⟩ : ∃ x, x = zs.getD (i * 9 + 2) 0 := ⟨_, rfl⟩
        have q2 : wr.cell? ⟨b, off + i * 9 + 2, none⟩ = some (.int .u32 x2) := by
          have := (hb.out.cell (p := ⟨b, off + (i * 9 + 2), none⟩) hbl).trans (hc (i * 9 + 2) (hle 2 (by omega)))
          rw [hx2]
          simpa [Nat.add_assoc] using this
        have x2a : 0 ≤ x2 := by rw [hx2]; exact (HU.out.at _).1
        have x2b : x2 < 4294967296 := by rw [hx2]; exact (HU.out.at _).2
        obtain ⟨x3, hx3⟩ : ∃ x, x = zs.getD (i * 9 + 3) 0 := ⟨_, rfl⟩
        have q3 : wr.cell? ⟨b, off + i * 9 + 3, none⟩ = some (.int .u32 x3) := by
          have := (hb.out.cell (p := ⟨b, off + (i * 9 + 3), none⟩) hbl).trans (hc (i * 9 + 3) (hle 3 (by omega)))
          rw [hx3]
          simpa [Nat.add_assoc] using this
        have x3a : 0 ≤ x3 := by rw [hx3]; exact (HU.out.at _).1
        have x3b : x3 < 4294967296 := by rw [hx3]; exact (HU.out.at _).2
        obtain ⟨x4, hx4⟩ : ∃ x, x = zs.getD (i * 9 + 4) 0 := ⟨_, rfl⟩
        have q4 : wr.cell? ⟨b, off + i * 9 + 4, none⟩ = some (.int .u32 x4) := by
          have := (hb.out.cell (p := ⟨b, off + (i * 9 + 4), none⟩) hbl).trans (hc (i * 9 + 4) (hle 4 (by omega)))
          rw [hx4]
          simpa [Nat.add_assoc] using this
        have x4a : 0 ≤ x4 := by rw [hx4]; exact (HU.out.at _).1
        have x4b : x4 < 4294967296 := by rw [hx4]; exact (HU.out.at _).2
        obtain ⟨x5, hx5⟩ : ∃ x, x = zs.getD (i * 9 + 5) 0 := ⟨_, rfl⟩
        have q5 : wr.cell? ⟨b, off + i * 9 + 5, none⟩ = some (.int .u32 x5) := by
          have := (hb.out.cell (p := ⟨b, off + (i * 9 + 5), none⟩) hbl).trans (hc (i * 9 + 5) (hle 5 (by omega)))
          rw [hx5]
          simpa [Nat.add_assoc] using this
        have x5a : 0 ≤ x5 := by rw [hx5]; exact (HU.out.at _).1
        have x5b : x5 < 4294967296 := by rw [hx5]; exact (HU.out.at _).2
        obtain ⟨x6, hx6⟩ : ∃ x, x = zs.getD (i * 9 + 6) 0 := ⟨_, rfl⟩
        have q6 : wr.cell? ⟨b, off + i * 9 + 6, none⟩ = some (.int .u32 x6) := by
          have := (hb.out.cell (p := ⟨b, off + (i * 9 + 6), none⟩) hbl).trans (hc (i * 9 + 6) (hle 6 (by omega)))
          rw [hx6]
          simpa [Nat.add_assoc] using this
        have x6a : 0 ≤ x6 := by rw [hx6]; exact (HU.out.at _).1
        have x6b : x6 < 4294967296 := by rw [hx6]; exact (HU.out.at _).2
        obtain ⟨x7, hx7⟩ : ∃ x, x = zs.getD (i * 9 + 7) 0 := ⟨_, rfl⟩
        have q7 : wr.cell? ⟨b, off + i * 9 + 7, none⟩ = some (.int .u32 x7) := by
          have := (hb.out.cell (p := ⟨b, off + (i * 9 + 7), none⟩) hbl).trans (hc (i * 9 + 7) (hle 7 (by omega)))
          rw [hx7]
          simpa [Nat.add_assoc] using this
        have x7a : 0 ≤ x7 := by rw [hx7]; exact (HU.out.at _).1
        have x7b : x7 < 4294967296 := by rw [hx7]; exact (HU.out.at _).2
        obtain ⟨x8, hx8⟩ : ∃ x, x = zs.getD (i * 9 + 8) 0 := ⟨_, rfl⟩
        have q8 : wr.cell? ⟨b, off + i * 9 + 8, none⟩ = some (.int .u32 x8) := by
          have := (hb.out.cell (p := ⟨b, off + (i * 9 + 8), none⟩) hbl).trans (hc (i * 9 + 8) (hle 8 (by omega)))
          rw [hx8]
          simpa [Nat.add_assoc] using this
        have x8a : 0 ≤ x8 := by rw [hx8]; exact (HU.out.at _).1
        have x8b : x8 < 4294967296 := by rw [hx8]; exact (HU.out.at _).2
        have HX : Hid (triAt zs i = (pointB x0 x1 x2 && pointB x3 x4 x5 && pointB x6 x7 x8)) := by unfold Hid; rw [hx0, hx1, hx2, hx3, hx4, hx5, hx6, hx7, hx8]; rfl
        have hib : (i : Int) < n := by omega
        clear hc hle HT hx0 hx1 hx2 hx3 hx4 hx5 hx6 hx7 hx8
        go_wp2_with fail
        refine (triV_any x0 x1 x2 x3 x4 x5 x6 x7 x8 _ x0a x0b x1a x1b x2a x2b x3a x3b x4a x4b x5a x5b x6a x6b x7a x7b x8a x8b).mono ?_
        rintro e w1 ⟨rfl, hb1⟩
        have HB1 : Hid (Below w.heap.size w w1) := hb.out.trans (hb1.mono hb.out.size)
        clear hb1 hb q0 x0a x0b q1 x1a x1b q2 x2a x2b q3 x3a x3b q4 x4a x4b q5 x5a x5b q6 x6a x6b q7 x7a x7b q8 x8a x8b
        rw [← HX.out]
        cases hT : triAt zs i
        · go_wp2
          go_ret
          exact ⟨ret_bool (by rw [all_range_false hlt hT]; simp), HB1.out⟩
        · go_wp2
          go_roundw
          case rel => exact ⟨i + 1, by omega, by go_num, by unfold Hid; rw [all_range_succ, hA.out, hT]; rfl, HB1⟩
          case measure => simp [intOf]; omega
      · have hie : i = n := by omega
        subst hie
        have HA := hA.out
        go_wp2
        go_ret
        exact ⟨ret_bool (by rw [HA]; simp [hn4]), hb.out⟩
  · have hng : (40 : Int) < n := by omega
    go_enter Try.func54, Try.ntmps54
    go_wp2
    go_ret
    exact ⟨ret_bool (by simp [hn4]), Below.refl _ _⟩

end Go.Proofs.Ytcjdnomhnlbmbaa

/-
  The model's ValidScene.
-/
namespace Go.Proofs.Ytcjdnomhnlbmbaa
open Go.RowKit

set_option maxRecDepth 100000 in
set_option maxHeartbeats 8000000 in
theorem validV_any (a1 a2 a3 : Option Addr) (n1 n2 n3 c1 c2 c3 : Nat) (z1 z2 z3 : List Int) (w : World) (hn : n1 + n2 + n3 ≤ 1048576) (hs : ScAt w a1 a2 a3 n1 n2 n3 z1 z2 z3) (hu1 : U32 z1) (hu2 : U32 z2) (hu3 : U32 z3) :
    Calls Try.prog 22 #[.agg #[.slice a1 n1 c1, .slice a2 n2 c2, .slice a3 n3 c3]] w fun e w' => e = .returned (.bool (validSc n1 n2 n3 z1 z2 z3)) ∧ Below w.heap.size w w' := by
  have HSC : Hid (ScAt w a1 a2 a3 n1 n2 n3 z1 z2 z3) := hs
  have HU1 : Hid (U32 z1) := hu1
  have HU2 : Hid (U32 z2) := hu2
  have HU3 : Hid (U32 z3) := hu3
  clear hs hu1 hu2 hu3
  go_enter Try.func22, Try.ntmps22
  go_wp2_with fail
  refine (trisV_any a1 n1 c1 z1 _ (by omega) HSC.out.l1 HU1.out (HSC.out.r1.later (bel0 _ _))).mono ?_
  rintro e W ⟨rfl, hb1⟩
  have P1 : Hid (W.cell? ⟨w.heap.size, 1, none⟩ = some (.slice a2 n2 c2)) := by unfold Hid; rw [(bcell hb1).1 _ _ (by simp)]; simp [go_sem]
  have P2 : Hid (W.cell? ⟨w.heap.size, 2, none⟩ = some (.slice a3 n3 c3)) := by unfold Hid; rw [(bcell hb1).1 _ _ (by simp)]; simp [go_sem]
  have HW0 : Hid (Below w.heap.size w W) := (bel0 _ _).trans (hb1.mono (by simp))
  have SW : Hid (w.heap.size < W.heap.size) := by unfold Hid; have := hb1.size; simp at this; omega
  have p1 := P1.out
  have p2 := P2.out
  clear hb1
  cases hT1 : (decide (n1 ≤ 40) && (List.range n1).all (triAt z1))
  · go_wp2
    go_ret
    exact ⟨ret_bool (by unfold validSc; rw [hT1]; rfl), HW0.out⟩
  · by_cases hn2 : n2 ≤ 40
    · have hng2 : ¬ (40 : Int) < n2 := by omega
      by_cases hn3 : n3 ≤ 4
      · have hng3 : ¬ (4 : Int) < n3 := by omega
        go_wp2
        clear p1 p2
        go_loopw [3] (fun si wr => ∃ (i : Nat), i ≤ n2 ∧ si = .int .i64 i ∧ Hid ((List.range i).all (rayAt z2) = true) ∧ Hid (Below W.heap.size W wr)) (fun si _ => n2 - (intOf si).toNat)
        case atStart => exact ⟨0, Nat.zero_le _, rfl, rfl, Below.refl _ _⟩
        case round =>
          obtain ⟨i, hi, rfl, hA, hb⟩ := hrel
          have HZ : Hid (RowAt .u32 wr a2 z2) := (HSC.out.r2.later HW0.out).later hb.out
          have p : wr.cell? ⟨w.heap.size, 1, none⟩ = some (.slice a2 n2 c2) := ((bcell hb.out).1 _ _ SW.out).trans P1.out
          by_cases hlt : i < n2
          · have hle : ∀ j, j < 6 → i * 6 + j < z2.length := by intro j hj; rw [HSC.out.l2]; omega
            obtain ⟨b, off, rfl, hbl, hc⟩ := HZ.out.resolve_left (by intro h; have := hle 0 (by omega); rw [h] at this; simp at this)
            obtain ⟨x0, hx0⟩ : ∃ x, x = z2.getD (i * 6) 0 := ⟨_, rfl⟩
            have q0 : wr.cell? ⟨b, off + i * 6, none⟩ = some (.int .u32 x0) := by
              have := hc (i * 6 + 0) (hle 0 (by omega))
              rw [hx0]
              simpa [Nat.add_assoc] using this
            have x0a : 0 ≤ x0 := by rw [hx0]; exact (HU2.out.at _).1
            have x0b : x0 < 4294967296 := by rw [hx0]; exact (HU2.out.at _).2
            obtain ⟨x1, hx1⟩ : ∃ x, x = z2.getD (i * 6 + 1) 0 := ⟨_, rfl⟩
            have q1 : wr.cell? ⟨b, off + i * 6 + 1, none⟩ = some (.int .u32 x1) := by
              have := hc (i * 6 + 1) (hle 1 (by omega))
              rw [hx1]
              simpa [Nat.add_assoc] using this
            have x1a : 0 ≤ x1 := by rw [hx1]; exact (HU2.out.at _).1
            have x1b : x1 < 4294967296 := by rw [hx1]; exact (HU2.out.at _).2
            obtain ⟨x2, hx2⟩ : ∃ x, x = z2.getD (i * 6 + 2) 0 := ⟨_, rfl⟩
            have q2 : wr.cell? ⟨b, off + i * 6 + 2, none⟩ = some (.int .u32 x2) := by
              have := hc (i * 6 + 2) (hle 2 (by omega))
              rw [hx2]
              simpa [Nat.add_assoc] using this
            have x2a : 0 ≤ x2 := by rw [hx2]; exact (HU2.out.at _).1
            have x2b : x2 < 4294967296 := by rw [hx2]; exact (HU2.out.at _).2
            obtain ⟨x3, hx3⟩ : ∃ x, x = z2.getD (i * 6 + 3) 0 := ⟨_, rfl⟩
            have q3 : wr.cell? ⟨b, off + i * 6 + 3, none⟩ = some (.int .u32 x3) := by
              have := hc (i * 6 + 3) (hle 3 (by omega))
              rw [hx3]
              simpa [Nat.add_assoc] using this
            have x3a : 0 ≤ x3 := by rw [hx3]; exact (HU2.out.at _).1
            have x3b : x3 < 4294967296 := by rw [hx3]; exact (HU2.out.at _).2
            obtain ⟨x4, hx4⟩ : ∃ x, x = z2.getD (i * 6 + 4) 0 := ⟨_, rfl⟩
            have q4 : wr.cell? ⟨b, off + i * 6 + 4, none⟩ = some (.int .u32 x4) := by
              have := hc (i * 6 + 4) (hle 4 (by omega))
              rw [hx4]
              simpa [Nat.add_assoc] using this
            have x4a : 0 ≤ x4 := by rw [hx4]; exact (HU2.out.at _).1
            have x4b : x4 < 4294967296 := by rw [hx4]; exact (HU2.out.at _).2
            obtain ⟨x5, hx5⟩ : ∃ x, x = z2.getD (i * 6 + 5) 0 := ⟨_, rfl⟩
            have q5 : wr.cell? ⟨b, off + i * 6 + 5, none⟩ = some (.int .u32 x5) := by
              have := hc (i * 6 + 5) (hle 5 (by omega))
              rw [hx5]
              simpa [Nat.add_assoc] using this
            have x5a : 0 ≤ x5 := by rw [hx5]; exact (HU2.out.at _).1
            have x5b : x5 < 4294967296 := by rw [hx5]; exact (HU2.out.at _).2
            have HX : Hid (rayAt z2 i = (pointB x0 x1 x2 && pointB x3 x4 x5 && !(noWayB x3 x4 x5))) := by unfold Hid; rw [hx0, hx1, hx2, hx3, hx4, hx5]; rfl
            have hib : (i : Int) < n2 := by omega
            clear hc hle HZ hx0 hx1 hx2 hx3 hx4 hx5
            go_wp2_with fail
            refine (rayV_any x0 x1 x2 x3 x4 x5 _ x0a x0b x1a x1b x2a x2b x3a x3b x4a x4b x5a x5b).mono ?_
            rintro e w2 ⟨rfl, hb2⟩
            have HB2 : Hid (Below W.heap.size W w2) := hb.out.trans (hb2.mono hb.out.size)
            clear hb2 hb q0 x0a x0b q1 x1a x1b q2 x2a x2b q3 x3a x3b q4 x4a x4b q5 x5a x5b
            rw [← HX.out]
            cases hT : rayAt z2 i
            · go_wp2
              go_ret
              exact ⟨ret_bool (by unfold validSc; rw [all_range_false hlt hT]; simp), HW0.out.trans (HB2.out.mono HW0.out.size)⟩
            · go_wp2
              go_roundw
              case rel => exact ⟨i + 1, by omega, by go_num, by unfold Hid; rw [all_range_succ, hA.out, hT]; rfl, HB2⟩
              case measure => simp [intOf]; omega
          · have hie : i = n2 := by omega
            subst hie
            have HR : Hid ((List.range i).all (rayAt z2) = true) := hA
            have HV : Hid (Below w.heap.size w wr) := HW0.out.trans (hb.out.mono HW0.out.size)
            have SV : Hid (w.heap.size < wr.heap.size) := Nat.lt_of_lt_of_le SW.out hb.out.size
            have PV2 : Hid (wr.cell? ⟨w.heap.size, 2, none⟩ = some (.slice a3 n3 c3)) := ((bcell hb.out).1 _ _ SW.out).trans P2.out
            obtain ⟨V, hV⟩ : ∃ V, V = wr := ⟨_, rfl⟩
            rw [← hV] at HV SV PV2
            clear hA HZ
            go_wp2
            rw [← hV]
            clear hV hb p
            go_loopw [4] (fun si wr => ∃ (i : Nat), i ≤ n3 ∧ si = .int .i64 i ∧ Hid ((List.range i).all (ptAt z3) = true) ∧ Hid (Below V.heap.size V wr)) (fun si _ => n3 - (intOf si).toNat)
            case atStart => exact ⟨0, Nat.zero_le _, rfl, rfl, Below.refl _ _⟩
            case round =>
              obtain ⟨i, hi, rfl, hA, hb⟩ := hrel
              have HZ : Hid (RowAt .u32 wr a3 z3) := (HSC.out.r3.later HV.out).later hb.out
              have p : wr.cell? ⟨w.heap.size, 2, none⟩ = some (.slice a3 n3 c3) := ((bcell hb.out).1 _ _ SV.out).trans PV2.out
              by_cases hlt : i < n3
              · have hle : ∀ j, j < 3 → i * 3 + j < z3.length := by intro j hj; rw [HSC.out.l3]; omega
                obtain ⟨b, off, rfl, hbl, hc⟩ := HZ.out.resolve_left (by intro h; have := hle 0 (by omega); rw [h] at this; simp at this)
                obtain ⟨x0, hx0⟩ : ∃ x, x = z3.getD (i * 3) 0 := ⟨_, rfl⟩
                have q0 : wr.cell? ⟨b, off + i * 3, none⟩ = some (.int .u32 x0) := by
                  have := hc (i * 3 + 0) (hle 0 (by omega))
                  rw [hx0]
                  simpa [Nat.add_assoc] using this
                have x0a : 0 ≤ x0 := by rw [hx0]; exact (HU3.out.at _).1
                have x0b : x0 < 4294967296 := by rw [hx0]; exact (HU3.out.at _).2
                obtain ⟨x1, hx1⟩ : ∃ x, x = z3.getD (i * 3 + 1) 0 := ⟨_, rfl⟩
                have q1 : wr.cell? ⟨b, off + i * 3 + 1, none⟩ = some (.int .u32 x1) := by
                  have := hc (i * 3 + 1) (hle 1 (by omega))
                  rw [hx1]
                  simpa [Nat.add_assoc] using this
                have x1a : 0 ≤ x1 := by rw [hx1]; exact (HU3.out.at _).1
                have x1b : x1 < 4294967296 := by rw [hx1]; exact (HU3.out.at _).2
                obtain ⟨x2, hx2⟩ : ∃ x, x = z3.getD (i * 3 + 2) 0 := ⟨_, rfl⟩
                have q2 : wr.cell? ⟨b, off + i * 3 + 2, none⟩ = some (.int .u32 x2) := by
                  have := hc (i * 3 + 2) (hle 2 (by omega))
                  rw [hx2]
                  simpa [Nat.add_assoc] using this
                have x2a : 0 ≤ x2 := by rw [hx2]; exact (HU3.out.at _).1
                have x2b : x2 < 4294967296 := by rw [hx2]; exact (HU3.out.at _).2
                have HX : Hid (ptAt z3 i = (pointB x0 x1 x2)) := by unfold Hid; rw [hx0, hx1, hx2]; rfl
                have hib : (i : Int) < n3 := by omega
                clear hc hle HZ hx0 hx1 hx2
                go_wp2_with fail
                refine (pointV_any x0 x1 x2 _ x0a x0b x1a x1b x2a x2b).mono ?_
                rintro e w2 ⟨rfl, hb2⟩
                have HB2 : Hid (Below V.heap.size V w2) := hb.out.trans (hb2.mono hb.out.size)
                clear hb2 hb q0 x0a x0b q1 x1a x1b q2 x2a x2b
                rw [← HX.out]
                cases hT : ptAt z3 i
                · go_wp2
                  go_ret
                  exact ⟨ret_bool (by unfold validSc; rw [all_range_false hlt hT]; simp), HV.out.trans (HB2.out.mono HV.out.size)⟩
                · go_wp2
                  go_roundw
                  case rel => exact ⟨i + 1, by omega, by go_num, by unfold Hid; rw [all_range_succ, hA.out, hT]; rfl, HB2⟩
                  case measure => simp [intOf]; omega
              · have hie : i = n3 := by omega
                subst hie
                have HA := hA.out
                go_wp2
                go_ret
                exact ⟨ret_bool (by unfold validSc; rw [hT1, HR.out, HA]; simp [hn2, hn3]), HV.out.trans (hb.out.mono HV.out.size)⟩
      · have hng3 : (4 : Int) < n3 := by omega
        go_wp2
        go_ret
        exact ⟨ret_bool (by unfold validSc; simp [hn3]), HW0.out⟩
    · have hng2 : (40 : Int) < n2 := by omega
      go_wp2
      go_ret
      exact ⟨ret_bool (by unfold validSc; simp [hn2]), HW0.out⟩

end Go.Proofs.Ytcjdnomhnlbmbaa
