/-
  The program's tests of points, triangles and rays.
-/
import Derived.Test.YtcjdnomhnlbmbaaSpW
import Derived.Test.YtcjdnomhnlbmbaaIdBFoF
namespace Go.Proofs.Ytcjdnomhnlbmbaa
open Go.RowKit

theorem row_lit (w : World) (xs : List Int) (t : TypeId) : RowAt .u32 (w.alloc (.cells (xs.map (Value.int .u32 ·)).toArray t)) (some ⟨w.heap.size, 0, none⟩) xs := by
  refine .inr ⟨w.heap.size, 0, rfl, by simp, fun j hj => ?_⟩
  simp [List.getD_eq_getElem?_getD, hj]

theorem row_at (w : World) (xs : List Int) (t : TypeId) {X : Nat} (hX : X = w.heap.size) : RowAt .u32 (w.alloc (.cells (xs.map (Value.int .u32 ·)).toArray t)) (some ⟨X, 0, none⟩) xs := by
  subst hX
  exact row_lit w xs t

theorem u32_lit {xs : List Int} (h : ∀ x, x ∈ xs → 0 ≤ x ∧ x < 4294967296) : U32 xs := h

set_option maxRecDepth 100000 in
set_option maxHeartbeats 4000000 in
theorem pointsFinite_any (a : Option Addr) (n c : Nat) (zs : List Int) (w : World) (hn : n ≤ 1048576) (hl : zs.length = n * 3) (hu : U32 zs) (hz : RowAt .u32 w a zs) :
    Calls Try.prog 62 #[.slice a n c] w fun e w' => e = .returned (.bool ((List.range n).all (ptAt zs))) ∧ Below w.heap.size w w' := by
  have HL : Hid (zs.length = n * 3) := hl
  have HZ : Hid (RowAt .u32 w a zs) := hz
  have HU : Hid (U32 zs) := hu
  clear hl hz hu
  go_enter Try.func62, Try.ntmps62
  go_wp2
  go_loopw [4, 7] (fun _ si wr => ∃ (i : Nat), i ≤ n ∧ si = .int .i64 i ∧ Hid ((List.range i).all (ptAt zs) = true) ∧ Hid (Below w.heap.size w wr)) (fun _ si _ => n - (intOf si).toNat)
  case atStart => exact ⟨0, Nat.zero_le _, rfl, rfl, Below.refl _ _⟩
  case round =>
    obtain ⟨i, hi, rfl, hA, hb⟩ := hrel
    by_cases hlt : i < n
    · have hle : ∀ j, j < 3 → i * 3 + j < zs.length := by intro j hj; rw [HL.out]; omega
      obtain ⟨b, off, rfl, hbl, hc⟩ := HZ.out.resolve_left (by intro h; have := hle 0 (by omega); rw [h] at this; simp at this)
      obtain ⟨x0, hx0⟩ : ∃ x, x = zs.getD (i * 3) 0 := ⟨_, rfl⟩
      have q0 : wr.cell? ⟨b, off + i * 3, none⟩ = some (.int .u32 x0) := by
        have := (hb.out.cell (p := ⟨b, off + (i * 3 + 0), none⟩) hbl).trans (hc (i * 3 + 0) (hle 0 (by omega)))
        rw [hx0]
        simpa [Nat.add_assoc] using this
      have x0a : 0 ≤ x0 := by rw [hx0]; exact (HU.out.at _).1
      have x0b : x0 < 4294967296 := by rw [hx0]; exact (HU.out.at _).2
      obtain ⟨x1, hx1⟩ : ∃ x, x = zs.getD (i * 3 + 1) 0 := ⟨_, rfl⟩
      have q1 : wr.cell? ⟨b, off + i * 3 + 1, none⟩ = some (.int .u32 x1) := by
        have := (hb.out.cell (p := ⟨b, off + (i * 3 + 1), none⟩) hbl).trans (hc (i * 3 + 1) (hle 1 (by omega)))
        rw [hx1]
        simpa [Nat.add_assoc] using this
      have x1a : 0 ≤ x1 := by rw [hx1]; exact (HU.out.at _).1
      have x1b : x1 < 4294967296 := by rw [hx1]; exact (HU.out.at _).2
      obtain ⟨x2, hx2⟩ : ∃ x, x = zs.getD (i * 3 + 2) 0 := ⟨_, rfl⟩
      have q2 : wr.cell? ⟨b, off + i * 3 + 2, none⟩ = some (.int .u32 x2) := by
        have := (hb.out.cell (p := ⟨b, off + (i * 3 + 2), none⟩) hbl).trans (hc (i * 3 + 2) (hle 2 (by omega)))
        rw [hx2]
        simpa [Nat.add_assoc] using this
      have x2a : 0 ≤ x2 := by rw [hx2]; exact (HU.out.at _).1
      have x2b : x2 < 4294967296 := by rw [hx2]; exact (HU.out.at _).2
      have HX : Hid (ptAt zs i = ([x0, x1, x2].all fFin)) := by unfold Hid; rw [hx0, hx1, hx2]; simp [ptAt, pointB, Bool.and_assoc]
      have hib : (i : Int) < n := by omega
      clear hc hle hx0 hx1 hx2
      go_wp2_with fail
      refine (floatsFin_any (some ⟨wr.heap.size + 1, 0, none⟩) 3 [x0, x1, x2] _ (by simp) (row_at _ [x0, x1, x2] _ (by simp)) (by intro x hx; simp at hx; rcases hx with rfl | rfl | rfl <;> (constructor <;> assumption))).mono ?_
      rintro e w1 ⟨rfl, hb1⟩
      have HB1 : Hid (Below w.heap.size w w1) := hb.out.trans ((bel2 _ _ _).trans (hb1.mono (by simp <;> omega)) |>.mono hb.out.size)
      clear hb1 hb q0 x0a x0b q1 x1a x1b q2 x2a x2b
      rw [← HX.out]
      cases hT : ptAt zs i
      · go_wp2
        go_ret
        exact ⟨ret_bool (by rw [all_range_false hlt hT]), HB1.out⟩
      · go_wp2
        go_roundw
        case rel => exact ⟨i + 1, by omega, by go_num, by unfold Hid; rw [all_range_succ, hA.out, hT]; rfl, HB1⟩
        case measure => simp [intOf]; omega
    · have hie : i = n := by omega
      subst hie
      have HA := hA.out
      go_wp2
      go_ret
      exact ⟨ret_bool HA.symm, hb.out⟩

set_option maxRecDepth 100000 in
set_option maxHeartbeats 4000000 in
theorem trisFinite_any (a : Option Addr) (n c : Nat) (zs : List Int) (w : World) (hn : n ≤ 1048576) (hl : zs.length = n * 9) (hu : U32 zs) (hz : RowAt .u32 w a zs) :
    Calls Try.prog 92 #[.slice a n c] w fun e w' => e = .returned (.bool ((List.range n).all (triAt zs))) ∧ Below w.heap.size w w' := by
  have HL : Hid (zs.length = n * 9) := hl
  have HZ : Hid (RowAt .u32 w a zs) := hz
  have HU : Hid (U32 zs) := hu
  clear hl hz hu
  go_enter Try.func92, Try.ntmps92
  go_wp2
  go_loopw [4, 7] (fun _ si wr => ∃ (i : Nat), i ≤ n ∧ si = .int .i64 i ∧ Hid ((List.range i).all (triAt zs) = true) ∧ Hid (Below w.heap.size w wr)) (fun _ si _ => n - (intOf si).toNat)
  case atStart => exact ⟨0, Nat.zero_le _, rfl, rfl, Below.refl _ _⟩
  case round =>
    obtain ⟨i, hi, rfl, hA, hb⟩ := hrel
    by_cases hlt : i < n
    · have hle : ∀ j, j < 9 → i * 9 + j < zs.length := by intro j hj; rw [HL.out]; omega
      obtain ⟨b, off, rfl, hbl, hc⟩ := HZ.out.resolve_left (by intro h; have := hle 0 (by omega); rw [h] at this; simp at this)
      obtain ⟨x0, hx0⟩ : ∃ x, x = zs.getD (i * 9) 0 := ⟨_, rfl⟩
      have q0 : wr.cell? ⟨b, off + i * 9, none⟩ = some (.int .u32 x0) := by
        have := (hb.out.cell (p := ⟨b, off + (i * 9 + 0), none⟩) hbl).trans (hc (i * 9 + 0) (hle 0 (by omega)))
        rw [hx0]
        simpa [Nat.add_assoc] using this
      have x0a : 0 ≤ x0 := by rw [hx0]; exact (HU.out.at _).1
      have x0b : x0 < 4294967296 := by rw [hx0]; exact (HU.out.at _).2
      obtain ⟨x1, hx1⟩ : ∃ x, x = zs.getD (i * 9 + 1) 0 := ⟨_, rfl⟩
      have q1 : wr.cell? ⟨b, off + i * 9 + 1, none⟩ = some (.int .u32 x1) := by
        have := (hb.out.cell (p := ⟨b, off + (i * 9 + 1), none⟩) hbl).trans (hc (i * 9 + 1) (hle 1 (by omega)))
        rw [hx1]
        simpa [Nat.add_assoc] using this
      have x1a : 0 ≤ x1 := by rw [hx1]; exact (HU.out.at _).1
      have x1b : x1 < 4294967296 := by rw [hx1]; exact (HU.out.at _).2
      obtain ⟨x2, hx2⟩ : ∃ x, x = zs.getD (i * 9 + 2) 0 := ⟨_, rfl⟩
      have q2 : wr.cell? ⟨b, off + i * 9 + 2, none⟩ = some (.int .u32 x2) := by
        have := (hb.out.cell (p := ⟨b, off + (i * 9 + 2), none⟩) hbl).trans (hc (i * 9 + 2) (hle 2 (by omega)))
        rw [hx2]
        simpa [Nat.add_assoc] using this
      have x2a : 0 ≤ x2 := by rw [hx2]; exact (HU.out.at _).1
      have x2b : x2 < 4294967296 := by rw [hx2]; exact (HU.out.at _).2
      obtain ⟨x3, hx3⟩ : ∃ x, x = zs.getD (i * 9 + 3) 0 := ⟨_, rfl⟩
      have q3 : wr.cell? ⟨b, off + i * 9 + 3, none⟩ = some (.int .u32 x3) := by
        have := (hb.out.cell (p := ⟨b, off + (i * 9 + 3), none⟩) hbl).trans (hc (i * 9 + 3) (hle 3 (by omega)))
        rw [hx3]
        simpa [Nat.add_assoc] using this
      have x3a : 0 ≤ x3 := by rw [hx3]; exact (HU.out.at _).1
      have x3b : x3 < 4294967296 := by rw [hx3]; exact (HU.out.at _).2
      obtain ⟨x4, hx4⟩ : ∃ x, x = zs.getD (i * 9 + 4) 0 := ⟨_, rfl⟩
      have q4 : wr.cell? ⟨b, off + i * 9 + 4, none⟩ = some (.int .u32 x4) := by
        have := (hb.out.cell (p := ⟨b, off + (i * 9 + 4), none⟩) hbl).trans (hc (i * 9 + 4) (hle 4 (by omega)))
        rw [hx4]
        simpa [Nat.add_assoc] using this
      have x4a : 0 ≤ x4 := by rw [hx4]; exact (HU.out.at _).1
      have x4b : x4 < 4294967296 := by rw [hx4]; exact (HU.out.at _).2
      obtain ⟨x5, hx5⟩ : ∃ x, x = zs.getD (i * 9 + 5) 0 := ⟨_, rfl⟩
      have q5 : wr.cell? ⟨b, off + i * 9 + 5, none⟩ = some (.int .u32 x5) := by
        have := (hb.out.cell (p := ⟨b, off + (i * 9 + 5), none⟩) hbl).trans (hc (i * 9 + 5) (hle 5 (by omega)))
        rw [hx5]
        simpa [Nat.add_assoc] using this
      have x5a : 0 ≤ x5 := by rw [hx5]; exact (HU.out.at _).1
      have x5b : x5 < 4294967296 := by rw [hx5]; exact (HU.out.at _).2
      obtain ⟨x6, hx6⟩ : ∃ x, x = zs.getD (i * 9 + 6) 0 := ⟨_, rfl⟩
      have q6 : wr.cell? ⟨b, off + i * 9 + 6, none⟩ = some (.int .u32 x6) := by
        have := (hb.out.cell (p := ⟨b, off + (i * 9 + 6), none⟩) hbl).trans (hc (i * 9 + 6) (hle 6 (by omega)))
        rw [hx6]
        simpa [Nat.add_assoc] using this
      have x6a : 0 ≤ x6 := by rw [hx6]; exact (HU.out.at _).1
      have x6b : x6 < 4294967296 := by rw [hx6]; exact (HU.out.at _).2
      obtain ⟨x7, hx7⟩ : ∃ x, x = zs.getD (i * 9 + 7) 0 := ⟨_, rfl⟩
      have q7 : wr.cell? ⟨b, off + i * 9 + 7, none⟩ = some (.int .u32 x7) := by
        have := (hb.out.cell (p := ⟨b, off + (i * 9 + 7), none⟩) hbl).trans (hc (i * 9 + 7) (hle 7 (by omega)))
        rw [hx7]
        simpa [Nat.add_assoc] using this
      have x7a : 0 ≤ x7 := by rw [hx7]; exact (HU.out.at _).1
      have x7b : x7 < 4294967296 := by rw [hx7]; exact (HU.out.at _).2
      obtain ⟨x8, hx8⟩ : ∃ x, x = zs.getD (i * 9 + 8) 0 := ⟨_, rfl⟩
      have q8 : wr.cell? ⟨b, off + i * 9 + 8, none⟩ = some (.int .u32 x8) := by
        have := (hb.out.cell (p := ⟨b, off + (i * 9 + 8), none⟩) hbl).trans (hc (i * 9 + 8) (hle 8 (by omega)))
        rw [hx8]
        simpa [Nat.add_assoc] using this
      have x8a : 0 ≤ x8 := by rw [hx8]; exact (HU.out.at _).1
      have x8b : x8 < 4294967296 := by rw [hx8]; exact (HU.out.at _).2
      have HX : Hid (triAt zs i = ((List.range 3).all (ptAt [x0, x1, x2, x3, x4, x5, x6, x7, x8]))) := by unfold Hid; rw [hx0, hx1, hx2, hx3, hx4, hx5, hx6, hx7, hx8]; simp [List.range, List.range.loop, triAt, ptAt, Bool.and_assoc]
      have hib : (i : Int) < n := by omega
      clear hc hle hx0 hx1 hx2 hx3 hx4 hx5 hx6 hx7 hx8
      go_wp2_with fail
      refine (pointsFinite_any (some ⟨wr.heap.size + 1, 0, none⟩) 3 3 [x0, x1, x2, x3, x4, x5, x6, x7, x8] _ (by decide) rfl (by intro x hx; simp at hx; rcases hx with rfl | rfl | rfl | rfl | rfl | rfl | rfl | rfl | rfl <;> (constructor <;> assumption)) (row_at _ [x0, x1, x2, x3, x4, x5, x6, x7, x8] _ (by simp))).mono ?_
      rintro e w1 ⟨rfl, hb1⟩
      have HB1 : Hid (Below w.heap.size w w1) := hb.out.trans ((bel2 _ _ _).trans (hb1.mono (by simp <;> omega)) |>.mono hb.out.size)
      clear hb1 hb q0 x0a x0b q1 x1a x1b q2 x2a x2b q3 x3a x3b q4 x4a x4b q5 x5a x5b q6 x6a x6b q7 x7a x7b q8 x8a x8b
      rw [← HX.out]
      cases hT : triAt zs i
      · go_wp2
        go_ret
        exact ⟨ret_bool (by rw [all_range_false hlt hT]), HB1.out⟩
      · go_wp2
        go_roundw
        case rel => exact ⟨i + 1, by omega, by go_num, by unfold Hid; rw [all_range_succ, hA.out, hT]; rfl, HB1⟩
        case measure => simp [intOf]; omega
    · have hie : i = n := by omega
      subst hie
      have HA := hA.out
      go_wp2
      go_ret
      exact ⟨ret_bool HA.symm, hb.out⟩

theorem fewAndFinite_any (a : Option Addr) (n c : Nat) (zs : List Int) (w : World) (hn : n ≤ 1048576) (hl : zs.length = n * 9) (hu : U32 zs) (hz : RowAt .u32 w a zs) :
    Calls Try.prog 60 #[.slice a n c] w fun e w' => e = .returned (.bool (decide (n ≤ 40) && (List.range n).all (triAt zs))) ∧ Below w.heap.size w w' := by
  by_cases h4 : n ≤ 40
  · have h4' : (n : Int) ≤ 40 := by omega
    go_enter Try.func60, Try.ntmps60
    go_wp2_with fail
    refine (trisFinite_any a n c zs _ hn hl hu hz).mono ?_
    rintro e w1 ⟨rfl, hb1⟩
    go_wp2
    go_ret
    exact ⟨ret_bool (by simp [h4]), hb1⟩
  · have h4' : ¬ (n : Int) ≤ 40 := by omega
    go_enter Try.func60, Try.ntmps60
    go_wp2
    go_ret
    exact ⟨ret_bool (by first | rfl | (rw [decide_eq_false h4]; rfl)), Below.refl _ _⟩

theorem bits_or_u {a b : Int} (a0 : 0 ≤ a) (a1 : a < 4294967296) (b0 : 0 ≤ b) (b1 : b < 4294967296) : ∃ n m : Nat, a = n ∧ b = m ∧ bits .or .u32 a b = ((n ||| m : Nat) : Int) ∧ n ||| m < 4294967296 := by
  obtain ⟨n, rfl⟩ := Int.eq_ofNat_of_zero_le a0
  obtain ⟨m, rfl⟩ := Int.eq_ofNat_of_zero_le b0
  have hl : n ||| m < 4294967296 := Nat.or_lt_two_pow (n := 32) (by omega) (by omega)
  refine ⟨n, m, rfl, rfl, ?_, hl⟩
  have e2 : (BitVec.ofInt 32 (n : Int) ||| BitVec.ofInt 32 (m : Int)).toNat = n ||| m := by
    rw [BitVec.toNat_or, BitVec.ofInt_natCast, BitVec.toNat_ofNat, BitVec.ofInt_natCast, BitVec.toNat_ofNat, Nat.mod_eq_of_lt (by omega), Nat.mod_eq_of_lt (by omega)]
  show IntKind.u32.wrap ((BitVec.ofInt 32 (n : Int) ||| BitVec.ofInt 32 (m : Int)).toNat : Int) = _
  rw [e2]
  simp only [IntKind.wrap, IntKind.bits, IntKind.signed]
  simp
  omega

theorem zero_mod (n : Nat) : zeroB (n : Int) = decide (n % 2147483648 = 0) := by
  unfold zeroB
  by_cases h : n % 2147483648 = 0
  · simp [h]; omega
  · simp [h]; omega

theorem or_low (n m : Nat) : (n ||| m) % 2147483648 = (n % 2147483648) ||| (m % 2147483648) := by
  rw [show (2147483648 : Nat) = 2 ^ 31 by decide, Nat.or_mod_two_pow]

theorem or_zero (n m : Nat) : (n ||| m = 0) ↔ n = 0 ∧ m = 0 := by
  constructor
  · intro h
    have h1 : n ≤ n ||| m := Nat.left_le_or
    have h2 : m ≤ n ||| m := Nat.right_le_or
    omega
  · rintro ⟨rfl, rfl⟩
    rfl

theorem andNot_u {n : Nat} (h : n < 4294967296) : bits .andNot .u32 (n : Int) 2147483648 = ((n % 2147483648 : Nat) : Int) := by
  have e2 : (BitVec.ofInt 32 (n : Int) &&& ~~~ BitVec.ofInt 32 2147483648).toNat = n % 2147483648 := by
    rw [BitVec.toNat_and, BitVec.ofInt_natCast, BitVec.toNat_ofNat, Nat.mod_eq_of_lt (by omega)]
    have : (~~~ BitVec.ofInt 32 2147483648).toNat = 2 ^ 31 - 1 := by decide
    rw [this, Nat.and_two_pow_sub_one_eq_mod]
  show IntKind.u32.wrap ((BitVec.ofInt 32 (n : Int) &&& ~~~ BitVec.ofInt 32 2147483648).toNat : Int) = _
  rw [e2]
  simp only [IntKind.wrap, IntKind.bits, IntKind.signed]
  simp
  omega

theorem way_bits {x y z : Int} (xa : 0 ≤ x) (xb : x < 4294967296) (ya : 0 ≤ y) (yb : y < 4294967296) (za : 0 ≤ z) (zb : z < 4294967296) : (bits .andNot .u32 (bits .or .u32 (bits .or .u32 x y) z) 2147483648 != 0) = !(noWayB x y z) := by
  obtain ⟨n, m, rfl, rfl, e1, l1⟩ := bits_or_u xa xb ya yb
  rw [e1]
  obtain ⟨p, q, e3, rfl, e2, l2⟩ := bits_or_u (a := ((n ||| m : Nat) : Int)) (by omega) (by omega) za zb
  have e4 : p = n ||| m := by omega
  subst e4
  rw [e2, andNot_u l2, or_low, or_low]
  unfold noWayB
  rw [zero_mod, zero_mod, zero_mod]
  by_cases h : (n % 2147483648 ||| m % 2147483648) ||| q % 2147483648 = 0
  · obtain ⟨h1, h2⟩ := (or_zero _ _).1 h
    obtain ⟨h3, h4⟩ := (or_zero _ _).1 h1
    rw [h, h3, h4, h2]
    decide
  · have h5 : ¬ (n % 2147483648 = 0 ∧ m % 2147483648 = 0 ∧ q % 2147483648 = 0) := by
      rintro ⟨q1, q2, q3⟩
      rw [q1, q2, q3] at h
      exact h (by decide)
    have h6 : (((((n % 2147483648 ||| m % 2147483648) ||| q % 2147483648 : Nat) : Int)) != 0) = true := by
      rw [bne_iff_ne]
      omega
    rw [h6]
    symm
    rw [Bool.not_eq_true', Bool.and_eq_false_iff, Bool.and_eq_false_iff]
    simp only [decide_eq_false_iff_not]
    omega

set_option maxRecDepth 100000 in
set_option maxHeartbeats 4000000 in
theorem proper_any (x0 x1 x2 x3 x4 x5 : Int) (w : World) (x0a : 0 ≤ x0) (x0b : x0 < 4294967296) (x1a : 0 ≤ x1) (x1b : x1 < 4294967296) (x2a : 0 ≤ x2) (x2b : x2 < 4294967296) (x3a : 0 ≤ x3) (x3b : x3 < 4294967296) (x4a : 0 ≤ x4) (x4b : x4 < 4294967296) (x5a : 0 ≤ x5) (x5b : x5 < 4294967296) :
    Calls Try.prog 61 #[.agg #[.int .u32 x0, .int .u32 x1, .int .u32 x2, .int .u32 x3, .int .u32 x4, .int .u32 x5]] w fun e w' => e = .returned (.bool (pointB x0 x1 x2 && pointB x3 x4 x5 && !(noWayB x3 x4 x5))) ∧ Below w.heap.size w w' := by
  have HW : Hid ((bits .andNot .u32 (bits .or .u32 (bits .or .u32 x3 x4) x5) 2147483648 != 0) = !(noWayB x3 x4 x5)) := way_bits x3a x3b x4a x4b x5a x5b
  go_enter Try.func61, Try.ntmps61
  go_wp2_with fail
  refine (pointsFinite_any (some ⟨w.heap.size + 1, 0, none⟩) 2 2 [x0, x1, x2, x3, x4, x5] _ (by decide) rfl (by intro x hx; simp at hx; rcases hx with rfl | rfl | rfl | rfl | rfl | rfl <;> (constructor <;> assumption)) (row_at _ [x0, x1, x2, x3, x4, x5] _ (by simp))).mono ?_
  rintro e w1 ⟨rfl, hb1⟩
  have c3 : w1.cell? ⟨w.heap.size, 3, none⟩ = some (.int .u32 x3) := by rw [(bcell hb1).1 _ _ (by simp <;> omega)]; simp [go_sem]
  have c4 : w1.cell? ⟨w.heap.size, 4, none⟩ = some (.int .u32 x4) := by rw [(bcell hb1).1 _ _ (by simp <;> omega)]; simp [go_sem]
  have c5 : w1.cell? ⟨w.heap.size, 5, none⟩ = some (.int .u32 x5) := by rw [(bcell hb1).1 _ _ (by simp <;> omega)]; simp [go_sem]
  have HB1 : Hid (Below w.heap.size w w1) := (bel2 _ _ _).trans (hb1.mono (by simp <;> omega))
  have HX : Hid ((List.range 2).all (ptAt [x0, x1, x2, x3, x4, x5]) = (pointB x0 x1 x2 && pointB x3 x4 x5)) := by unfold Hid; simp [List.range, List.range.loop, ptAt]
  rw [HX.out]
  clear hb1
  cases hp : (pointB x0 x1 x2 && pointB x3 x4 x5)
  · go_wp2
    go_ret
    exact ⟨ret_bool (by first | rfl | (rw [hp]; rfl)), HB1.out⟩
  · have hw := HW.out
    go_wp2
    go_ret
    exact ⟨ret_bool (by first | rfl | (rw [hp, Bool.true_and]) | (rw [hp, Bool.true_and]; exact hw)), HB1.out⟩

end Go.Proofs.Ytcjdnomhnlbmbaa
