/-
  math.Ldexp by any power; math.Copysign.
-/
import Derived.Test.YtladfpljnaippabDoorNumGToImplSF
import Derived.Test.YtladfpljnaippabDoorImplLImplNeF
import Derived.Test.YtladfpljnaippabDoorNumR2QF
import Derived.Test.YtladfpljnaippabDoorDrawOSpecBtBox3SpecDfSpecDgF
import Derived.Test.YtladfpljnaippabDoorImplEDyI1DyI2DyI3DyI4aF
import Derived.Test.YtladfpljnaippabDoorDyI5ToDyJMulF
import Derived.Test.YtladfpljnaippabDoorNumWToNumFlF
import Derived.Test.YtladfpljnaippabDoorImplCImplDImplAF
import Derived.Test.YtladfpljnaippabDoorBoxQF
import Derived.Deep.CutRange
import Derived.Deep.Light
import Derived.Test.YtladfpljnaippabDoorResQF
import Derived.Test.YtladfpljnaippabDoorImplBQF
import Derived.Test.YtladfpljnaippabDoorBox1QF
namespace Go.Proofs.YtladfpljnaippabDoor
open Go.RowKit

set_option maxHeartbeats 4000000 in
theorem ldexpG_any (F f : Nat) (u : Int) (G : Nat) (w : World) (hf : f < 4503599627370496) (F1 : 1 ≤ F) (F2 : F ≤ 2046) (hu : (G : Int) = F + u) (G1 : 1 ≤ G) (G2 : G ≤ 2046) :
    Calls Tryd.prog 48 #[.float .f64 (F * 4503599627370496 + f), .int .i64 u] w fun e w' => e = .returned (.float .f64 (G * 4503599627370496 + f)) ∧ Below w.heap.size w w' := by
  obtain ⟨X, hX⟩ : ∃ X, X = F * 4503599627370496 + f := ⟨_, rfl⟩
  obtain ⟨Y, hY⟩ : ∃ Y, Y = G * 4503599627370496 + f := ⟨_, rfl⟩
  rw [← hX, ← hY]
  have hlt : X < 9218868437227405312 := by omega
  obtain ⟨o1, o2⟩ := fin64 hlt
  have o3 : (FloatKind.f64.format.order X 0 == some .eq) = false := by
    rw [ord64 hlt (by decide), Int.compare_eq_gt.2 (by omega)]
    rfl
  have q1 : (X : Int) / 4503599627370496 = F := by omega
  have q2 : bits .and .i64 (F : Int) 2047 = F := bits_expI F (by omega)
  have q3 := bits_frac X (by omega)
  rw [show X % 4503599627370496 = f by omega] at q3
  have q4 := bits_join f G hf (by omega)
  rw [← hY] at q4
  have q5 := mul_one_word (F := G) (f := f) (by omega) (by omega) hf
  rw [← hY] at q5
  have hop : ∀ t w, (binOp .mul t (.float .f64 4607182418800017408) (.float .f64 Y)).run Tryd.prog w = .ok (.float .f64 Y) w := fun t w => run_float_arith w .mul t .f64 _ _ _ q5
  have e1 := run_f64bits
  have e2 := run_f64from
  have HX : Hid (X = F * 4503599627370496 + f) := hX
  have u1 : u = (G : Int) - F := by omega
  have v1 : (G : Int) ≤ 2046 := by omega
  have v2 : (1 : Int) ≤ G := by omega
  have v3 : (F : Int) ≤ 2046 := by omega
  have v4 : (1 : Int) ≤ F := by omega
  have q6 : (G : Int) * 4503599627370496 = ((G * 4503599627370496 : Nat) : Int) := by omega
  rw [← q6] at q4
  have hY0 : Y < 18446744073709551616 := by omega
  clear hX hY q5 hu q6
  subst u1
  have LD : ∀ w, Calls Tryd.prog 91 #[.float .f64 X, .int .i64 ((G : Int) - F)] w fun e w' => e = .returned (.float .f64 Y) ∧ Below w.heap.size w w' := by
    intro w
    go_enter Tryd.func91, Tryd.ntmps91
    go_wp2_with fail
    refine (isInf64_any X X false _ (by omega) (Nat.mod_eq_of_lt (by omega)) o2).mono ?_
    rintro e w1 ⟨rfl, hb1⟩
    go_wp2_with fail
    refine (isNaN64_any X false _ o1).mono ?_
    rintro e w2 ⟨rfl, hb2⟩
    go_wp2_with fail
    refine (normF_any X _ (by have := HX.out; omega) hlt).mono ?_
    rintro e w3 ⟨rfl, hb3⟩
    have HB : Hid (Below w.heap.size w w3) := (hb1.trans (hb2.mono hb1.size)).trans (hb3.mono (Nat.le_trans hb1.size hb2.size))
    have z1 : (G : Int) - F + (F - 1023) = G - 1023 := by omega
    have z2 : (G : Int) - 1023 + 1023 = G := by omega
    clear hb1 hb2 hb3
    go_wp2
    go_ret
    exact ⟨by simp, HB.out⟩
  go_enter Tryd.func48, Tryd.ntmps48
  go_wp2_with fail
  refine (LD _).mono ?_
  rintro e w1 ⟨rfl, hb1⟩
  have HB : Hid (Below w.heap.size w w1) := hb1
  clear hb1 LD
  go_wp2
  go_ret
  exact ⟨rfl, HB.out⟩

set_option maxHeartbeats 1000000 in
theorem inf_any (w : World) : Calls Tryd.prog 113 #[.int .i64 1] w fun e w' => e = .returned (.float .f64 9218868437227405312) ∧ Below w.heap.size w w' := by
  have e2 := run_f64from
  go_enter Tryd.func113, Tryd.ntmps113
  go_wp2
  go_ret
  exact ⟨by simp, Below.refl _ _⟩

set_option maxHeartbeats 4000000 in
theorem ldexpG_big (F f : Nat) (u : Int) (w : World) (hf : f < 4503599627370496) (F1 : 1 ≤ F) (F2 : F ≤ 2046) (u1 : 2046 < F + u) (u2 : u ≤ 1000000) :
    Calls Tryd.prog 48 #[.float .f64 (F * 4503599627370496 + f), .int .i64 u] w fun e w' => e = .returned (.float .f64 9218868437227405312) ∧ Below w.heap.size w w' := by
  obtain ⟨X, hX⟩ : ∃ X, X = F * 4503599627370496 + f := ⟨_, rfl⟩
  rw [← hX]
  have hlt : X < 9218868437227405312 := by omega
  obtain ⟨o1, o2⟩ := fin64 hlt
  have o3 : (FloatKind.f64.format.order X 0 == some .eq) = false := by
    rw [ord64 hlt (by decide), Int.compare_eq_gt.2 (by omega)]
    rfl
  have o4 : (FloatKind.f64.format.order X 0 == some .lt) = false := by
    rw [ord64 hlt (by decide), Int.compare_eq_gt.2 (by omega)]
    rfl
  have q1 : (X : Int) / 4503599627370496 = F := by omega
  have q2 : bits .and .i64 (F : Int) 2047 = F := bits_expI F (by omega)
  have e1 := run_f64bits
  have HX : Hid (X = F * 4503599627370496 + f) := hX
  have v3 : (F : Int) ≤ 2046 := by omega
  have v4 : (1 : Int) ≤ F := by omega
  have z1 : 1023 < u + (F - 1023) := by omega
  clear hX
  have LD : ∀ w, Calls Tryd.prog 91 #[.float .f64 X, .int .i64 u] w fun e w' => e = .returned (.float .f64 9218868437227405312) ∧ Below w.heap.size w w' := by
    intro w
    go_enter Tryd.func91, Tryd.ntmps91
    go_wp2_with fail
    refine (isInf64_any X X false _ (by omega) (Nat.mod_eq_of_lt (by omega)) o2).mono ?_
    rintro e w1 ⟨rfl, hb1⟩
    go_wp2_with fail
    refine (isNaN64_any X false _ o1).mono ?_
    rintro e w2 ⟨rfl, hb2⟩
    go_wp2_with fail
    refine (normF_any X _ (by have := HX.out; omega) hlt).mono ?_
    rintro e w3 ⟨rfl, hb3⟩
    have HB : Hid (Below w.heap.size w w3) := (hb1.trans (hb2.mono hb1.size)).trans (hb3.mono (Nat.le_trans hb1.size hb2.size))
    clear hb1 hb2 hb3
    go_wp2_with fail
    refine (inf_any _).mono ?_
    rintro e w4 ⟨rfl, hb4⟩
    have HB2 : Hid (Below w.heap.size w w4) := HB.out.trans (hb4.mono HB.out.size)
    clear hb4 HB
    go_wp2
    go_ret
    exact ⟨by simp, HB2.out⟩
  go_enter Tryd.func48, Tryd.ntmps48
  go_wp2_with fail
  refine (LD _).mono ?_
  rintro e w1 ⟨rfl, hb1⟩
  have HB : Hid (Below w.heap.size w w1) := hb1
  clear hb1 LD
  go_wp2
  go_ret
  exact ⟨rfl, HB.out⟩

set_option maxHeartbeats 1000000 in
theorem ldexpG_zero (u : Int) (w : World) :
    Calls Tryd.prog 48 #[.float .f64 0, .int .i64 u] w fun e w' => e = .returned (.float .f64 0) ∧ Below w.heap.size w w' := by
  have o3 : (FloatKind.f64.format.order 0 0 == some .eq) = true := by decide
  have LD : ∀ w, Calls Tryd.prog 91 #[.float .f64 0, .int .i64 u] w fun e w' => e = .returned (.float .f64 0) ∧ Below w.heap.size w w' := by
    intro w
    go_enter Tryd.func91, Tryd.ntmps91
    go_wp2
    go_ret
    exact ⟨rfl, Below.refl _ _⟩
  go_enter Tryd.func48, Tryd.ntmps48
  go_wp2_with fail
  refine (LD _).mono ?_
  rintro e w1 ⟨rfl, hb1⟩
  have HB : Hid (Below w.heap.size w w1) := hb1
  clear hb1 LD
  go_wp2
  go_ret
  exact ⟨rfl, HB.out⟩

theorem bits_neg (a : Nat) (h : a < 9223372036854775808) : bits .or .u64 (a : Int) 9223372036854775808 = ((9223372036854775808 + a : Nat) : Int) := by
  have e2 : (BitVec.ofInt 64 (a : Int) ||| BitVec.ofInt 64 9223372036854775808).toNat = 9223372036854775808 + a := by
    rw [BitVec.toNat_or, ofInt64 a (by omega), show (BitVec.ofInt 64 9223372036854775808).toNat = 2 ^ 63 * 1 by decide, Nat.or_comm, ← Nat.two_pow_add_eq_or_of_lt (by omega)]
  show IntKind.u64.wrap ((BitVec.ofInt 64 (a : Int) ||| BitVec.ofInt 64 9223372036854775808).toNat : Int) = _
  rw [e2]
  exact wrapU64 _ (by omega)

set_option maxHeartbeats 1000000 in
theorem copysign_any (X : Nat) (w : World) (h : X < 9223372036854775808) :
    Calls Tryd.prog 54 #[.float .f64 X, .float .f64 13830554455654793216] w fun e w' => e = .returned (.float .f64 (9223372036854775808 + X)) ∧ Below w.heap.size w w' := by
  have e1 := run_f64bits
  have e2 := run_f64from
  have q1 := bits_abs X (by omega)
  rw [Nat.mod_eq_of_lt h] at q1
  have q2 : bits .and .u64 13830554455654793216 9223372036854775808 = 9223372036854775808 := by decide
  have q3 := bits_neg X h
  go_enter Tryd.func54, Tryd.ntmps54
  go_wp2
  go_ret
  exact ⟨by simp, Below.refl _ _⟩

end Go.Proofs.YtladfpljnaippabDoor

/-
  A whole number up to 2^24, at a place from -149 up, as a float of 64 bits and of 32.
-/
namespace Go.Proofs.YtladfpljnaippabDoor
open Go.RowKit

theorem s_consts : Ieee.single.signWeight = 2147483648 ∧ Ieee.single.binade = 8388608 ∧ Ieee.single.infRung = 2139095040 ∧ Ieee.single.leastPlace = -149 ∧ Ieee.single.fractionBits = 23 := by decide

/-- The number v, in parts. -/
theorem v_parts {v : Nat} (h0 : v ≠ 0) (h1 : v ≤ 16777216) : ∃ L f : Nat, L ≤ 24 ∧ 2 ^ L ≤ v ∧ v < 2 ^ (L + 1) ∧ (L = 24 → v = 16777216) ∧ f < 4503599627370496 ∧ v * 2 ^ (52 - L) = 4503599627370496 + f := by
  have a := Nat.log2_self_le h0
  have b : v < 2 ^ (v.log2 + 1) := Nat.lt_log2_self
  have hL : v.log2 ≤ 24 := Nat.lt_succ_iff.1 ((Nat.log2_lt h0).2 (by omega))
  obtain ⟨L, hLL⟩ : ∃ L, L = v.log2 := ⟨_, rfl⟩
  rw [← hLL] at a b hL
  have c1 : 2 ^ L * 2 ^ (52 - L) ≤ v * 2 ^ (52 - L) := Nat.mul_le_mul_right _ a
  have c2 : v * 2 ^ (52 - L) < 2 ^ (L + 1) * 2 ^ (52 - L) := Nat.mul_lt_mul_of_pos_right b (Nat.two_pow_pos _)
  rw [← Nat.pow_add, show L + (52 - L) = 52 by omega] at c1
  rw [← Nat.pow_add, show L + 1 + (52 - L) = 53 by omega] at c2
  have e1 : 2 ^ 52 = 4503599627370496 := rfl
  have e2 : 2 ^ 53 = 9007199254740992 := rfl
  refine ⟨L, v * 2 ^ (52 - L) - 4503599627370496, hL, a, b, ?_, by omega, by omega⟩
  intro h
  rw [h] at a
  omega

theorem of_int {v L f : Nat} (hL : L ≤ 24) (h1 : 2 ^ L ≤ v) (h2 : v < 2 ^ (L + 1)) (hf : v * 2 ^ (52 - L) = 4503599627370496 + f) : Ieee.double.nearest false v 0 = (L + 1023) * 4503599627370496 + f := by
  rw [double_write h1 h2 (by omega) (by omega) (by omega), hf]
  show ((0 : Int) + L + 1022).toNat * 4503599627370496 + (4503599627370496 + f) = _
  rw [show ((0 : Int) + L + 1022).toNat = L + 1022 by omega]
  omega

theorem read_normS {neg : Bool} {F f : Nat} (h1 : 1 ≤ F) (h2 : F ≤ 2046) (hf : f < 4503599627370496) : Ieee.double.read (Ieee.double.word neg (F * 4503599627370496 + f)) = .number neg (4503599627370496 + f) ((F : Int) - 1075) := by
  obtain ⟨e1, e2, e3, e4⟩ := d_consts
  unfold Ieee.Format.read Ieee.Format.word
  simp only [e1, e2, e3, e4]
  have hX : F * 4503599627370496 + f < 9218868437227405312 := by omega
  have hs : ((if neg = true then 9223372036854775808 + (F * 4503599627370496 + f) else F * 4503599627370496 + f) / 9223372036854775808 % 2 == 1) = neg := by
    cases neg
    · have : (F * 4503599627370496 + f) / 9223372036854775808 = 0 := Nat.div_eq_of_lt (by omega)
      simp [this]
    · have : (9223372036854775808 + (F * 4503599627370496 + f)) / 9223372036854775808 = 1 := by omega
      simp [this]
  have hr : (if neg = true then 9223372036854775808 + (F * 4503599627370496 + f) else F * 4503599627370496 + f) % 9223372036854775808 = F * 4503599627370496 + f := by
    cases neg
    · simp; omega
    · simp; omega
  rw [hs, hr, if_neg (by omega), if_pos hX]
  have q1 : (F * 4503599627370496 + f) % 4503599627370496 = f := by omega
  have q2 : (F * 4503599627370496 + f) / 4503599627370496 = F := by omega
  rw [q1, q2]
  congr 1
  omega

theorem min_a {q v : Nat} (h : v + q * 8388608 ≤ 2139095040) : min (q * 8388608 + v) 2139095040 = v + q * 8388608 := by
  omega

theorem min_b {q : Nat} (h : 16777216 + q * 8388608 ≤ 2139095040) : min ((q + 1) * 8388608 + 8388608) 2139095040 = 16777216 + q * 8388608 := by
  omega

/-- Written as a float of 32 bits: exactly. -/
theorem single_write {neg : Bool} {v L : Nat} {u : Int} (hL : L ≤ 24) (h1 : 2 ^ L ≤ v) (h2 : v < 2 ^ (L + 1)) (h24 : L = 24 → v = 16777216) (hu : -149 ≤ u) (hv : u = -149 ∨ 23 ≤ L) (hR : v + (u + 149).toNat * 8388608 ≤ 2139095040) :
    Ieee.single.nearest neg (v * 2 ^ (52 - L)) (L + u - 52) = Ieee.single.word neg (v + (u + 149).toNat * 8388608) := by
  obtain ⟨e1, e2, e3, e4, e5⟩ := s_consts
  have hv0 : v ≠ 0 := by have := Nat.two_pow_pos L; omega
  have hM : v * 2 ^ (52 - L) ≠ 0 := Nat.mul_ne_zero hv0 (Nat.ne_of_gt (Nat.two_pow_pos _))
  have hlog : (v * 2 ^ (52 - L)).log2 = 52 := by
    have c1 : 2 ^ L * 2 ^ (52 - L) ≤ v * 2 ^ (52 - L) := Nat.mul_le_mul_right _ h1
    have c2 : v * 2 ^ (52 - L) < 2 ^ (L + 1) * 2 ^ (52 - L) := Nat.mul_lt_mul_of_pos_right h2 (Nat.two_pow_pos _)
    rw [← Nat.pow_add, show L + (52 - L) = 52 by omega] at c1
    rw [← Nat.pow_add, show L + 1 + (52 - L) = 53 by omega] at c2
    apply Nat.le_antisymm
    · exact Nat.lt_succ_iff.1 ((Nat.log2_lt hM).2 c2)
    · exact (Nat.le_log2 hM).2 c1
  unfold Ieee.Format.nearest
  rw [if_neg hM]
  simp only [hlog, e2, e3, e4, e5]
  by_cases h : L = 24
  · subst h
    have hv := h24 rfl
    subst hv
    have hlast : max (((24 : Nat) : Int) + u - 52 + ((52 : Nat) : Int) - ((23 : Nat) : Int)) (-149) = u + 1 := by omega
    rw [hlast, show (((24 : Nat) : Int) + u - 52 - (u + 1)).toNat = 0 by omega, show (u + 1 - (((24 : Nat) : Int) + u - 52)).toNat = 29 by omega, Nat.shiftLeft_zero,
      show 16777216 * 2 ^ (52 - 24) = 8388608 * 2 ^ 29 by decide, cut_ieee (.inl rfl) (by decide)]
    rw [show (u + 1 - -149).toNat = (u + 149).toNat + 1 by omega]
    exact congrArg (Ieee.single.word neg) (min_b hR)
  · have hlast : max ((L : Int) + u - 52 + ((52 : Nat) : Int) - ((23 : Nat) : Int)) (-149) = u := by omega
    rw [hlast, show ((L : Int) + u - 52 - u).toNat = 0 by omega, show (u - ((L : Int) + u - 52)).toNat = 52 - L by omega, Nat.shiftLeft_zero, cut_ieee (.inl rfl) hv0]
    rw [show (u - -149).toNat = (u + 149).toNat by omega]
    exact congrArg (Ieee.single.word neg) (min_a hR)

theorem single_fin {neg : Bool} {X : Nat} (h : X < 2139095040) : (Ieee.single.read (Ieee.single.word neg X)).isInfinity = false := by
  obtain ⟨e1, e2, e3, e4, e5⟩ := s_consts
  unfold Ieee.Format.read Ieee.Format.word
  simp only [e1, e2, e3, e4]
  have hr : (if neg = true then 2147483648 + X else X) % 2147483648 = X := by
    cases neg
    · simp; omega
    · simp; omega
  rw [hr]
  by_cases h1 : X < 8388608
  · rw [if_pos h1]; rfl
  · rw [if_neg h1, if_pos h]; rfl

/-- From 64 bits to 32. -/
theorem conv_back {neg : Bool} {v L f : Nat} {u : Int} (hL : L ≤ 24) (h1 : 2 ^ L ≤ v) (h2 : v < 2 ^ (L + 1)) (h24 : L = 24 → v = 16777216) (hf : f < 4503599627370496) (hvf : v * 2 ^ (52 - L) = 4503599627370496 + f) (hu : -149 ≤ u) (hv : u = -149 ∨ 23 ≤ L) (hR : v + (u + 149).toNat * 8388608 < 2139095040)
    {G : Nat} (hG : (G : Int) = L + 1023 + u) : floatToFloatBits .f64 (Ieee.double.word neg (G * 4503599627370496 + f)) .f32 = some (Ieee.single.word neg (v + (u + 149).toNat * 8388608)) := by
  have hG1 : 1 ≤ G := by omega
  have hG2 : G ≤ 2046 := by omega
  have hr : FloatKind.f64.decode (Ieee.double.word neg (G * 4503599627370496 + f)) = .number neg (4503599627370496 + f) ((G : Int) - 1075) := read_normS hG1 hG2 hf
  have he : FloatKind.f32.encode (.number neg (4503599627370496 + f) ((G : Int) - 1075)) = Ieee.single.word neg (v + (u + 149).toNat * 8388608) := by
    show Ieee.single.nearest _ _ _ = _
    rw [← hvf, show (G : Int) - 1075 = L + u - 52 by omega]
    exact single_write hL h1 h2 h24 hu hv (by omega)
  unfold floatToFloatBits
  rw [if_neg (by decide), hr]
  simp only
  rw [he]
  have h3 : (FloatKind.f32.decode (Ieee.single.word neg (v + (u + 149).toNat * 8388608))).isInfinity = false := single_fin hR
  rw [h3]
  rfl

theorem conv_back0 (neg : Bool) : floatToFloatBits .f64 (Ieee.double.word neg 0) .f32 = some (Ieee.single.word neg 0) := by
  cases neg <;> decide

/-- Past the greatest float. -/
theorem past_max {v L f G : Nat} {u : Int} (hL : L ≤ 24) (h1 : 2 ^ L ≤ v) (h2 : v < 2 ^ (L + 1)) (h24 : L = 24 → v = 16777216) (hvf : v * 2 ^ (52 - L) = 4503599627370496 + f) (hf : f < 4503599627370496) (hu : -149 ≤ u) (hv : u = -149 ∨ 23 ≤ L) (hG : (G : Int) = L + 1023 + u) :
    5183643170566569984 < G * 4503599627370496 + f ↔ 2139095040 ≤ v + (u + 149).toNat * 8388608 := by
  by_cases hl : L = 24
  · subst hl
    have := h24 rfl
    subst this
    have e : 16777216 * 2 ^ (52 - 24) = 4503599627370496 := by decide
    omega
  · by_cases hl2 : L = 23
    · subst hl2
      have e : 2 ^ (52 - 23) = 536870912 := by decide
      have e2 : 2 ^ 23 = 8388608 := by decide
      have e3 : 2 ^ (23 + 1) = 16777216 := by decide
      rw [e] at hvf
      rw [e2] at h1
      rw [e3] at h2
      omega
    · have hu2 : u = -149 := by omega
      have hp : 2 ^ (L + 1) ≤ 2 ^ 23 := Nat.pow_le_pow_right (by decide) (by omega)
      have e2 : 2 ^ 23 = 8388608 := by decide
      omega

end Go.Proofs.YtladfpljnaippabDoor

/-
  The program's DyFloat.
-/
namespace Go.Proofs.YtladfpljnaippabDoor
open Go.RowKit

theorem run_f32bits (n : Nat) (w : World) : (callFunc 55 #[.float .f32 n]).run Tryd.prog w = .ok (.value (.int .u32 n)) w := by
  rw [run_callFunc_extern (e := Extern.MathFloatBits.float32bits) Tryd.func55 (by kernel_rfl) (by kernel_rfl) (by kernel_rfl) (by kernel_rfl)]
  rfl

theorem dbl_lt {N d : Int} {n : Nat} (h2 : N < 2 ^ (n + 1)) (hd : (n : Int) - 23 ≤ d) : N * 2 ^ (1 - d).toNat / 2 ^ (d - 1).toNat < 4294967296 := by
  have h32 : (4294967296 : Int) = 2 ^ 32 := by decide
  have hq : (0 : Int) < 2 ^ (1 - d).toNat := Int.pow_pos (by decide)
  have hr : (0 : Int) < 2 ^ (d - 1).toNat := Int.pow_pos (by decide)
  have hm := Int.mul_lt_mul_of_pos_right h2 hq
  rw [← Int.pow_add] at hm
  rw [Int.ediv_lt_iff_lt_mul hr, h32, ← Int.pow_add]
  have := pow2_mono (show n + 1 + (1 - d).toNat ≤ 32 + (d - 1).toNat by omega)
  omega

set_option maxRecDepth 100000 in
set_option maxHeartbeats 4000000 in
theorem flDI_bad (g : Bool) (a : Option Addr) (c : Nat) (zs : List Int) (E : Int) (w : World) (hn : zs.length ≤ 1048576) (hz : RowAt .u32 w a zs) (hv : validD g zs E = false) :
    Calls Tryd.prog 16 #[.agg #[.bool g, .slice a zs.length c, .int .i64 E]] w fun e w' => e = .returned (.tuple #[.int .u32 0, .int .i64 1]) ∧ Below w.heap.size w w' := by
  have B0 : Hid (∀ t, BxD w (.bool g) (.slice a zs.length c) (.int .i64 E) (w.alloc (.cells #[.bool g, .slice a zs.length c, .int .i64 E] t))) := fun t => BxD.start w _ _ _ _
  go_enter Tryd.func16, Tryd.ntmps16
  go_wp2_with fail
  refine (validsI_any _ 0 _ [⟨g, a, c, zs, E⟩] _ (by simp) ?_ (one_rowD ?_ ?_ ?_ ?_ (hz.later ((B0.out _).bel.trans ((bel0 _ _).mono (B0.out _).bel.size))))).mono ?_
  · intro d hd
    simp at hd
    subst hd
    exact hn
  · simp
  · simp [go_sem]
  · simp [go_sem]
  · simp [go_sem]
  · rintro e w1 ⟨rfl, hb1⟩
    have HV : Hid ([(⟨g, a, c, zs, E⟩ : DV)].all DV.ok = false) := by unfold Hid; simpa [DV.ok] using hv
    rw [HV.out]
    have F1 : Hid (BxD w (.bool g) (.slice a zs.length c) (.int .i64 E) w1) := ((B0.out _).later (bel0 _ _)).later hb1
    clear hb1 B0
    go_wp2
    refine bodyPost_ret (v := .tuple #[.int .u32 0, .int .i64 1]) (by simp [results, Tryd.results16, go_sem]) rfl ?_
    exact ⟨rfl, F1.out.bel⟩


set_option maxRecDepth 100000 in
set_option maxHeartbeats 8000000 in
theorem flDI_up (g : Bool) (a : Option Addr) (c : Nat) (zs : List Int) (E nb : Int) (v X Y Z R : Nat) (o : Bool) (w : World) (hn : zs.length ≤ 1048576) (hz : RowAt .u32 w a zs) (hv : validD g zs E = true) (b0 : 0 ≤ nb) (b1 : nb ≤ 100000)
    (hBL : ∀ W, RowAt .u32 W a zs → Calls Tryd.prog 52 #[.slice a zs.length c] W fun e w' => e = .returned (.int .i64 nb) ∧ w' = W)
    (hU : -149 ≤ nb + E - 24)
    (hNe : ∀ W, RowAt .u32 W a zs → Calls Tryd.prog 53 #[.slice a zs.length c, .int .i64 ((nb + E - 24) - E)] W fun e w' => e = .returned (.int .u32 v) ∧ Below W.heap.size W w')
    (hX : floatOfInt .f64 (v : Int) = X)
    (hLd : ∀ W, Calls Tryd.prog 48 #[.float .f64 X, .int .i64 (nb + E - 24)] W fun e w' => e = .returned (.float .f64 Y) ∧ Below W.heap.size W w')
    (ho : (FloatKind.f64.format.order Y 5183643170566569984 == some .gt) = o)
    (hY : Y < 9223372036854775808) (hZ : Ieee.double.word g Y = Z) (hR : o = false → floatToFloatBits .f64 Z .f32 = some R) :
    Calls Tryd.prog 16 #[.agg #[.bool g, .slice a zs.length c, .int .i64 E]] w fun e w' => e = .returned (.tuple #[.int .u32 (if o = true then 0 else (R : Int)), .int .i64 (if o = true then 2 else 0)]) ∧ Below w.heap.size w w' := by
  obtain ⟨vb1, hE0, hE1⟩ := validD_parts hv
  have B0 : Hid (∀ t, BxD w (.bool g) (.slice a zs.length c) (.int .i64 E) (w.alloc (.cells #[.bool g, .slice a zs.length c, .int .i64 E] t))) := fun t => BxD.start w _ _ _ _
  have hc1 : o = false → ∀ w, (convert 78 79 (.float .f64 Z)).run Tryd.prog w = .ok (.float .f32 R) w := fun ho w => run_convert_float_float w _ _ .f64 .f32 Z R (by rw [Tryd.underlying78]; rfl) Tryd.underlying79 (hR ho)
  have e1 := run_f32bits
  clear hR
  go_enter Tryd.func16, Tryd.ntmps16
  go_wp2_with fail
  refine (validsI_any _ 0 _ [⟨g, a, c, zs, E⟩] _ (by simp) ?_ (one_rowD ?_ ?_ ?_ ?_ (hz.later ((B0.out _).bel.trans ((bel0 _ _).mono (B0.out _).bel.size))))).mono ?_
  · intro d hd
    simp at hd
    subst hd
    exact hn
  · simp
  · simp [go_sem]
  · simp [go_sem]
  · simp [go_sem]
  rintro e w1 ⟨rfl, hb1⟩
  have HV : Hid ([(⟨g, a, c, zs, E⟩ : DV)].all DV.ok = true) := by unfold Hid; simp [DV.ok, hv]
  rw [HV.out]
  have F1 : Hid (BxD w (.bool g) (.slice a zs.length c) (.int .i64 E) w1) := ((B0.out _).later (bel0 _ _)).later hb1
  have s0 := F1.out.q0
  have s1 := F1.out.q1
  have s2 := F1.out.q2
  have HBL : Hid (∀ W, RowAt .u32 W a zs → Calls Tryd.prog 52 #[.slice a zs.length c] W fun e w' => e = .returned (.int .i64 nb) ∧ w' = W) := hBL
  have HNE : Hid (∀ W, RowAt .u32 W a zs → Calls Tryd.prog 53 #[.slice a zs.length c, .int .i64 ((nb + E - 24) - E)] W fun e w' => e = .returned (.int .u32 v) ∧ Below W.heap.size W w') := hNe
  have HLD : Hid (∀ W, Calls Tryd.prog 48 #[.float .f64 X, .int .i64 (nb + E - 24)] W fun e w' => e = .returned (.float .f64 Y) ∧ Below W.heap.size W w') := hLd
  have HZ : Hid (RowAt .u32 w a zs) := hz
  clear hb1 B0 HV hv hz hBL hNe hLd vb1
  go_wp2
  go_quiet (first | (go_at_call 52; exact Calls.quiet_of_same (HBL.out _ (HZ.out.later (below_drewN F1.out.bel _)))))
  have F2 : Hid (BxD w (.bool g) (.slice a zs.length c) (.int .i64 E) (w1.drewN nq)) := F1.out.later (below_drewN (Below.refl _ _) _)
  clear s0 s1 s2 F1 HBL
  generalize w1.drewN nq = w2 at F2 ⊢
  have s0 := F2.out.q0
  have s1 := F2.out.q1
  have s2 := F2.out.q2
  go_wp2_with fail
  refine (HNE.out _ (HZ.out.later F2.out.bel)).mono ?_
  rintro e w3 ⟨rfl, hb3⟩
  have F3 : Hid (BxD w (.bool g) (.slice a zs.length c) (.int .i64 E) w3) := F2.out.later hb3
  clear hb3 s0 s1 s2 F2
  have s0 := F3.out.q0
  have s1 := F3.out.q1
  have s2 := F3.out.q2
  go_wp2_with fail
  refine (HLD.out _).mono ?_
  rintro e w4 ⟨rfl, hb4⟩
  have F4 : Hid (BxD w (.bool g) (.slice a zs.length c) (.int .i64 E) w4) := F3.out.later hb4
  clear hb4 s0 s1 s2 F3 HLD HNE
  have s0 := F4.out.q0
  have s1 := F4.out.q1
  have s2 := F4.out.q2
  cases o
  · have hc2 := hc1 rfl
    clear hc1
    cases g
    · have hz2 : Z = Y := hZ.symm
      subst hz2
      go_wp2
      refine bodyPost_ret (v := .tuple #[.int .u32 R, .int .i64 0]) (by simp [results, Tryd.results16, go_sem]) rfl ?_
      exact ⟨rfl, F4.out.bel⟩
    · have hz2 : Z = 9223372036854775808 + Y := hZ.symm
      subst hz2
      go_wp2_with fail
      refine (copysign_any Y _ hY).mono ?_
      rintro e w5 ⟨rfl, hb5⟩
      have F5 : Hid (BxD w (.bool true) (.slice a zs.length c) (.int .i64 E) w5) := F4.out.later hb5
      clear hb5 s0 s1 s2 F4
      go_wp2
      refine bodyPost_ret (v := .tuple #[.int .u32 R, .int .i64 0]) (by simp [results, Tryd.results16, go_sem]) rfl ?_
      exact ⟨rfl, F5.out.bel⟩
  · clear hc1
    go_wp2
    refine bodyPost_ret (v := .tuple #[.int .u32 0, .int .i64 2]) (by simp [results, Tryd.results16, go_sem]) rfl ?_
    exact ⟨rfl, F4.out.bel⟩

set_option maxRecDepth 100000 in
set_option maxHeartbeats 8000000 in
theorem flDI_low (g : Bool) (a : Option Addr) (c : Nat) (zs : List Int) (E nb : Int) (v X Y Z R : Nat) (o : Bool) (w : World) (hn : zs.length ≤ 1048576) (hz : RowAt .u32 w a zs) (hv : validD g zs E = true) (b0 : 0 ≤ nb) (b1 : nb ≤ 100000)
    (hBL : ∀ W, RowAt .u32 W a zs → Calls Tryd.prog 52 #[.slice a zs.length c] W fun e w' => e = .returned (.int .i64 nb) ∧ w' = W)
    (hU : nb + E - 24 < -149)
    (hNe : ∀ W, RowAt .u32 W a zs → Calls Tryd.prog 53 #[.slice a zs.length c, .int .i64 (-149 - E)] W fun e w' => e = .returned (.int .u32 v) ∧ Below W.heap.size W w')
    (hX : floatOfInt .f64 (v : Int) = X)
    (hLd : ∀ W, Calls Tryd.prog 48 #[.float .f64 X, .int .i64 (-149)] W fun e w' => e = .returned (.float .f64 Y) ∧ Below W.heap.size W w')
    (ho : (FloatKind.f64.format.order Y 5183643170566569984 == some .gt) = o)
    (hY : Y < 9223372036854775808) (hZ : Ieee.double.word g Y = Z) (hR : o = false → floatToFloatBits .f64 Z .f32 = some R) :
    Calls Tryd.prog 16 #[.agg #[.bool g, .slice a zs.length c, .int .i64 E]] w fun e w' => e = .returned (.tuple #[.int .u32 (if o = true then 0 else (R : Int)), .int .i64 (if o = true then 2 else 0)]) ∧ Below w.heap.size w w' := by
  obtain ⟨vb1, hE0, hE1⟩ := validD_parts hv
  have B0 : Hid (∀ t, BxD w (.bool g) (.slice a zs.length c) (.int .i64 E) (w.alloc (.cells #[.bool g, .slice a zs.length c, .int .i64 E] t))) := fun t => BxD.start w _ _ _ _
  have hc1 : o = false → ∀ w, (convert 78 79 (.float .f64 Z)).run Tryd.prog w = .ok (.float .f32 R) w := fun ho w => run_convert_float_float w _ _ .f64 .f32 Z R (by rw [Tryd.underlying78]; rfl) Tryd.underlying79 (hR ho)
  have e1 := run_f32bits
  clear hR
  go_enter Tryd.func16, Tryd.ntmps16
  go_wp2_with fail
  refine (validsI_any _ 0 _ [⟨g, a, c, zs, E⟩] _ (by simp) ?_ (one_rowD ?_ ?_ ?_ ?_ (hz.later ((B0.out _).bel.trans ((bel0 _ _).mono (B0.out _).bel.size))))).mono ?_
  · intro d hd
    simp at hd
    subst hd
    exact hn
  · simp
  · simp [go_sem]
  · simp [go_sem]
  · simp [go_sem]
  rintro e w1 ⟨rfl, hb1⟩
  have HV : Hid ([(⟨g, a, c, zs, E⟩ : DV)].all DV.ok = true) := by unfold Hid; simp [DV.ok, hv]
  rw [HV.out]
  have F1 : Hid (BxD w (.bool g) (.slice a zs.length c) (.int .i64 E) w1) := ((B0.out _).later (bel0 _ _)).later hb1
  have s0 := F1.out.q0
  have s1 := F1.out.q1
  have s2 := F1.out.q2
  have HBL : Hid (∀ W, RowAt .u32 W a zs → Calls Tryd.prog 52 #[.slice a zs.length c] W fun e w' => e = .returned (.int .i64 nb) ∧ w' = W) := hBL
  have HNE : Hid (∀ W, RowAt .u32 W a zs → Calls Tryd.prog 53 #[.slice a zs.length c, .int .i64 (-149 - E)] W fun e w' => e = .returned (.int .u32 v) ∧ Below W.heap.size W w') := hNe
  have HLD : Hid (∀ W, Calls Tryd.prog 48 #[.float .f64 X, .int .i64 (-149)] W fun e w' => e = .returned (.float .f64 Y) ∧ Below W.heap.size W w') := hLd
  have HZ : Hid (RowAt .u32 w a zs) := hz
  clear hb1 B0 HV hv hz hBL hNe hLd vb1
  go_wp2
  go_quiet (first | (go_at_call 52; exact Calls.quiet_of_same (HBL.out _ (HZ.out.later (below_drewN F1.out.bel _)))))
  have F2 : Hid (BxD w (.bool g) (.slice a zs.length c) (.int .i64 E) (w1.drewN nq)) := F1.out.later (below_drewN (Below.refl _ _) _)
  clear s0 s1 s2 F1 HBL
  generalize w1.drewN nq = w2 at F2 ⊢
  have s0 := F2.out.q0
  have s1 := F2.out.q1
  have s2 := F2.out.q2
  go_wp2_with fail
  refine (HNE.out _ (HZ.out.later F2.out.bel)).mono ?_
  rintro e w3 ⟨rfl, hb3⟩
  have F3 : Hid (BxD w (.bool g) (.slice a zs.length c) (.int .i64 E) w3) := F2.out.later hb3
  clear hb3 s0 s1 s2 F2
  have s0 := F3.out.q0
  have s1 := F3.out.q1
  have s2 := F3.out.q2
  go_wp2_with fail
  refine (HLD.out _).mono ?_
  rintro e w4 ⟨rfl, hb4⟩
  have F4 : Hid (BxD w (.bool g) (.slice a zs.length c) (.int .i64 E) w4) := F3.out.later hb4
  clear hb4 s0 s1 s2 F3 HLD HNE
  have s0 := F4.out.q0
  have s1 := F4.out.q1
  have s2 := F4.out.q2
  cases o
  · have hc2 := hc1 rfl
    clear hc1
    cases g
    · have hz2 : Z = Y := hZ.symm
      subst hz2
      go_wp2
      refine bodyPost_ret (v := .tuple #[.int .u32 R, .int .i64 0]) (by simp [results, Tryd.results16, go_sem]) rfl ?_
      exact ⟨rfl, F4.out.bel⟩
    · have hz2 : Z = 9223372036854775808 + Y := hZ.symm
      subst hz2
      go_wp2_with fail
      refine (copysign_any Y _ hY).mono ?_
      rintro e w5 ⟨rfl, hb5⟩
      have F5 : Hid (BxD w (.bool true) (.slice a zs.length c) (.int .i64 E) w5) := F4.out.later hb5
      clear hb5 s0 s1 s2 F4
      go_wp2
      refine bodyPost_ret (v := .tuple #[.int .u32 R, .int .i64 0]) (by simp [results, Tryd.results16, go_sem]) rfl ?_
      exact ⟨rfl, F5.out.bel⟩
  · clear hc1
    go_wp2
    refine bodyPost_ret (v := .tuple #[.int .u32 0, .int .i64 2]) (by simp [results, Tryd.results16, go_sem]) rfl ?_
    exact ⟨rfl, F4.out.bel⟩

end Go.Proofs.YtladfpljnaippabDoor

/-
  The program's DyFloat, whole.
-/
namespace Go.Proofs.YtladfpljnaippabDoor
open Go.RowKit

theorem flDI_at (g : Bool) (a : Option Addr) (c : Nat) (zs : List Int) (E nb U : Int) (v X Y Z R : Nat) (o : Bool) (w : World) (hn : zs.length ≤ 1048576) (hz : RowAt .u32 w a zs) (hv : validD g zs E = true) (b0 : 0 ≤ nb) (b1 : nb ≤ 100000)
    (hBL : ∀ W, RowAt .u32 W a zs → Calls Tryd.prog 52 #[.slice a zs.length c] W fun e w' => e = .returned (.int .i64 nb) ∧ w' = W)
    (hU : U = max (nb + E - 24) (-149))
    (hNe : ∀ W, RowAt .u32 W a zs → Calls Tryd.prog 53 #[.slice a zs.length c, .int .i64 (U - E)] W fun e w' => e = .returned (.int .u32 v) ∧ Below W.heap.size W w')
    (hX : floatOfInt .f64 (v : Int) = X)
    (hLd : ∀ W, Calls Tryd.prog 48 #[.float .f64 X, .int .i64 U] W fun e w' => e = .returned (.float .f64 Y) ∧ Below W.heap.size W w')
    (ho : (FloatKind.f64.format.order Y 5183643170566569984 == some .gt) = o)
    (hY : Y < 9223372036854775808) (hZ : Ieee.double.word g Y = Z) (hR : o = false → floatToFloatBits .f64 Z .f32 = some R) :
    Calls Tryd.prog 16 #[.agg #[.bool g, .slice a zs.length c, .int .i64 E]] w fun e w' => e = .returned (.tuple #[.int .u32 (if o = true then 0 else (R : Int)), .int .i64 (if o = true then 2 else 0)]) ∧ Below w.heap.size w w' := by
  by_cases h : -149 ≤ nb + E - 24
  · have e : U = nb + E - 24 := by omega
    subst e
    exact flDI_up g a c zs E nb v X Y Z R o w hn hz hv b0 b1 hBL h hNe hX hLd ho hY hZ hR
  · have e : U = -149 := by omega
    subst e
    exact flDI_low g a c zs E nb v X Y Z R o w hn hz hv b0 b1 hBL (by omega) hNe hX hLd ho hY hZ hR

theorem max_zero : (FloatKind.f64.format.order 0 5183643170566569984 == some .gt) = false := by decide

theorem max_inf : (FloatKind.f64.format.order 9218868437227405312 5183643170566569984 == some .gt) = true := by decide

theorem max_fin {Y : Nat} (h : Y < 9218868437227405312) : (FloatKind.f64.format.order Y 5183643170566569984 == some .gt) = decide (5183643170566569984 < Y) := by
  rw [ord64 h (by decide)]
  rcases Int.lt_trichotomy (Y : Int) ((5183643170566569984 : Nat) : Int) with h1 | h1 | h1
  · rw [Int.compare_eq_lt.2 h1, decide_eq_false (by omega)]; rfl
  · rw [Int.compare_eq_eq.2 h1, decide_eq_false (by omega)]; rfl
  · rw [Int.compare_eq_gt.2 h1, decide_eq_true (by omega)]; rfl

theorem int_zero : floatOfInt .f64 ((0 : Nat) : Int) = 0 := by decide

theorem int_word {v L f : Nat} (hL : L ≤ 24) (h1 : 2 ^ L ≤ v) (h2 : v < 2 ^ (L + 1)) (hf : v * 2 ^ (52 - L) = 4503599627370496 + f) : floatOfInt .f64 (v : Int) = (L + 1023) * 4503599627370496 + f := by
  have h : floatOfInt .f64 (v : Int) = Ieee.double.nearest false v 0 := by
    show Ieee.double.nearest (decide ((v : Int) < 0)) (v : Int).natAbs 0 = _
    rw [decide_eq_false (by omega), Int.natAbs_natCast]
  rw [h]
  exact of_int hL h1 h2 hf

theorem rnd_zero (d : Int) : rnd 0 d = 0 := by
  unfold rnd
  simp

theorem flDI_nil (a : Option Addr) (c : Nat) (E : Int) (w : World) (hv : validD false [] E = true) :
    Calls Tryd.prog 16 #[.agg #[.bool false, .slice a ([] : List Int).length c, .int .i64 E]] w fun e w' => e = .returned (.tuple #[.int .u32 0, .int .i64 0]) ∧ Below w.heap.size w w' := by
  obtain ⟨_, hE0, hE1⟩ := validD_parts hv
  have h := flDI_at false a c [] E 0 (max (0 + E - 24) (-149)) 0 0 0 0 0 false w (by simp) (.inl rfl) hv (by decide) (by decide) (fun W _ => bitLen_nil a c W) rfl
    (fun W hW => (near_any a c [] (max (0 + E - 24) (-149) - E) W (by simp) (by omega) (by omega) hW ⟨Dig.nil _, rfl⟩ (by simp [val])).mono (by
      rintro e w1 ⟨rfl, hb⟩
      exact ⟨by rw [show val 4294967296 [] = 0 from rfl, rnd_zero]; rfl, hb⟩))
    int_zero (fun W => ldexpG_zero _ W) max_zero (by decide) rfl (fun _ => conv_back0 false)
  exact h

theorem flR_lt {N E : Int} {v : Nat} (hv : rnd N (plc N E - E) = v) : flR N E = ((v + (plc N E + 149).toNat * 8388608 : Nat) : Int) := by
  have := plc_ge N E
  unfold flR
  rw [hv]
  omega

theorem flDI_pos (g : Bool) (a : Option Addr) (c : Nat) (zs : List Int) (E : Int) (w : World) (hz : RowAt .u32 w a zs) (hu : U32 zs) (hv : validD g zs E = true) (hne : zs ≠ []) :
    Calls Tryd.prog 16 #[.agg #[.bool g, .slice a zs.length c, .int .i64 E]] w fun e w' => e = .returned (.tuple #[.int .u32 (flB true g (val 4294967296 zs) E), .int .i64 (flC true (val 4294967296 zs) E)]) ∧ Below w.heap.size w w' := by
  obtain ⟨vb, hE0, hE1⟩ := validD_parts hv
  obtain ⟨hcz, hn5, _⟩ := valid_canon hu vb
  have hpos := val_pos (B := 4294967296) (by decide) hcz hne
  obtain ⟨N, hN⟩ : ∃ N, N = val 4294967296 zs := ⟨_, rfl⟩
  rw [← hN] at hpos ⊢
  -- how many bits N has
  obtain ⟨n, hnl⟩ : ∃ n, n = N.toNat.log2 := ⟨_, rfl⟩
  have hN0 : N.toNat ≠ 0 := by omega
  have k1 : (2 : Int) ^ n ≤ N := by
    have := Nat.log2_self_le hN0
    rw [← hnl] at this
    have h2 : ((2 ^ n : Nat) : Int) ≤ N := by omega
    exact_mod_cast h2
  have k2 : N < (2 : Int) ^ (n + 1) := by
    have := @Nat.lt_log2_self N.toNat
    rw [← hnl] at this
    have h2 : N < ((2 ^ (n + 1) : Nat) : Int) := by omega
    exact_mod_cast h2
  have hBL : ∀ W, RowAt .u32 W a zs → Calls Tryd.prog 52 #[.slice a zs.length c] W fun e w' => e = .returned (.int .i64 ((n : Int) + 1)) ∧ w' = W := by
    intro W hW
    refine (bitLen_any a c zs W (by omega) hW hcz hne).mono ?_
    rintro e w1 ⟨m, rfl, _, m1, m2, rfl⟩
    rw [← hN] at m1 m2
    have := log2_of m1 m2
    exact ⟨by rw [hnl, this], rfl⟩
  have hn2 : n ≤ 20000 := by
    apply Nat.le_of_not_lt
    intro h
    have h1 := val_lt_pow (B := 4294967296) (by decide) hcz.1
    rw [← hN, show (4294967296 : Int) = 2 ^ 32 by decide, ← Int.pow_mul] at h1
    have h2 := pow2_mono (show 32 * zs.length ≤ n by omega)
    omega
  obtain ⟨P, hP⟩ : ∃ P, P = plc N E := ⟨_, rfl⟩
  have hPm : P = max ((n : Int) + 1 + E - 24) (-149) := by rw [hP]; exact plc_of k1 k2
  obtain ⟨r0, r1, r2⟩ := rnd_plc (E := E) k1 k2
  obtain ⟨v, hvv⟩ : ∃ v : Nat, rnd N (plc N E - E) = v := ⟨(rnd N (plc N E - E)).toNat, by omega⟩
  have hfl := flR_lt hvv
  rw [hvv] at r0 r1 r2
  rw [← hP] at hfl r2
  have hNe : ∀ W, RowAt .u32 W a zs → Calls Tryd.prog 53 #[.slice a zs.length c, .int .i64 (P - E)] W fun e w' => e = .returned (.int .u32 v) ∧ Below W.heap.size W w' := by
    intro W hW
    refine (near_any a c zs (P - E) W (by omega) (by omega) (by omega) hW hcz (by rw [← hN]; exact dbl_lt k2 (by omega))).mono ?_
    rintro e w1 ⟨rfl, hb⟩
    rw [← hN, hP, hvv]
    exact ⟨rfl, hb⟩
  by_cases hv0 : v = 0
  · subst hv0
    have hP9 : P = -149 := by
      by_cases h : P = -149
      · exact h
      · have := r2 h
        omega
    have hR0 : flR N E = 0 := by rw [hfl, hP9]; rfl
    refine (flDI_at g a c zs E ((n : Int) + 1) P 0 0 0 _ _ false w (by omega) hz hv (by omega) (by omega) hBL hPm hNe int_zero (fun W => ldexpG_zero _ W) max_zero (by decide) rfl (fun _ => conv_back0 g)).mono ?_
    rintro e w1 ⟨rfl, hb⟩
    refine ⟨?_, hb⟩
    unfold flB flC
    rw [hR0]
    have hNn : N ≠ 0 := by omega
    cases g
    · simp [hNn]
      rfl
    · simp [hNn]
      rfl
  · obtain ⟨L, f, hL, l1, l2, l24, hf, hvf⟩ := v_parts hv0 (by omega)
    have hu9 : P = -149 ∨ 23 ≤ L := by
      by_cases h : P = -149
      · exact .inl h
      · have := r2 h
        refine .inr (Nat.le_of_not_lt fun h3 => ?_)
        have h4 : 2 ^ (L + 1) ≤ 2 ^ 23 := Nat.pow_le_pow_right (by decide) (by omega)
        have e2 : 2 ^ 23 = 8388608 := by decide
        omega
    have hP0 : -149 ≤ P := by omega
    obtain ⟨G, hG⟩ : ∃ G : Nat, (G : Int) = L + 1023 + P := ⟨((L : Int) + 1023 + P).toNat, by omega⟩
    have hX := int_word hL l1 l2 hvf
    have hNn : N ≠ 0 := by omega
    by_cases hbig : G ≤ 2046
    · have hpm := past_max (G := G) hL l1 l2 l24 hvf hf hP0 hu9 hG
      have hlt : G * 4503599627370496 + f < 9218868437227405312 := by omega
      refine (flDI_at g a c zs E ((n : Int) + 1) P v ((L + 1023) * 4503599627370496 + f) (G * 4503599627370496 + f) _ (Ieee.single.word g (v + (P + 149).toNat * 8388608)) (decide (5183643170566569984 < G * 4503599627370496 + f)) w (by omega) hz hv (by omega) (by omega) hBL hPm hNe hX
        (fun W => ldexpG_any (L + 1023) f P G W hf (by omega) (by omega) (by omega) (by omega) hbig) (max_fin hlt) (by omega) rfl
        (fun ho => conv_back hL l1 l2 l24 hf hvf hP0 hu9 (by have := of_decide_eq_false ho; omega) hG)).mono ?_
      rintro e w1 ⟨rfl, hb⟩
      refine ⟨?_, hb⟩
      by_cases ho : 5183643170566569984 < G * 4503599627370496 + f
      · have h2 := hpm.1 ho
        have hB : flB true g N E = 0 := by
          unfold flB
          rw [hfl, if_neg (by rintro ⟨_, _, h⟩; omega)]
        have hC : flC true N E = 2 := by
          unfold flC
          rw [hfl, if_pos rfl, if_pos ⟨hNn, by omega⟩]
        rw [hB, hC, decide_eq_true ho]
        rfl
      · have h2 : ¬ 2139095040 ≤ v + (P + 149).toNat * 8388608 := fun h => ho (hpm.2 h)
        have hB : flB true g N E = ((v + (P + 149).toNat * 8388608 : Nat) : Int) + (if g = true then 2147483648 else 0) := by
          unfold flB
          rw [hfl, if_pos ⟨rfl, hNn, by omega⟩]
        have hC : flC true N E = 0 := by
          unfold flC
          rw [hfl, if_pos rfl, if_neg (by rintro ⟨_, h⟩; omega)]
        rw [hB, hC, decide_eq_false ho]
        cases g
        · show Ending.returned (.tuple #[.int .u32 ((v + (P + 149).toNat * 8388608 : Nat) : Int), .int .i64 0]) = Ending.returned (.tuple #[.int .u32 (((v + (P + 149).toNat * 8388608 : Nat) : Int) + 0), .int .i64 0])
          rw [Int.add_zero]
        · show Ending.returned (.tuple #[.int .u32 ((2147483648 + (v + (P + 149).toNat * 8388608) : Nat) : Int), .int .i64 0]) = Ending.returned (.tuple #[.int .u32 (((v + (P + 149).toNat * 8388608 : Nat) : Int) + 2147483648), .int .i64 0])
          rw [Int.natCast_add 2147483648, Int.add_comm]
          rfl
    · refine (flDI_at g a c zs E ((n : Int) + 1) P v ((L + 1023) * 4503599627370496 + f) 9218868437227405312 _ 0 true w (by omega) hz hv (by omega) (by omega) hBL hPm hNe hX
        (fun W => ldexpG_big (L + 1023) f P W hf (by omega) (by omega) (by omega) (by omega)) max_inf (by decide) rfl (fun ho => by cases ho)).mono ?_
      rintro e w1 ⟨rfl, hb⟩
      refine ⟨?_, hb⟩
      have hB : flB true g N E = 0 := by
        unfold flB
        rw [hfl, if_neg (by rintro ⟨_, _, h⟩; omega)]
      have hC : flC true N E = 2 := by
        unfold flC
        rw [hfl, if_pos rfl, if_pos ⟨hNn, by omega⟩]
      rw [hB, hC]
      rfl

/-- The program's DyFloat. -/
theorem flDI_any (g : Bool) (a : Option Addr) (c : Nat) (zs : List Int) (E : Int) (w : World) (hn : zs.length ≤ 1048576) (hz : RowAt .u32 w a zs) (hu : U32 zs) :
    Calls Tryd.prog 16 #[.agg #[.bool g, .slice a zs.length c, .int .i64 E]] w fun e w' => e = .returned (.tuple #[.int .u32 (flB (validD g zs E) g (val 4294967296 zs) E), .int .i64 (flC (validD g zs E) (val 4294967296 zs) E)]) ∧ Below w.heap.size w w' := by
  cases hv : validD g zs E
  · refine (flDI_bad g a c zs E w hn hz hv).mono ?_
    rintro e w1 ⟨rfl, hb⟩
    exact ⟨by unfold flB flC; simp, hb⟩
  · by_cases hne : zs = []
    · subst hne
      have hg : g = false := by
        cases g
        · rfl
        · exact absurd rfl ((valid_canon hu (validD_parts hv).1).2.2 rfl)
      subst hg
      refine (flDI_nil a c E w hv).mono ?_
      rintro e w1 ⟨rfl, hb⟩
      exact ⟨by unfold flB flC; simp [val], hb⟩
    · exact flDI_pos g a c zs E w hz hu hv hne

end Go.Proofs.YtladfpljnaippabDoor

/-
  The program's order of Bigs.
-/
namespace Go.Proofs.YtladfpljnaippabDoor
open Go.RowKit

/-- The order of two Bigs. -/
def ordB (g g' : Bool) (zs ys : List Int) : Int := if g = true ∧ g' = false then -1 else if g = false ∧ g' = true then 1 else if g = true then cmpL ys zs else cmpL zs ys

set_option maxHeartbeats 1000000 in
theorem orderOf_any (g g' : Bool) (a a' : Option Addr) (c c' : Nat) (zs ys : List Int) (w : World) (hn : zs.length ≤ 1048576) (hn' : ys.length ≤ 1048576) (hz : RowAt .u32 w a zs) (hy : RowAt .u32 w a' ys) :
    Calls Tryd.prog 99 #[.agg #[.bool g, .slice a zs.length c], .agg #[.bool g', .slice a' ys.length c']] w fun e w' => e = .returned (.int .i64 (ordB g g' zs ys)) ∧ Below w.heap.size w w' := by
  cases g
  · cases g'
    · have HO : Hid (ordB false false zs ys = cmpL zs ys) := by simp [Hid, ordB]
      go_enter Tryd.func99, Tryd.ntmps99
      go_wp2_with fail
      refine (order_any a a' c c' zs ys _ hn hn' (hz.later (bel2 _ _ _)) (hy.later (bel2 _ _ _))).mono ?_
      rintro e w1 ⟨rfl, hb⟩
      have HB : Hid (Below w.heap.size w w1) := (bel2 _ _ _).trans (hb.mono (by simp; omega))
      clear hb
      go_wp2
      go_ret
      exact ⟨ret_int HO.out.symm, HB.out⟩
    · go_enter Tryd.func99, Tryd.ntmps99
      go_wp2
      go_ret
      exact ⟨ret_int (by simp [ordB]), bel2 _ _ _⟩
  · cases g'
    · go_enter Tryd.func99, Tryd.ntmps99
      go_wp2
      go_ret
      exact ⟨ret_int (by simp [ordB]), bel2 _ _ _⟩
    · have HO : Hid (ordB true true zs ys = cmpL ys zs) := by simp [Hid, ordB]
      go_enter Tryd.func99, Tryd.ntmps99
      go_wp2_with fail
      refine (order_any a' a c' c ys zs _ hn' hn (hy.later (bel2 _ _ _)) (hz.later (bel2 _ _ _))).mono ?_
      rintro e w1 ⟨rfl, hb⟩
      have HB : Hid (Below w.heap.size w w1) := (bel2 _ _ _).trans (hb.mono (by simp; omega))
      clear hb
      go_wp2
      go_ret
      exact ⟨ret_int HO.out.symm, HB.out⟩

end Go.Proofs.YtladfpljnaippabDoor

/-
  The program's BigCmp.
-/
namespace Go.Proofs.YtladfpljnaippabDoor
open Go.RowKit

/-- BigCmp's two answers. -/
def cmpR (g g' : Bool) (zs ys : List Int) : Int := if validB g zs = true ∧ validB g' ys = true then sgn (sg g (val 4294967296 zs) - sg g' (val 4294967296 ys)) else 0
def cmpK (g g' : Bool) (zs ys : List Int) : Int := if validB g zs = true ∧ validB g' ys = true then 0 else 1

theorem sgn_of_pos {x : Int} (h : 0 < x) : sgn x = 1 := by unfold sgn; rw [if_neg (by omega), if_neg (by omega)]
theorem sgn_of_neg {x : Int} (h : x < 0) : sgn x = -1 := by unfold sgn; rw [if_pos h]
theorem sgn_neg (x : Int) : sgn (-x) = - sgn x := by
  rcases sgn_cases x with ⟨h1, h2⟩ | ⟨h1, h2⟩ | ⟨h1, h2⟩
  · rw [h2, sgn_of_pos (by omega)]; rfl
  · rw [h2, h1]; rfl
  · rw [h2, sgn_of_neg (by omega)]

theorem ord_val {g g' : Bool} {zs ys : List Int} (hu : U32 zs) (hu' : U32 ys) (v1 : validB g zs = true) (v2 : validB g' ys = true) : ordB g g' zs ys = sgn (sg g (val 4294967296 zs) - sg g' (val 4294967296 ys)) := by
  obtain ⟨c1, _, n1⟩ := valid_canon hu v1
  obtain ⟨c2, _, n2⟩ := valid_canon hu' v2
  have p1 := val_nonneg (B := 4294967296) (by decide) c1.1
  have p2 := val_nonneg (B := 4294967296) (by decide) c2.1
  cases g <;> cases g'
  · simp only [ordB, sg]
    rw [if_neg (by simp), if_neg (by simp), if_neg (by simp), cmpL_val (by decide) c1 c2]
    rfl
  · have := val_pos (B := 4294967296) (by decide) c2 (n2 rfl)
    simp only [ordB, sg]
    rw [if_neg (by simp), if_pos (by simp)]
    simp only [Bool.false_eq_true, if_false, if_true]
    rw [sgn_of_pos (by omega)]
  · have := val_pos (B := 4294967296) (by decide) c1 (n1 rfl)
    simp only [ordB, sg]
    rw [if_pos (by simp)]
    simp only [Bool.false_eq_true, if_false, if_true]
    rw [sgn_of_neg (by omega)]
  · simp only [ordB, sg]
    rw [if_neg (by simp), if_neg (by simp)]
    simp only [if_true]
    rw [cmpL_val (by decide) c2 c1]
    congr 1
    omega

end Go.Proofs.YtladfpljnaippabDoor

/-
  The program's DyCmp.
-/
namespace Go.Proofs.YtladfpljnaippabDoor
open Go.RowKit

set_option maxRecDepth 100000 in
set_option maxHeartbeats 8000000 in
theorem cmpDI_bad (g g' : Bool) (a a' : Option Addr) (c c' : Nat) (zs ys : List Int) (E E' : Int) (w : World) (hn : zs.length ≤ 1048576) (hn' : ys.length ≤ 1048576) (hz : RowAt .u32 w a zs) (hy : RowAt .u32 w a' ys) (v : (validD g zs E && validD g' ys E') = false) :
    Calls Tryd.prog 20 #[.agg #[.bool g, .slice a zs.length c, .int .i64 E], .agg #[.bool g', .slice a' ys.length c', .int .i64 E']] w fun e w' => e = .returned (.tuple #[.int .i64 0, .int .i64 1]) ∧ Below w.heap.size w w' := by
  go_enter Tryd.func20, Tryd.ntmps20
  go_wp2_with fail
  refine (validsI_any _ 0 _ [⟨g, a, c, zs, E⟩, ⟨g', a', c', ys, E'⟩] _ (by simp) ?_ (two_rowD ?_ ?_ ?_ ?_ ?_ ?_ ?_ (hz.later (bel3 _ _ _ _)) (hy.later (bel3 _ _ _ _)))).mono ?_
  · intro d hd
    simp at hd
    rcases hd with rfl | rfl
    · exact hn
    · exact hn'
  · simp
  · simp [go_sem]
  · simp [go_sem]
  · simp [go_sem]
  · simp [go_sem]
  · simp [go_sem]
  · simp [go_sem]
  · rintro e w1 ⟨rfl, hb1⟩
    have HV : Hid ([(⟨g, a, c, zs, E⟩ : DV), ⟨g', a', c', ys, E'⟩].all DV.ok = false) := by unfold Hid; simpa [DV.ok] using v
    rw [HV.out]
    have HB : Hid (Below w.heap.size w w1) := (bel3 _ _ _ _).trans (hb1.mono (by simp; omega))
    clear hb1
    go_wp2
    refine bodyPost_ret (v := .tuple #[.int .i64 0, .int .i64 1]) (by simp [results, Tryd.results20, go_sem]) rfl ?_
    exact ⟨rfl, HB.out⟩

end Go.Proofs.YtladfpljnaippabDoor

/-
  The program's sign of a Big.
-/
namespace Go.Proofs.YtladfpljnaippabDoor
open Go.RowKit

theorem ord_B1 {g g' : Bool} {zs ys : List Int} {x y : Int} (h : B1 g zs x) (h' : B1 g' ys y) : ordB g g' zs ys = sgn (x - y) := by
  have p1 := val_nonneg (B := 4294967296) (by decide) h.can.1
  have p2 := val_nonneg (B := 4294967296) (by decide) h'.can.1
  rw [h.num, h'.num]
  cases g <;> cases g'
  · simp only [ordB, sg]
    rw [if_neg (by simp), if_neg (by simp), if_neg (by simp), cmpL_val (by decide) h.can h'.can]
    rfl
  · have := val_pos (B := 4294967296) (by decide) h'.can (h'.zero rfl)
    simp only [ordB, sg]
    rw [if_neg (by simp), if_pos (by simp)]
    simp only [Bool.false_eq_true, if_false, if_true]
    unfold sgn
    rw [if_neg (by omega), if_neg (by omega)]
  · have := val_pos (B := 4294967296) (by decide) h.can (h.zero rfl)
    simp only [ordB, sg]
    rw [if_pos (by simp)]
    simp only [Bool.false_eq_true, if_false, if_true]
    unfold sgn
    rw [if_pos (by omega)]
  · simp only [ordB, sg]
    rw [if_neg (by simp), if_neg (by simp)]
    simp only [if_true]
    rw [cmpL_val (by decide) h'.can h.can]
    congr 1
    omega

theorem B1.nil : B1 false [] 0 := ⟨⟨Dig.nil _, rfl⟩, by simp [Go.Proofs.YtladfpljnaippabDoor.sg, val], fun h => by cases h⟩

set_option maxHeartbeats 1000000 in
theorem signB_any (g : Bool) (a : Option Addr) (c : Nat) (zs : List Int) (x : Int) (w : World) (hn : zs.length ≤ 1048576) (hz : RowAt .u32 w a zs) (h : B1 g zs x) :
    Calls Tryd.prog 66 #[.agg #[.bool g, .slice a zs.length c]] w fun e w' => e = .returned (.int .i64 (sgn x)) ∧ Below w.heap.size w w' := by
  go_enter Tryd.func66, Tryd.ntmps66
  go_wp2_with fail
  refine (orderOf_any g false a none c 0 zs [] _ hn (by simp) (hz.later (bel0 _ _)) (.inl rfl)).mono ?_
  rintro e w1 ⟨rfl, hb1⟩
  rw [ord_B1 h B1.nil, Int.sub_zero]
  have HB : Hid (Below w.heap.size w w1) := (bel0 _ _).trans (hb1.mono (by simp))
  clear hb1
  go_wp2
  go_ret
  exact ⟨rfl, HB.out⟩

end Go.Proofs.YtladfpljnaippabDoor

/-
  The program's negated Bigs, and its one.
-/
namespace Go.Proofs.YtladfpljnaippabDoor
open Go.RowKit

set_option maxRecDepth 100000 in
set_option maxHeartbeats 4000000 in
theorem negB_any (g : Bool) (a : Option Addr) (n c : Nat) (w : World) :
    Calls Tryd.prog 84 #[.agg #[.bool g, .slice a n c]] w fun e w' => e = .returned (.agg #[.bool (!g && decide (0 < n)), .slice a n c]) ∧ Below w.heap.size w w' := by
  have B0 : Hid (∀ t t', Bx1 w (.bool g) (.slice a n c) ((w.alloc (.cells #[.bool g, .slice a n c] t)).alloc (.cells #[.bool false, .slice none 0 0] t'))) := fun t t' => Bx1.start w _ _ _ _
  go_enter Tryd.func84, Tryd.ntmps84
  go_wp2_with fail
  refine (signed_any (!g) a n c _).mono ?_
  rintro e w2 ⟨rfl, hb2⟩
  have F2 : Hid (Bx1 w (.bool g) (.slice a n c) w2) := (B0.out _ _).later hb2
  have r1 := F2.out.r1
  have r2 := F2.out.r2
  have r3 := F2.out.r3
  have zz : w.heap.size + 1 < w2.heap.size := F2.out.le
  clear hb2 B0
  obtain ⟨G, hG⟩ : ∃ G, G = (!g && decide (0 < n)) := ⟨_, rfl⟩
  rw [← hG]
  have HG : Hid (G = (!g && decide (0 < n))) := hG
  clear hG
  go_wp2
  refine bodyPost_ret (v := .agg #[.bool G, .slice a n c]) (by simp [results, Tryd.results84, go_sem, r1, r2]) rfl ?_
  exact ⟨by rw [HG.out], (F2.out.bel.setCell (by simp) _).setCell (by simp) _⟩

end Go.Proofs.YtladfpljnaippabDoor

/-
  The program's negatives of dyadic numbers.
-/
namespace Go.Proofs.YtladfpljnaippabDoor
open Go.RowKit

set_option maxRecDepth 100000 in
set_option maxHeartbeats 4000000 in
theorem negI_any (g : Bool) (a : Option Addr) (c : Nat) (zs : List Int) (E : Int) (w : World) :
    Calls Tryd.prog 41 #[.agg #[.bool g, .slice a zs.length c, .int .i64 E]] w fun e w' => e = .returned (.agg #[.bool (!g && decide (0 < zs.length)), .slice a zs.length c, .int .i64 E]) ∧ Below w.heap.size w w' := by
  have B0 : Hid (∀ t t', Bx3 w (.bool g) (.slice a zs.length c) (.int .i64 E) ((w.alloc (.cells #[.bool g, .slice a zs.length c, .int .i64 E] t)).alloc (.cells #[.bool false, .slice none 0 0, .int .i64 0] t'))) := fun t t' => Bx3.start w _ _ _ _ _
  go_enter Tryd.func41, Tryd.ntmps41
  go_wp2
  obtain ⟨W0, hW0⟩ : ∃ W0, W0 = ((w.alloc (.cells #[.bool g, .slice a zs.length c, .int .i64 E] 29)).alloc (.cells #[.bool false, .slice none 0 0, .int .i64 0] 29)) := ⟨_, rfl⟩
  have F : Hid (Bx3 w (.bool g) (.slice a zs.length c) (.int .i64 E) W0) := by unfold Hid; rw [hW0]; exact B0.out _ _
  rw [← hW0]
  clear hW0 B0
  have zz : w.heap.size + 1 < W0.heap.size := F.out.le
  go_region_held3 (fun w' => w'.cell? ⟨w.heap.size, 0, none⟩ = some (.bool g) ∧ w'.cell? ⟨w.heap.size, 1, none⟩ = some (.slice a zs.length c) ∧ w'.cell? ⟨w.heap.size, 2, none⟩ = some (.int .i64 E) ∧ Below (w.heap.size + 1) W0 w')
    (first | exact F.out.held (Below.refl _ _).drew | exact F.out.held (by assumption) | exact F.out.held (Below.setCell (Below.setCell (Below.setCell (by assumption) (by simp) _) (by simp) _) (by simp) _))
    (first
      | (go_at_call 84; refine (negB_any g a zs.length c _).mono ?_; rintro e w2 ⟨rfl, hb2⟩; have hB2 : Below W0.heap.size W0 w2 := (Below.refl _ _).drew.trans hb2; have hB2' : Below (w.heap.size + 1) W0 w2 := hB2.mono (by omega); have F2 : Hid (Bx3 w (.bool g) (.slice a zs.length c) (.int .i64 E) w2) := F.out.later hB2; have r1 := F2.out.r1; have r2 := F2.out.r2; have r3 := F2.out.r3; have r4 := F2.out.r4))
  clear hB2 hB2' hb2
  obtain ⟨G, hG⟩ : ∃ G, G = (!g && decide (0 < zs.length)) := ⟨_, rfl⟩
  rw [← hG]
  have HG : Hid (G = (!g && decide (0 < zs.length))) := hG
  clear hG
  go_wp2
  refine bodyPost_ret (v := .agg #[.bool G, .slice a zs.length c, .int .i64 E]) (by simp [results, Tryd.results41, go_sem, r1, r2, r3]) rfl ?_
  exact ⟨by rw [HG.out], ((F2.out.bel.setCell (by simp) _).setCell (by simp) _).setCell (by simp) _⟩

end Go.Proofs.YtladfpljnaippabDoor
