/-
  The library's functions on words of 64 bits: Abs, IsNaN, IsInf, Frexp, Ldexp, Signbit.
-/
import Derived.Test.YtladfpljnaippaaBase
import Derived.Test.YtladfpljnaippaaNumG
import Derived.Laws.Externs
namespace Go.Proofs.Ytladfpljnaippaa
open Go.RowKit

theorem run_f64bits (n : Nat) (w : World) : (callFunc 62 #[.float .f64 n]).run Try.prog w = .ok (.value (.int .u64 n)) w := by
  rw [run_callFunc_extern (e := Extern.MathFloatBits.float64bits) Try.func62 (by kernel_rfl) (by kernel_rfl) (by kernel_rfl) (by kernel_rfl)]
  rfl

theorem run_f64from (b : Int) (w : World) : (callFunc 61 #[.int .u64 b]).run Try.prog w = .ok (.value (.float .f64 b.toNat)) w := by
  rw [run_callFunc_extern (e := Extern.MathFloatBits.float64frombits) Try.func61 (by kernel_rfl) (by kernel_rfl) (by kernel_rfl) (by kernel_rfl)]
  rfl

theorem run_frombits32 (b : Int) (w : World) : (callFunc 19 #[.int .u32 b]).run Try.prog w = .ok (.value (.float .f32 b.toNat)) w := by
  rw [run_callFunc_extern (e := Extern.MathFloatBits.float32frombits) Try.func19 (by kernel_rfl) (by kernel_rfl) (by kernel_rfl) (by kernel_rfl)]
  rfl

set_option maxHeartbeats 1000000 in
theorem absF_any (W X : Nat) (w : World) (hW : W < 18446744073709551616) (hX : W % 9223372036854775808 = X) :
    Calls Try.prog 81 #[.float .f64 W] w fun e w' => e = .returned (.float .f64 X) ∧ Below w.heap.size w w' := by
  have hb := bits_abs W hW
  rw [hX] at hb
  have h1 := run_f64bits
  have h2 := run_f64from
  clear hX hW
  go_enter Try.func81, Try.ntmps81
  go_wp2
  go_ret
  exact ⟨by simp, Below.refl _ _⟩

theorem isNaN64_any (W : Nat) (b : Bool) (w : World) (h : (FloatKind.f64.format.order W W != some .eq) = b) :
    Calls Try.prog 71 #[.float .f64 W] w fun e w' => e = .returned (.bool b) ∧ Below w.heap.size w w' := by
  go_enter Try.func71, Try.ntmps71
  go_wp2
  go_ret
  exact ⟨by rw [← h]; rfl, Below.refl _ _⟩

set_option maxHeartbeats 1000000 in
theorem isInf64_any (W X : Nat) (b : Bool) (w : World) (hW : W < 18446744073709551616) (hX : W % 9223372036854775808 = X) (h : (FloatKind.f64.format.order X 9218868437227405311 == some .gt) = b) :
    Calls Try.prog 70 #[.float .f64 W, .int .i64 0] w fun e w' => e = .returned (.bool b) ∧ Below w.heap.size w w' := by
  have HH : Hid ((FloatKind.f64.format.order X 9218868437227405311 == some .gt) = b) := h
  clear h
  go_enter Try.func70, Try.ntmps70
  go_wp2_with fail
  refine (absF_any W X _ hW hX).mono ?_
  rintro e w1 ⟨rfl, hb1⟩
  have HB : Hid (Below w.heap.size w w1) := hb1
  clear hb1
  go_wp2
  go_ret
  exact ⟨by rw [← HH.out]; rfl, HB.out⟩

theorem ord64 {X Y : Nat} (hX : X < 9218868437227405312) (hY : Y < 9218868437227405312) : FloatKind.f64.format.order X Y = some (compare (X : Int) (Y : Int)) := double_order hX hY

set_option maxHeartbeats 1000000 in
theorem normF_any (X : Nat) (w : World) (h1 : 4503599627370496 ≤ X) (h2 : X < 9218868437227405312) :
    Calls Try.prog 72 #[.float .f64 X] w fun e w' => e = .returned (.tuple #[.float .f64 X, .int .i64 0]) ∧ Below w.heap.size w w' := by
  have ho : (FloatKind.f64.format.order X 4503599627370496 == some .lt) = false := by
    rw [ord64 h2 (by decide), order_lt]
    simp
    omega
  go_enter Try.func72, Try.ntmps72
  go_wp2_with fail
  refine (absF_any X X _ (by omega) (Nat.mod_eq_of_lt (by omega))).mono ?_
  rintro e w1 ⟨rfl, hb1⟩
  have HB : Hid (Below w.heap.size w w1) := hb1
  clear hb1
  go_wp2
  refine bodyPost_ret (v := .tuple #[.float .f64 X, .int .i64 0]) (by simp [results, Try.results72, go_sem]) rfl ?_
  exact ⟨rfl, HB.out⟩

theorem fin64 {X : Nat} (h : X < 9218868437227405312) : (FloatKind.f64.format.order X X != some .eq) = false ∧ (FloatKind.f64.format.order X 9218868437227405311 == some .gt) = false := by
  constructor
  · rw [ord64 h h]
    exact order_self
  · rw [ord64 h (by decide), order_gt]
    simp
    omega

set_option maxHeartbeats 4000000 in
theorem ldexp_any (f : Nat) (w : World) (hf : f < 4503599627370496) :
    Calls Try.prog 33 #[.float .f64 (1022 * 4503599627370496 + f), .int .i64 24] w fun e w' => e = .returned (.float .f64 (1046 * 4503599627370496 + f)) ∧ Below w.heap.size w w' := by
  obtain ⟨X, hX⟩ : ∃ X, X = 1022 * 4503599627370496 + f := ⟨_, rfl⟩
  obtain ⟨Y, hY⟩ : ∃ Y, Y = 1046 * 4503599627370496 + f := ⟨_, rfl⟩
  rw [← hX, ← hY]
  have hlt : X < 9218868437227405312 := by omega
  obtain ⟨o1, o2⟩ := fin64 hlt
  have o3 : (FloatKind.f64.format.order X 0 == some .eq) = false := by
    rw [ord64 hlt (by decide), Int.compare_eq_gt.2 (by omega)]
    rfl
  have q1 : (X : Int) / 4503599627370496 = 1022 := by omega
  have q2 : bits .and .i64 1022 2047 = 1022 := bits_expI 1022 (by decide)
  have q3 := bits_frac X (by omega)
  rw [show X % 4503599627370496 = f by omega] at q3
  have q4 := bits_join f 1046 hf (by decide)
  rw [show ((1046 * 4503599627370496 : Nat) : Int) = 4710765210229538816 from rfl, ← hY] at q4
  have q5 := mul_one_word (F := 1046) (f := f) (by decide) (by decide) hf
  rw [← hY] at q5
  have hop : ∀ t w, (binOp .mul t (.float .f64 4607182418800017408) (.float .f64 Y)).run Try.prog w = .ok (.float .f64 Y) w := fun t w => run_float_arith w .mul t .f64 _ _ _ q5
  have e1 := run_f64bits
  have e2 := run_f64from
  have HX : Hid (X = 1022 * 4503599627370496 + f) := hX
  clear hX hY q5
  have LD : ∀ w, Calls Try.prog 58 #[.float .f64 X, .int .i64 24] w fun e w' => e = .returned (.float .f64 Y) ∧ Below w.heap.size w w' := by
    intro w
    go_enter Try.func58, Try.ntmps58
    go_wp2_with fail
    refine (isInf64_any X X false _ (by omega) (Nat.mod_eq_of_lt (by omega)) o2).mono ?_
    rintro e w1 ⟨rfl, hb1⟩
    go_wp2_with fail
    refine (isNaN64_any X false _ o1).mono ?_
    rintro e w2 ⟨rfl, hb2⟩
    go_wp2_with fail
    refine (normF_any X _ (by have := HX.out; omega) hlt).mono ?_
    rintro e w3 ⟨rfl, hb3⟩
    have HB : Hid (Below w.heap.size w w3) := (hb1.trans (hb2.mono hb1.size)).trans (hb3.mono (Nat.le_trans hb1.size hb2.size))
    clear hb1 hb2 hb3
    go_wp2
    go_ret
    exact ⟨by simp, HB.out⟩
  go_enter Try.func33, Try.ntmps33
  go_wp2_with fail
  refine (LD _).mono ?_
  rintro e w1 ⟨rfl, hb1⟩
  have HB : Hid (Below w.heap.size w w1) := hb1
  clear hb1 LD
  go_wp2
  go_ret
  exact ⟨rfl, HB.out⟩

set_option maxHeartbeats 1000000 in
theorem ldexp_zero (w : World) :
    Calls Try.prog 33 #[.float .f64 0, .int .i64 24] w fun e w' => e = .returned (.float .f64 0) ∧ Below w.heap.size w w' := by
  have o3 : (FloatKind.f64.format.order 0 0 == some .eq) = true := by decide
  have LD : ∀ w, Calls Try.prog 58 #[.float .f64 0, .int .i64 24] w fun e w' => e = .returned (.float .f64 0) ∧ Below w.heap.size w w' := by
    intro w
    go_enter Try.func58, Try.ntmps58
    go_wp2
    go_ret
    exact ⟨rfl, Below.refl _ _⟩
  go_enter Try.func33, Try.ntmps33
  go_wp2_with fail
  refine (LD _).mono ?_
  rintro e w1 ⟨rfl, hb1⟩
  have HB : Hid (Below w.heap.size w w1) := hb1
  clear hb1 LD
  go_wp2
  go_ret
  exact ⟨rfl, HB.out⟩

end Go.Proofs.Ytladfpljnaippaa

/-
  math.Ldexp by any power; math.Copysign.
-/
namespace Go.Proofs.Ytladfpljnaippaa
open Go.RowKit

set_option maxHeartbeats 4000000 in
theorem ldexpG_any (F f : Nat) (u : Int) (G : Nat) (w : World) (hf : f < 4503599627370496) (F1 : 1 ≤ F) (F2 : F ≤ 2046) (hu : (G : Int) = F + u) (G1 : 1 ≤ G) (G2 : G ≤ 2046) :
    Calls Try.prog 33 #[.float .f64 (F * 4503599627370496 + f), .int .i64 u] w fun e w' => e = .returned (.float .f64 (G * 4503599627370496 + f)) ∧ Below w.heap.size w w' := by
  obtain ⟨X, hX⟩ : ∃ X, X = F * 4503599627370496 + f := ⟨_, rfl⟩
  obtain ⟨Y, hY⟩ : ∃ Y, Y = G * 4503599627370496 + f := ⟨_, rfl⟩
  rw [← hX, ← hY]
  have hlt : X < 9218868437227405312 := by omega
  obtain ⟨o1, o2⟩ := fin64 hlt
  have o3 : (FloatKind.f64.format.order X 0 == some .eq) = false := by
    rw [ord64 hlt (by decide), Int.compare_eq_gt.2 (by omega)]
    rfl
  have q1 : (X : Int) / 4503599627370496 = F := by omega
  have q2 : bits .and .i64 (F : Int) 2047 = F := bits_expI F (by omega)
  have q3 := bits_frac X (by omega)
  rw [show X % 4503599627370496 = f by omega] at q3
  have q4 := bits_join f G hf (by omega)
  rw [← hY] at q4
  have q5 := mul_one_word (F := G) (f := f) (by omega) (by omega) hf
  rw [← hY] at q5
  have hop : ∀ t w, (binOp .mul t (.float .f64 4607182418800017408) (.float .f64 Y)).run Try.prog w = .ok (.float .f64 Y) w := fun t w => run_float_arith w .mul t .f64 _ _ _ q5
  have e1 := run_f64bits
  have e2 := run_f64from
  have HX : Hid (X = F * 4503599627370496 + f) := hX
  have u1 : u = (G : Int) - F := by omega
  have v1 : (G : Int) ≤ 2046 := by omega
  have v2 : (1 : Int) ≤ G := by omega
  have v3 : (F : Int) ≤ 2046 := by omega
  have v4 : (1 : Int) ≤ F := by omega
  have q6 : (G : Int) * 4503599627370496 = ((G * 4503599627370496 : Nat) : Int) := by omega
  rw [← q6] at q4
  have hY0 : Y < 18446744073709551616 := by omega
  clear hX hY q5 hu q6
  subst u1
  have LD : ∀ w, Calls Try.prog 58 #[.float .f64 X, .int .i64 ((G : Int) - F)] w fun e w' => e = .returned (.float .f64 Y) ∧ Below w.heap.size w w' := by
    intro w
    go_enter Try.func58, Try.ntmps58
    go_wp2_with fail
    refine (isInf64_any X X false _ (by omega) (Nat.mod_eq_of_lt (by omega)) o2).mono ?_
    rintro e w1 ⟨rfl, hb1⟩
    go_wp2_with fail
    refine (isNaN64_any X false _ o1).mono ?_
    rintro e w2 ⟨rfl, hb2⟩
    go_wp2_with fail
    refine (normF_any X _ (by have := HX.out; omega) hlt).mono ?_
    rintro e w3 ⟨rfl, hb3⟩
    have HB : Hid (Below w.heap.size w w3) := (hb1.trans (hb2.mono hb1.size)).trans (hb3.mono (Nat.le_trans hb1.size hb2.size))
    have z1 : (G : Int) - F + (F - 1023) = G - 1023 := by omega
    have z2 : (G : Int) - 1023 + 1023 = G := by omega
    clear hb1 hb2 hb3
    go_wp2
    go_ret
    exact ⟨by simp, HB.out⟩
  go_enter Try.func33, Try.ntmps33
  go_wp2_with fail
  refine (LD _).mono ?_
  rintro e w1 ⟨rfl, hb1⟩
  have HB : Hid (Below w.heap.size w w1) := hb1
  clear hb1 LD
  go_wp2
  go_ret
  exact ⟨rfl, HB.out⟩

set_option maxHeartbeats 1000000 in
theorem inf_any (w : World) : Calls Try.prog 73 #[.int .i64 1] w fun e w' => e = .returned (.float .f64 9218868437227405312) ∧ Below w.heap.size w w' := by
  have e2 := run_f64from
  go_enter Try.func73, Try.ntmps73
  go_wp2
  go_ret
  exact ⟨by simp, Below.refl _ _⟩

set_option maxHeartbeats 4000000 in
theorem ldexpG_big (F f : Nat) (u : Int) (w : World) (hf : f < 4503599627370496) (F1 : 1 ≤ F) (F2 : F ≤ 2046) (u1 : 2046 < F + u) (u2 : u ≤ 1000000) :
    Calls Try.prog 33 #[.float .f64 (F * 4503599627370496 + f), .int .i64 u] w fun e w' => e = .returned (.float .f64 9218868437227405312) ∧ Below w.heap.size w w' := by
  obtain ⟨X, hX⟩ : ∃ X, X = F * 4503599627370496 + f := ⟨_, rfl⟩
  rw [← hX]
  have hlt : X < 9218868437227405312 := by omega
  obtain ⟨o1, o2⟩ := fin64 hlt
  have o3 : (FloatKind.f64.format.order X 0 == some .eq) = false := by
    rw [ord64 hlt (by decide), Int.compare_eq_gt.2 (by omega)]
    rfl
  have o4 : (FloatKind.f64.format.order X 0 == some .lt) = false := by
    rw [ord64 hlt (by decide), Int.compare_eq_gt.2 (by omega)]
    rfl
  have q1 : (X : Int) / 4503599627370496 = F := by omega
  have q2 : bits .and .i64 (F : Int) 2047 = F := bits_expI F (by omega)
  have e1 := run_f64bits
  have HX : Hid (X = F * 4503599627370496 + f) := hX
  have v3 : (F : Int) ≤ 2046 := by omega
  have v4 : (1 : Int) ≤ F := by omega
  have z1 : 1023 < u + (F - 1023) := by omega
  clear hX
  have LD : ∀ w, Calls Try.prog 58 #[.float .f64 X, .int .i64 u] w fun e w' => e = .returned (.float .f64 9218868437227405312) ∧ Below w.heap.size w w' := by
    intro w
    go_enter Try.func58, Try.ntmps58
    go_wp2_with fail
    refine (isInf64_any X X false _ (by omega) (Nat.mod_eq_of_lt (by omega)) o2).mono ?_
    rintro e w1 ⟨rfl, hb1⟩
    go_wp2_with fail
    refine (isNaN64_any X false _ o1).mono ?_
    rintro e w2 ⟨rfl, hb2⟩
    go_wp2_with fail
    refine (normF_any X _ (by have := HX.out; omega) hlt).mono ?_
    rintro e w3 ⟨rfl, hb3⟩
    have HB : Hid (Below w.heap.size w w3) := (hb1.trans (hb2.mono hb1.size)).trans (hb3.mono (Nat.le_trans hb1.size hb2.size))
    clear hb1 hb2 hb3
    go_wp2_with fail
    refine (inf_any _).mono ?_
    rintro e w4 ⟨rfl, hb4⟩
    have HB2 : Hid (Below w.heap.size w w4) := HB.out.trans (hb4.mono HB.out.size)
    clear hb4 HB
    go_wp2
    go_ret
    exact ⟨by simp, HB2.out⟩
  go_enter Try.func33, Try.ntmps33
  go_wp2_with fail
  refine (LD _).mono ?_
  rintro e w1 ⟨rfl, hb1⟩
  have HB : Hid (Below w.heap.size w w1) := hb1
  clear hb1 LD
  go_wp2
  go_ret
  exact ⟨rfl, HB.out⟩

set_option maxHeartbeats 1000000 in
theorem ldexpG_zero (u : Int) (w : World) :
    Calls Try.prog 33 #[.float .f64 0, .int .i64 u] w fun e w' => e = .returned (.float .f64 0) ∧ Below w.heap.size w w' := by
  have o3 : (FloatKind.f64.format.order 0 0 == some .eq) = true := by decide
  have LD : ∀ w, Calls Try.prog 58 #[.float .f64 0, .int .i64 u] w fun e w' => e = .returned (.float .f64 0) ∧ Below w.heap.size w w' := by
    intro w
    go_enter Try.func58, Try.ntmps58
    go_wp2
    go_ret
    exact ⟨rfl, Below.refl _ _⟩
  go_enter Try.func33, Try.ntmps33
  go_wp2_with fail
  refine (LD _).mono ?_
  rintro e w1 ⟨rfl, hb1⟩
  have HB : Hid (Below w.heap.size w w1) := hb1
  clear hb1 LD
  go_wp2
  go_ret
  exact ⟨rfl, HB.out⟩

theorem bits_neg (a : Nat) (h : a < 9223372036854775808) : bits .or .u64 (a : Int) 9223372036854775808 = ((9223372036854775808 + a : Nat) : Int) := by
  have e2 : (BitVec.ofInt 64 (a : Int) ||| BitVec.ofInt 64 9223372036854775808).toNat = 9223372036854775808 + a := by
    rw [BitVec.toNat_or, ofInt64 a (by omega), show (BitVec.ofInt 64 9223372036854775808).toNat = 2 ^ 63 * 1 by decide, Nat.or_comm, ← Nat.two_pow_add_eq_or_of_lt (by omega)]
  show IntKind.u64.wrap ((BitVec.ofInt 64 (a : Int) ||| BitVec.ofInt 64 9223372036854775808).toNat : Int) = _
  rw [e2]
  exact wrapU64 _ (by omega)

set_option maxHeartbeats 1000000 in
theorem copysign_any (X : Nat) (w : World) (h : X < 9223372036854775808) :
    Calls Try.prog 35 #[.float .f64 X, .float .f64 13830554455654793216] w fun e w' => e = .returned (.float .f64 (9223372036854775808 + X)) ∧ Below w.heap.size w w' := by
  have e1 := run_f64bits
  have e2 := run_f64from
  have q1 := bits_abs X (by omega)
  rw [Nat.mod_eq_of_lt h] at q1
  have q2 : bits .and .u64 13830554455654793216 9223372036854775808 = 9223372036854775808 := by decide
  have q3 := bits_neg X h
  go_enter Try.func35, Try.ntmps35
  go_wp2
  go_ret
  exact ⟨by simp, Below.refl _ _⟩

end Go.Proofs.Ytladfpljnaippaa
