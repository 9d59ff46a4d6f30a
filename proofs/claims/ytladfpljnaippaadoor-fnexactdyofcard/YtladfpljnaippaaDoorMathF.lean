/-
  The library's functions on words of 64 bits: Abs, IsNaN, IsInf, Frexp, Ldexp, Signbit.
-/
import Derived.Test.YtladfpljnaippaaDoorBase
import Derived.Test.YtladfpljnaippaaDoorNumG
import Derived.Laws.Externs
namespace Go.Proofs.YtladfpljnaippaaDoor
open Go.RowKit

theorem run_f64bits (n : Nat) (w : World) : (callFunc 47 #[.float .f64 n]).run Tryd.prog w = .ok (.value (.int .u64 n)) w := by
  rw [run_callFunc_extern (e := Extern.MathFloatBits.float64bits) Tryd.func47 (by kernel_rfl) (by kernel_rfl) (by kernel_rfl) (by kernel_rfl)]
  rfl

theorem run_f64from (b : Int) (w : World) : (callFunc 46 #[.int .u64 b]).run Tryd.prog w = .ok (.value (.float .f64 b.toNat)) w := by
  rw [run_callFunc_extern (e := Extern.MathFloatBits.float64frombits) Tryd.func46 (by kernel_rfl) (by kernel_rfl) (by kernel_rfl) (by kernel_rfl)]
  rfl

theorem run_frombits32 (b : Int) (w : World) : (callFunc 20 #[.int .u32 b]).run Tryd.prog w = .ok (.value (.float .f32 b.toNat)) w := by
  rw [run_callFunc_extern (e := Extern.MathFloatBits.float32frombits) Tryd.func20 (by kernel_rfl) (by kernel_rfl) (by kernel_rfl) (by kernel_rfl)]
  rfl

set_option maxHeartbeats 1000000 in
theorem absF_any (W X : Nat) (w : World) (hW : W < 18446744073709551616) (hX : W % 9223372036854775808 = X) :
    Calls Tryd.prog 24 #[.float .f64 W] w fun e w' => e = .returned (.float .f64 X) ∧ Below w.heap.size w w' := by
  have hb := bits_abs W hW
  rw [hX] at hb
  have h1 := run_f64bits
  have h2 := run_f64from
  clear hX hW
  go_enter Tryd.func24, Tryd.ntmps24
  go_wp2
  go_ret
  exact ⟨by simp, Below.refl _ _⟩

theorem isNaN64_any (W : Nat) (b : Bool) (w : World) (h : (FloatKind.f64.format.order W W != some .eq) = b) :
    Calls Tryd.prog 21 #[.float .f64 W] w fun e w' => e = .returned (.bool b) ∧ Below w.heap.size w w' := by
  go_enter Tryd.func21, Tryd.ntmps21
  go_wp2
  go_ret
  exact ⟨by rw [← h]; rfl, Below.refl _ _⟩

set_option maxHeartbeats 1000000 in
theorem isInf64_any (W X : Nat) (b : Bool) (w : World) (hW : W < 18446744073709551616) (hX : W % 9223372036854775808 = X) (h : (FloatKind.f64.format.order X 9218868437227405311 == some .gt) = b) :
    Calls Tryd.prog 22 #[.float .f64 W, .int .i64 0] w fun e w' => e = .returned (.bool b) ∧ Below w.heap.size w w' := by
  have HH : Hid ((FloatKind.f64.format.order X 9218868437227405311 == some .gt) = b) := h
  clear h
  go_enter Tryd.func22, Tryd.ntmps22
  go_wp2_with fail
  refine (absF_any W X _ hW hX).mono ?_
  rintro e w1 ⟨rfl, hb1⟩
  have HB : Hid (Below w.heap.size w w1) := hb1
  clear hb1
  go_wp2
  go_ret
  exact ⟨by rw [← HH.out]; rfl, HB.out⟩

theorem ord64 {X Y : Nat} (hX : X < 9218868437227405312) (hY : Y < 9218868437227405312) : FloatKind.f64.format.order X Y = some (compare (X : Int) (Y : Int)) := double_order hX hY

set_option maxHeartbeats 1000000 in
theorem normF_any (X : Nat) (w : World) (h1 : 4503599627370496 ≤ X) (h2 : X < 9218868437227405312) :
    Calls Tryd.prog 68 #[.float .f64 X] w fun e w' => e = .returned (.tuple #[.float .f64 X, .int .i64 0]) ∧ Below w.heap.size w w' := by
  have ho : (FloatKind.f64.format.order X 4503599627370496 == some .lt) = false := by
    rw [ord64 h2 (by decide), order_lt]
    simp
    omega
  go_enter Tryd.func68, Tryd.ntmps68
  go_wp2_with fail
  refine (absF_any X X _ (by omega) (Nat.mod_eq_of_lt (by omega))).mono ?_
  rintro e w1 ⟨rfl, hb1⟩
  have HB : Hid (Below w.heap.size w w1) := hb1
  clear hb1
  go_wp2
  refine bodyPost_ret (v := .tuple #[.float .f64 X, .int .i64 0]) (by simp [results, Tryd.results68, go_sem]) rfl ?_
  exact ⟨rfl, HB.out⟩

theorem fin64 {X : Nat} (h : X < 9218868437227405312) : (FloatKind.f64.format.order X X != some .eq) = false ∧ (FloatKind.f64.format.order X 9218868437227405311 == some .gt) = false := by
  constructor
  · rw [ord64 h h]
    exact order_self
  · rw [ord64 h (by decide), order_gt]
    simp
    omega

set_option maxHeartbeats 2000000 in
theorem frexp_any (X F f : Nat) (w : World) (hX : X = F * 4503599627370496 + f) (h1 : 1 ≤ F) (h2 : F ≤ 2046) (hf : f < 4503599627370496) :
    Calls Tryd.prog 23 #[.float .f64 X] w fun e w' => e = .returned (.tuple #[.float .f64 (1022 * 4503599627370496 + f), .int .i64 ((F : Int) - 1022)]) ∧ Below w.heap.size w w' := by
  have hlt : X < 9218868437227405312 := by omega
  obtain ⟨o1, o2⟩ := fin64 hlt
  have o3 : (FloatKind.f64.format.order X 0 == some .eq) = false := by
    rw [ord64 hlt (by decide), Int.compare_eq_gt.2 (by omega)]
    rfl
  have q1 : (X : Int) / 4503599627370496 = F := by omega
  have q2 := bits_exp F (by omega)
  have q3 := bits_frac X (by omega)
  rw [show X % 4503599627370496 = f by omega] at q3
  have q4 := bits_join f 1022 hf (by decide)
  rw [show ((1022 * 4503599627370496 : Nat) : Int) = 4602678819172646912 from rfl] at q4
  have e1 := run_f64bits
  have e2 := run_f64from
  have HX : Hid (X = F * 4503599627370496 + f) := hX
  clear hX
  have FR : ∀ w, Calls Tryd.prog 45 #[.float .f64 X] w fun e w' => e = .returned (.tuple #[.float .f64 (1022 * 4503599627370496 + f), .int .i64 ((F : Int) - 1022)]) ∧ Below w.heap.size w w' := by
    intro w
    go_enter Tryd.func45, Tryd.ntmps45
    go_wp2_with fail
    refine (isInf64_any X X false _ (by omega) (Nat.mod_eq_of_lt (by omega)) o2).mono ?_
    rintro e w1 ⟨rfl, hb1⟩
    go_wp2_with fail
    refine (isNaN64_any X false _ o1).mono ?_
    rintro e w2 ⟨rfl, hb2⟩
    go_wp2_with fail
    refine (normF_any X _ (by have := HX.out; omega) hlt).mono ?_
    rintro e w3 ⟨rfl, hb3⟩
    have HB : Hid (Below w.heap.size w w3) := (hb1.trans (hb2.mono hb1.size)).trans (hb3.mono (Nat.le_trans hb1.size hb2.size))
    clear hb1 hb2 hb3
    go_wp2
    refine bodyPost_ret (v := .tuple #[.float .f64 (1022 * 4503599627370496 + f), .int .i64 ((F : Int) - 1022)]) (by simp [results, Tryd.results45, go_sem]; omega) rfl ?_
    exact ⟨rfl, HB.out⟩
  go_enter Tryd.func23, Tryd.ntmps23
  go_wp2_with fail
  refine (FR _).mono ?_
  rintro e w1 ⟨rfl, hb1⟩
  have HB : Hid (Below w.heap.size w w1) := hb1
  clear hb1 FR
  go_wp2
  refine bodyPost_ret (v := .tuple #[.float .f64 (1022 * 4503599627370496 + f), .int .i64 ((F : Int) - 1022)]) (by simp [results, Tryd.results23, go_sem]) rfl ?_
  exact ⟨rfl, HB.out⟩

set_option maxHeartbeats 1000000 in
theorem frexp_zero (w : World) :
    Calls Tryd.prog 23 #[.float .f64 0] w fun e w' => e = .returned (.tuple #[.float .f64 0, .int .i64 0]) ∧ Below w.heap.size w w' := by
  have o3 : (FloatKind.f64.format.order 0 0 == some .eq) = true := by decide
  have FR : ∀ w, Calls Tryd.prog 45 #[.float .f64 0] w fun e w' => e = .returned (.tuple #[.float .f64 0, .int .i64 0]) ∧ Below w.heap.size w w' := by
    intro w
    go_enter Tryd.func45, Tryd.ntmps45
    go_wp2
    refine bodyPost_ret (v := .tuple #[.float .f64 0, .int .i64 0]) (by simp [results, Tryd.results45, go_sem]) rfl ?_
    exact ⟨rfl, Below.refl _ _⟩
  go_enter Tryd.func23, Tryd.ntmps23
  go_wp2_with fail
  refine (FR _).mono ?_
  rintro e w1 ⟨rfl, hb1⟩
  have HB : Hid (Below w.heap.size w w1) := hb1
  clear hb1 FR
  go_wp2
  refine bodyPost_ret (v := .tuple #[.float .f64 0, .int .i64 0]) (by simp [results, Tryd.results23, go_sem]) rfl ?_
  exact ⟨rfl, HB.out⟩

set_option maxHeartbeats 4000000 in
theorem ldexp_any (f : Nat) (w : World) (hf : f < 4503599627370496) :
    Calls Tryd.prog 25 #[.float .f64 (1022 * 4503599627370496 + f), .int .i64 24] w fun e w' => e = .returned (.float .f64 (1046 * 4503599627370496 + f)) ∧ Below w.heap.size w w' := by
  obtain ⟨X, hX⟩ : ∃ X, X = 1022 * 4503599627370496 + f := ⟨_, rfl⟩
  obtain ⟨Y, hY⟩ : ∃ Y, Y = 1046 * 4503599627370496 + f := ⟨_, rfl⟩
  rw [← hX, ← hY]
  have hlt : X < 9218868437227405312 := by omega
  obtain ⟨o1, o2⟩ := fin64 hlt
  have o3 : (FloatKind.f64.format.order X 0 == some .eq) = false := by
    rw [ord64 hlt (by decide), Int.compare_eq_gt.2 (by omega)]
    rfl
  have q1 : (X : Int) / 4503599627370496 = 1022 := by omega
  have q2 : bits .and .i64 1022 2047 = 1022 := bits_expI 1022 (by decide)
  have q3 := bits_frac X (by omega)
  rw [show X % 4503599627370496 = f by omega] at q3
  have q4 := bits_join f 1046 hf (by decide)
  rw [show ((1046 * 4503599627370496 : Nat) : Int) = 4710765210229538816 from rfl, ← hY] at q4
  have q5 := mul_one_word (F := 1046) (f := f) (by decide) (by decide) hf
  rw [← hY] at q5
  have hop : ∀ t w, (binOp .mul t (.float .f64 4607182418800017408) (.float .f64 Y)).run Tryd.prog w = .ok (.float .f64 Y) w := fun t w => run_float_arith w .mul t .f64 _ _ _ q5
  have e1 := run_f64bits
  have e2 := run_f64from
  have HX : Hid (X = 1022 * 4503599627370496 + f) := hX
  clear hX hY q5
  have LD : ∀ w, Calls Tryd.prog 49 #[.float .f64 X, .int .i64 24] w fun e w' => e = .returned (.float .f64 Y) ∧ Below w.heap.size w w' := by
    intro w
    go_enter Tryd.func49, Tryd.ntmps49
    go_wp2_with fail
    refine (isInf64_any X X false _ (by omega) (Nat.mod_eq_of_lt (by omega)) o2).mono ?_
    rintro e w1 ⟨rfl, hb1⟩
    go_wp2_with fail
    refine (isNaN64_any X false _ o1).mono ?_
    rintro e w2 ⟨rfl, hb2⟩
    go_wp2_with fail
    refine (normF_any X _ (by have := HX.out; omega) hlt).mono ?_
    rintro e w3 ⟨rfl, hb3⟩
    have HB : Hid (Below w.heap.size w w3) := (hb1.trans (hb2.mono hb1.size)).trans (hb3.mono (Nat.le_trans hb1.size hb2.size))
    clear hb1 hb2 hb3
    go_wp2
    go_ret
    exact ⟨by simp, HB.out⟩
  go_enter Tryd.func25, Tryd.ntmps25
  go_wp2_with fail
  refine (LD _).mono ?_
  rintro e w1 ⟨rfl, hb1⟩
  have HB : Hid (Below w.heap.size w w1) := hb1
  clear hb1 LD
  go_wp2
  go_ret
  exact ⟨rfl, HB.out⟩

set_option maxHeartbeats 1000000 in
theorem ldexp_zero (w : World) :
    Calls Tryd.prog 25 #[.float .f64 0, .int .i64 24] w fun e w' => e = .returned (.float .f64 0) ∧ Below w.heap.size w w' := by
  have o3 : (FloatKind.f64.format.order 0 0 == some .eq) = true := by decide
  have LD : ∀ w, Calls Tryd.prog 49 #[.float .f64 0, .int .i64 24] w fun e w' => e = .returned (.float .f64 0) ∧ Below w.heap.size w w' := by
    intro w
    go_enter Tryd.func49, Tryd.ntmps49
    go_wp2
    go_ret
    exact ⟨rfl, Below.refl _ _⟩
  go_enter Tryd.func25, Tryd.ntmps25
  go_wp2_with fail
  refine (LD _).mono ?_
  rintro e w1 ⟨rfl, hb1⟩
  have HB : Hid (Below w.heap.size w w1) := hb1
  clear hb1 LD
  go_wp2
  go_ret
  exact ⟨rfl, HB.out⟩

set_option maxHeartbeats 1000000 in
theorem signbit_any (neg : Bool) (X : Nat) (w : World) (hX : X < 9223372036854775808) :
    Calls Tryd.prog 29 #[.float .f64 (Ieee.double.word neg X)] w fun e w' => e = .returned (.bool neg) ∧ Below w.heap.size w w' := by
  obtain ⟨W, hW⟩ : ∃ W, W = Ieee.double.word neg X := ⟨_, rfl⟩
  rw [← hW]
  have e1 := run_f64bits
  cases neg
  · have h1 : W < 9223372036854775808 := by rw [hW]; exact hX
    clear hW
    go_enter Tryd.func29, Tryd.ntmps29
    go_wp2
    go_ret
    exact ⟨by first | (simp; done) | (simp; omega), Below.refl _ _⟩
  · have h1 : W = 9223372036854775808 + X := hW
    have h2 : 9223372036854775808 ≤ W := by omega
    have h3 : W < 18446744073709551616 := by omega
    clear hW h1
    go_enter Tryd.func29, Tryd.ntmps29
    go_wp2
    go_ret
    exact ⟨by simp [wrap64]; omega, Below.refl _ _⟩

end Go.Proofs.YtladfpljnaippaaDoor
