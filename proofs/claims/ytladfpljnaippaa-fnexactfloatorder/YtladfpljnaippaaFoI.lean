/-
  The program's order of floats.
-/
import Derived.Test.YtladfpljnaippaaUtil
import Derived.Test.YtladfpljnaippaaFoF
import Derived.Laws.FloatArith
import Derived.Laws.Externs
namespace Go.Proofs.Ytladfpljnaippaa
open Go.RowKit

theorem run_frombits32 (b : Int) (w : World) : (callFunc 19 #[.int .u32 b]).run Try.prog w = .ok (.value (.float .f32 b.toNat)) w := by
  rw [run_callFunc_extern (e := Extern.MathFloatBits.float32frombits) Try.func19 (by kernel_rfl) (by kernel_rfl) (by kernel_rfl) (by kernel_rfl)]
  rfl

theorem isNaN32_any (n : Nat) (w : World) (h : (FloatKind.f32.format.order n n != some .eq) = false) :
    Calls Try.prog 45 #[.float .f32 n] w fun e w' => e = .returned (.bool false) ∧ Below w.heap.size w w' := by
  go_enter Try.func45, Try.ntmps45
  go_wp2
  go_ret
  exact ⟨rfl, Below.refl _ _⟩

theorem two_u32 {a b : Int} (a0 : 0 ≤ a) (a1 : a < 4294967296) (b0 : 0 ≤ b) (b1 : b < 4294967296) : U32 [a, b] := by
  intro z hz
  simp at hz
  rcases hz with rfl | rfl
  · exact ⟨a0, a1⟩
  · exact ⟨b0, b1⟩

theorem two_row32 (w : World) (a b : Int) (t : TypeId) : RowAt .u32 (w.alloc (.cells #[.int .u32 a, .int .u32 b] t)) (some ⟨w.heap.size, 0, none⟩) [a, b] := by
  refine .inr ⟨w.heap.size, 0, rfl, by simp, ?_⟩
  intro j hj
  have : j = 0 ∨ j = 1 := by simp at hj; omega
  rcases this with rfl | rfl <;> simp [go_sem]

set_option maxHeartbeats 1000000 in
theorem cmp32_any (n m : Nat) (X Y r : Int) (w : World) (hx : Ieee.single.order n n = some (compare X X)) (hy : Ieee.single.order m m = some (compare Y Y)) (ho : Ieee.single.order n m = some (compare X Y)) (hr : r = sgn (X - Y)) :
    Calls Try.prog 18 #[.float .f32 n, .float .f32 m] w fun e w' => e = .returned (.int .i64 r) ∧ Below w.heap.size w w' := by
  have H1 : Hid ((FloatKind.f32.format.order n n != some .eq) = false) := by
    unfold Hid
    show (Ieee.single.order n n != some .eq) = false
    rw [hx]
    exact order_self
  have H2 : Hid ((FloatKind.f32.format.order m m != some .eq) = false) := by
    unfold Hid
    show (Ieee.single.order m m != some .eq) = false
    rw [hy]
    exact order_self
  have H3 : Hid ((FloatKind.f32.format.order n m == some .lt) = decide (X < Y)) := by
    unfold Hid
    show (Ieee.single.order n m == some .lt) = _
    rw [ho]
    exact order_lt
  have H4 : Hid ((FloatKind.f32.format.order n m == some .gt) = decide (Y < X)) := by
    unfold Hid
    show (Ieee.single.order n m == some .gt) = _
    rw [ho]
    exact order_gt
  have HR : Hid (r = sgn (X - Y)) := hr
  clear hx hy ho hr
  go_enter Try.func18, Try.ntmps18
  go_wp2_with fail
  refine (isNaN32_any n _ H1.out).mono ?_
  rintro e w1 ⟨rfl, hb1⟩
  go_wp2_with fail
  refine (isNaN32_any m _ H2.out).mono ?_
  rintro e w2 ⟨rfl, hb2⟩
  have HB : Hid (Below w.heap.size w w2) := hb1.trans (hb2.mono hb1.size)
  clear hb1 hb2 H1 H2
  by_cases c1 : X < Y
  · have h3 : (FloatKind.f32.format.order n m == some .lt) = true := by rw [H3.out]; simpa using c1
    have hr : -1 = r := by rw [HR.out]; unfold sgn; rw [if_pos (by omega)]
    go_wp2
    go_ret
    exact ⟨by rw [← hr]; rfl, HB.out⟩
  · have h3 : (FloatKind.f32.format.order n m == some .lt) = false := by rw [H3.out]; simpa using c1
    by_cases c2 : Y < X
    · have h4 : (FloatKind.f32.format.order n m == some .gt) = true := by rw [H4.out]; simpa using c2
      have hr : 1 = r := by rw [HR.out]; unfold sgn; rw [if_neg (by omega), if_neg (by omega)]
      go_wp2
      go_ret
      exact ⟨by rw [← hr]; rfl, HB.out⟩
    · have h4 : (FloatKind.f32.format.order n m == some .gt) = false := by rw [H4.out]; simpa using c2
      have hr : 0 = r := by rw [HR.out]; unfold sgn; rw [if_neg (by omega), if_pos (by omega)]
      go_wp2
      go_ret
      exact ⟨by rw [← hr]; rfl, HB.out⟩

set_option maxHeartbeats 1000000 in
theorem orderI_bad (a b : Int) (w : World) (a0 : 0 ≤ a) (a1 : a < 4294967296) (b0 : 0 ≤ b) (b1 : b < 4294967296) (h : (fFin a && fFin b) = false) :
    Calls Try.prog 7 #[.int .u32 a, .int .u32 b] w fun e w' => e = .returned (.tuple #[.int .i64 0, .int .i64 1]) ∧ Below w.heap.size w w' := by
  have HA : Hid ([a, b].all fFin = false) := by unfold Hid; simpa using h
  clear h
  go_enter Try.func7, Try.ntmps7
  go_wp2_with fail
  refine (floatsFin_any (some ⟨w.heap.size, 0, none⟩) 2 [a, b] _ (by simp) (two_row32 w a b _) (two_u32 a0 a1 b0 b1)).mono ?_
  rintro e w1 ⟨rfl, hb1⟩
  rw [HA.out]
  have HB : Hid (Below w.heap.size w w1) := (bel0 _ _).trans (hb1.mono (by simp))
  clear hb1
  go_wp2
  refine bodyPost_ret (v := .tuple #[.int .i64 0, .int .i64 1]) (by simp [results, Try.results7, go_sem]) rfl ?_
  exact ⟨rfl, HB.out⟩

set_option maxHeartbeats 1000000 in
theorem orderI_ok (a b : Int) (w : World) (a0 : 0 ≤ a) (a1 : a < 4294967296) (b0 : 0 ≤ b) (b1 : b < 4294967296) (fa : fFin a = true) (fb : fFin b = true) :
    Calls Try.prog 7 #[.int .u32 a, .int .u32 b] w fun e w' => e = .returned (.tuple #[.int .i64 (sgn (fVal a - fVal b)), .int .i64 0]) ∧ Below w.heap.size w w' := by
  have HA : Hid ([a, b].all fFin = true) := by unfold Hid; simp [fa, fb]
  have O1 : Hid (Ieee.single.order a.toNat a.toNat = some (compare (fVal a) (fVal a))) := single_order a0 a1 a0 a1 fa fa
  have O2 : Hid (Ieee.single.order b.toNat b.toNat = some (compare (fVal b) (fVal b))) := single_order b0 b1 b0 b1 fb fb
  have O3 : Hid (Ieee.single.order a.toNat b.toNat = some (compare (fVal a) (fVal b))) := single_order a0 a1 b0 b1 fa fb
  obtain ⟨r, hr⟩ : ∃ r, r = sgn (fVal a - fVal b) := ⟨_, rfl⟩
  rw [← hr]
  have HR : Hid (r = sgn (fVal a - fVal b)) := hr
  clear hr
  have hd := run_frombits32
  go_enter Try.func7, Try.ntmps7
  go_wp2_with fail
  refine (floatsFin_any (some ⟨w.heap.size, 0, none⟩) 2 [a, b] _ (by simp) (two_row32 w a b _) (two_u32 a0 a1 b0 b1)).mono ?_
  rintro e w1 ⟨rfl, hb1⟩
  rw [HA.out]
  have HB : Hid (Below w.heap.size w w1) := (bel0 _ _).trans (hb1.mono (by simp))
  clear hb1
  go_wp2_with fail
  refine (cmp32_any a.toNat b.toNat (fVal a) (fVal b) r _ O1.out O2.out O3.out HR.out).mono ?_
  rintro e w2 ⟨rfl, hb2⟩
  have HB2 : Hid (Below w.heap.size w w2) := HB.out.trans (hb2.mono HB.out.size)
  clear hb2
  go_wp2
  refine bodyPost_ret (v := .tuple #[.int .i64 r, .int .i64 0]) (by simp [results, Try.results7, go_sem]) rfl ?_
  exact ⟨rfl, HB2.out⟩

end Go.Proofs.Ytladfpljnaippaa
