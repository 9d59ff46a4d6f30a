/-
  The program's DyFloat.
-/
import Derived.Test.YtladfpljnaippaaImplLImplC0NumX
import Derived.Test.YtladfpljnaippaaNumR2
import Derived.Test.YtladfpljnaippaaBox3
import Derived.Test.YtladfpljnaippaaImplNeNumF
import Derived.Test.YtladfpljnaippaaMathFMathG
import Derived.Test.YtladfpljnaippaaNumV
import Derived.Test.YtladfpljnaippaaDyI3DyI4a
import Derived.Test.YtladfpljnaippaaDyI5DyI6aDy3h
import Derived.Test.YtladfpljnaippaaDyI5DyI6aDy3h
namespace Go.Proofs.Ytladfpljnaippaa
open Go.RowKit

theorem run_f32bits (n : Nat) (w : World) : (callFunc 36 #[.float .f32 n]).run Try.prog w = .ok (.value (.int .u32 n)) w := by
  rw [run_callFunc_extern (e := Extern.MathFloatBits.float32bits) Try.func36 (by kernel_rfl) (by kernel_rfl) (by kernel_rfl) (by kernel_rfl)]
  rfl

theorem dbl_lt {N d : Int} {n : Nat} (h2 : N < 2 ^ (n + 1)) (hd : (n : Int) - 23 ≤ d) : N * 2 ^ (1 - d).toNat / 2 ^ (d - 1).toNat < 4294967296 := by
  have h32 : (4294967296 : Int) = 2 ^ 32 := by decide
  have hq : (0 : Int) < 2 ^ (1 - d).toNat := Int.pow_pos (by decide)
  have hr : (0 : Int) < 2 ^ (d - 1).toNat := Int.pow_pos (by decide)
  have hm := Int.mul_lt_mul_of_pos_right h2 hq
  rw [← Int.pow_add] at hm
  rw [Int.ediv_lt_iff_lt_mul hr, h32, ← Int.pow_add]
  have := pow2_mono (show n + 1 + (1 - d).toNat ≤ 32 + (d - 1).toNat by omega)
  omega

set_option maxRecDepth 100000 in
set_option maxHeartbeats 4000000 in
theorem flDI_bad (g : Bool) (a : Option Addr) (c : Nat) (zs : List Int) (E : Int) (w : World) (hn : zs.length ≤ 1048576) (hz : RowAt .u32 w a zs) (hv : validD g zs E = false) :
    Calls Try.prog 11 #[.agg #[.bool g, .slice a zs.length c, .int .i64 E]] w fun e w' => e = .returned (.tuple #[.int .u32 0, .int .i64 1]) ∧ Below w.heap.size w w' := by
  have B0 : Hid (∀ t, BxD w (.bool g) (.slice a zs.length c) (.int .i64 E) (w.alloc (.cells #[.bool g, .slice a zs.length c, .int .i64 E] t))) := fun t => BxD.start w _ _ _ _
  go_enter Try.func11, Try.ntmps11
  go_wp2_with fail
  refine (validsI_any _ 0 _ [⟨g, a, c, zs, E⟩] _ (by simp) ?_ (one_rowD ?_ ?_ ?_ ?_ (hz.later ((B0.out _).bel.trans ((bel0 _ _).mono (B0.out _).bel.size))))).mono ?_
  · intro d hd
    simp at hd
    subst hd
    exact hn
  · simp
  · simp [go_sem]
  · simp [go_sem]
  · simp [go_sem]
  · rintro e w1 ⟨rfl, hb1⟩
    have HV : Hid ([(⟨g, a, c, zs, E⟩ : DV)].all DV.ok = false) := by unfold Hid; simpa [DV.ok] using hv
    rw [HV.out]
    have F1 : Hid (BxD w (.bool g) (.slice a zs.length c) (.int .i64 E) w1) := ((B0.out _).later (bel0 _ _)).later hb1
    clear hb1 B0
    go_wp2
    refine bodyPost_ret (v := .tuple #[.int .u32 0, .int .i64 1]) (by simp [results, Try.results11, go_sem]) rfl ?_
    exact ⟨rfl, F1.out.bel⟩


set_option maxRecDepth 100000 in
set_option maxHeartbeats 8000000 in
theorem flDI_up (g : Bool) (a : Option Addr) (c : Nat) (zs : List Int) (E nb : Int) (v X Y Z R : Nat) (o : Bool) (w : World) (hn : zs.length ≤ 1048576) (hz : RowAt .u32 w a zs) (hv : validD g zs E = true) (b0 : 0 ≤ nb) (b1 : nb ≤ 100000)
    (hBL : ∀ W, RowAt .u32 W a zs → Calls Try.prog 32 #[.slice a zs.length c] W fun e w' => e = .returned (.int .i64 nb) ∧ w' = W)
    (hU : -149 ≤ nb + E - 24)
    (hNe : ∀ W, RowAt .u32 W a zs → Calls Try.prog 34 #[.slice a zs.length c, .int .i64 ((nb + E - 24) - E)] W fun e w' => e = .returned (.int .u32 v) ∧ Below W.heap.size W w')
    (hX : floatOfInt .f64 (v : Int) = X)
    (hLd : ∀ W, Calls Try.prog 33 #[.float .f64 X, .int .i64 (nb + E - 24)] W fun e w' => e = .returned (.float .f64 Y) ∧ Below W.heap.size W w')
    (ho : (FloatKind.f64.format.order Y 5183643170566569984 == some .gt) = o)
    (hY : Y < 9223372036854775808) (hZ : Ieee.double.word g Y = Z) (hR : o = false → floatToFloatBits .f64 Z .f32 = some R) :
    Calls Try.prog 11 #[.agg #[.bool g, .slice a zs.length c, .int .i64 E]] w fun e w' => e = .returned (.tuple #[.int .u32 (if o = true then 0 else (R : Int)), .int .i64 (if o = true then 2 else 0)]) ∧ Below w.heap.size w w' := by
  obtain ⟨vb1, hE0, hE1⟩ := validD_parts hv
  have B0 : Hid (∀ t, BxD w (.bool g) (.slice a zs.length c) (.int .i64 E) (w.alloc (.cells #[.bool g, .slice a zs.length c, .int .i64 E] t))) := fun t => BxD.start w _ _ _ _
  have hc1 : o = false → ∀ w, (convert 68 46 (.float .f64 Z)).run Try.prog w = .ok (.float .f32 R) w := fun ho w => run_convert_float_float w _ _ .f64 .f32 Z R (by rw [Try.underlying68]; rfl) Try.underlying46 (hR ho)
  have e1 := run_f32bits
  clear hR
  go_enter Try.func11, Try.ntmps11
  go_wp2_with fail
  refine (validsI_any _ 0 _ [⟨g, a, c, zs, E⟩] _ (by simp) ?_ (one_rowD ?_ ?_ ?_ ?_ (hz.later ((B0.out _).bel.trans ((bel0 _ _).mono (B0.out _).bel.size))))).mono ?_
  · intro d hd
    simp at hd
    subst hd
    exact hn
  · simp
  · simp [go_sem]
  · simp [go_sem]
  · simp [go_sem]
  rintro e w1 ⟨rfl, hb1⟩
  have HV : Hid ([(⟨g, a, c, zs, E⟩ : DV)].all DV.ok = true) := by unfold Hid; simp [DV.ok, hv]
  rw [HV.out]
  have F1 : Hid (BxD w (.bool g) (.slice a zs.length c) (.int .i64 E) w1) := ((B0.out _).later (bel0 _ _)).later hb1
  have s0 := F1.out.q0
  have s1 := F1.out.q1
  have s2 := F1.out.q2
  have HBL : Hid (∀ W, RowAt .u32 W a zs → Calls Try.prog 32 #[.slice a zs.length c] W fun e w' => e = .returned (.int .i64 nb) ∧ w' = W) := hBL
  have HNE : Hid (∀ W, RowAt .u32 W a zs → Calls Try.prog 34 #[.slice a zs.length c, .int .i64 ((nb + E - 24) - E)] W fun e w' => e = .returned (.int .u32 v) ∧ Below W.heap.size W w') := hNe
  have HLD : Hid (∀ W, Calls Try.prog 33 #[.float .f64 X, .int .i64 (nb + E - 24)] W fun e w' => e = .returned (.float .f64 Y) ∧ Below W.heap.size W w') := hLd
  have HZ : Hid (RowAt .u32 w a zs) := hz
  clear hb1 B0 HV hv hz hBL hNe hLd vb1
  go_wp2
  go_quiet (first | (go_at_call 32; exact Calls.quiet_of_same (HBL.out _ (HZ.out.later (below_drewN F1.out.bel _)))))
  have F2 : Hid (BxD w (.bool g) (.slice a zs.length c) (.int .i64 E) (w1.drewN nq)) := F1.out.later (below_drewN (Below.refl _ _) _)
  clear s0 s1 s2 F1 HBL
  generalize w1.drewN nq = w2 at F2 ⊢
  have s0 := F2.out.q0
  have s1 := F2.out.q1
  have s2 := F2.out.q2
  go_wp2_with fail
  refine (HNE.out _ (HZ.out.later F2.out.bel)).mono ?_
  rintro e w3 ⟨rfl, hb3⟩
  have F3 : Hid (BxD w (.bool g) (.slice a zs.length c) (.int .i64 E) w3) := F2.out.later hb3
  clear hb3 s0 s1 s2 F2
  have s0 := F3.out.q0
  have s1 := F3.out.q1
  have s2 := F3.out.q2
  go_wp2_with fail
  refine (HLD.out _).mono ?_
  rintro e w4 ⟨rfl, hb4⟩
  have F4 : Hid (BxD w (.bool g) (.slice a zs.length c) (.int .i64 E) w4) := F3.out.later hb4
  clear hb4 s0 s1 s2 F3 HLD HNE
  have s0 := F4.out.q0
  have s1 := F4.out.q1
  have s2 := F4.out.q2
  cases o
  · have hc2 := hc1 rfl
    clear hc1
    cases g
    · have hz2 : Z = Y := hZ.symm
      subst hz2
      go_wp2
      refine bodyPost_ret (v := .tuple #[.int .u32 R, .int .i64 0]) (by simp [results, Try.results11, go_sem]) rfl ?_
      exact ⟨rfl, F4.out.bel⟩
    · have hz2 : Z = 9223372036854775808 + Y := hZ.symm
      subst hz2
      go_wp2_with fail
      refine (copysign_any Y _ hY).mono ?_
      rintro e w5 ⟨rfl, hb5⟩
      have F5 : Hid (BxD w (.bool true) (.slice a zs.length c) (.int .i64 E) w5) := F4.out.later hb5
      clear hb5 s0 s1 s2 F4
      go_wp2
      refine bodyPost_ret (v := .tuple #[.int .u32 R, .int .i64 0]) (by simp [results, Try.results11, go_sem]) rfl ?_
      exact ⟨rfl, F5.out.bel⟩
  · clear hc1
    go_wp2
    refine bodyPost_ret (v := .tuple #[.int .u32 0, .int .i64 2]) (by simp [results, Try.results11, go_sem]) rfl ?_
    exact ⟨rfl, F4.out.bel⟩

set_option maxRecDepth 100000 in
set_option maxHeartbeats 8000000 in
theorem flDI_low (g : Bool) (a : Option Addr) (c : Nat) (zs : List Int) (E nb : Int) (v X Y Z R : Nat) (o : Bool) (w : World) (hn : zs.length ≤ 1048576) (hz : RowAt .u32 w a zs) (hv : validD g zs E = true) (b0 : 0 ≤ nb) (b1 : nb ≤ 100000)
    (hBL : ∀ W, RowAt .u32 W a zs → Calls Try.prog 32 #[.slice a zs.length c] W fun e w' => e = .returned (.int .i64 nb) ∧ w' = W)
    (hU : nb + E - 24 < -149)
    (hNe : ∀ W, RowAt .u32 W a zs → Calls Try.prog 34 #[.slice a zs.length c, .int .i64 (-149 - E)] W fun e w' => e = .returned (.int .u32 v) ∧ Below W.heap.size W w')
    (hX : floatOfInt .f64 (v : Int) = X)
    (hLd : ∀ W, Calls Try.prog 33 #[.float .f64 X, .int .i64 (-149)] W fun e w' => e = .returned (.float .f64 Y) ∧ Below W.heap.size W w')
    (ho : (FloatKind.f64.format.order Y 5183643170566569984 == some .gt) = o)
    (hY : Y < 9223372036854775808) (hZ : Ieee.double.word g Y = Z) (hR : o = false → floatToFloatBits .f64 Z .f32 = some R) :
    Calls Try.prog 11 #[.agg #[.bool g, .slice a zs.length c, .int .i64 E]] w fun e w' => e = .returned (.tuple #[.int .u32 (if o = true then 0 else (R : Int)), .int .i64 (if o = true then 2 else 0)]) ∧ Below w.heap.size w w' := by
  obtain ⟨vb1, hE0, hE1⟩ := validD_parts hv
  have B0 : Hid (∀ t, BxD w (.bool g) (.slice a zs.length c) (.int .i64 E) (w.alloc (.cells #[.bool g, .slice a zs.length c, .int .i64 E] t))) := fun t => BxD.start w _ _ _ _
  have hc1 : o = false → ∀ w, (convert 68 46 (.float .f64 Z)).run Try.prog w = .ok (.float .f32 R) w := fun ho w => run_convert_float_float w _ _ .f64 .f32 Z R (by rw [Try.underlying68]; rfl) Try.underlying46 (hR ho)
  have e1 := run_f32bits
  clear hR
  go_enter Try.func11, Try.ntmps11
  go_wp2_with fail
  refine (validsI_any _ 0 _ [⟨g, a, c, zs, E⟩] _ (by simp) ?_ (one_rowD ?_ ?_ ?_ ?_ (hz.later ((B0.out _).bel.trans ((bel0 _ _).mono (B0.out _).bel.size))))).mono ?_
  · intro d hd
    simp at hd
    subst hd
    exact hn
  · simp
  · simp [go_sem]
  · simp [go_sem]
  · simp [go_sem]
  rintro e w1 ⟨rfl, hb1⟩
  have HV : Hid ([(⟨g, a, c, zs, E⟩ : DV)].all DV.ok = true) := by unfold Hid; simp [DV.ok, hv]
  rw [HV.out]
  have F1 : Hid (BxD w (.bool g) (.slice a zs.length c) (.int .i64 E) w1) := ((B0.out _).later (bel0 _ _)).later hb1
  have s0 := F1.out.q0
  have s1 := F1.out.q1
  have s2 := F1.out.q2
  have HBL : Hid (∀ W, RowAt .u32 W a zs → Calls Try.prog 32 #[.slice a zs.length c] W fun e w' => e = .returned (.int .i64 nb) ∧ w' = W) := hBL
  have HNE : Hid (∀ W, RowAt .u32 W a zs → Calls Try.prog 34 #[.slice a zs.length c, .int .i64 (-149 - E)] W fun e w' => e = .returned (.int .u32 v) ∧ Below W.heap.size W w') := hNe
  have HLD : Hid (∀ W, Calls Try.prog 33 #[.float .f64 X, .int .i64 (-149)] W fun e w' => e = .returned (.float .f64 Y) ∧ Below W.heap.size W w') := hLd
  have HZ : Hid (RowAt .u32 w a zs) := hz
  clear hb1 B0 HV hv hz hBL hNe hLd vb1
  go_wp2
  go_quiet (first | (go_at_call 32; exact Calls.quiet_of_same (HBL.out _ (HZ.out.later (below_drewN F1.out.bel _)))))
  have F2 : Hid (BxD w (.bool g) (.slice a zs.length c) (.int .i64 E) (w1.drewN nq)) := F1.out.later (below_drewN (Below.refl _ _) _)
  clear s0 s1 s2 F1 HBL
  generalize w1.drewN nq = w2 at F2 ⊢
  have s0 := F2.out.q0
  have s1 := F2.out.q1
  have s2 := F2.out.q2
  go_wp2_with fail
  refine (HNE.out _ (HZ.out.later F2.out.bel)).mono ?_
  rintro e w3 ⟨rfl, hb3⟩
  have F3 : Hid (BxD w (.bool g) (.slice a zs.length c) (.int .i64 E) w3) := F2.out.later hb3
  clear hb3 s0 s1 s2 F2
  have s0 := F3.out.q0
  have s1 := F3.out.q1
  have s2 := F3.out.q2
  go_wp2_with fail
  refine (HLD.out _).mono ?_
  rintro e w4 ⟨rfl, hb4⟩
  have F4 : Hid (BxD w (.bool g) (.slice a zs.length c) (.int .i64 E) w4) := F3.out.later hb4
  clear hb4 s0 s1 s2 F3 HLD HNE
  have s0 := F4.out.q0
  have s1 := F4.out.q1
  have s2 := F4.out.q2
  cases o
  · have hc2 := hc1 rfl
    clear hc1
    cases g
    · have hz2 : Z = Y := hZ.symm
      subst hz2
      go_wp2
      refine bodyPost_ret (v := .tuple #[.int .u32 R, .int .i64 0]) (by simp [results, Try.results11, go_sem]) rfl ?_
      exact ⟨rfl, F4.out.bel⟩
    · have hz2 : Z = 9223372036854775808 + Y := hZ.symm
      subst hz2
      go_wp2_with fail
      refine (copysign_any Y _ hY).mono ?_
      rintro e w5 ⟨rfl, hb5⟩
      have F5 : Hid (BxD w (.bool true) (.slice a zs.length c) (.int .i64 E) w5) := F4.out.later hb5
      clear hb5 s0 s1 s2 F4
      go_wp2
      refine bodyPost_ret (v := .tuple #[.int .u32 R, .int .i64 0]) (by simp [results, Try.results11, go_sem]) rfl ?_
      exact ⟨rfl, F5.out.bel⟩
  · clear hc1
    go_wp2
    refine bodyPost_ret (v := .tuple #[.int .u32 0, .int .i64 2]) (by simp [results, Try.results11, go_sem]) rfl ?_
    exact ⟨rfl, F4.out.bel⟩

end Go.Proofs.Ytladfpljnaippaa
