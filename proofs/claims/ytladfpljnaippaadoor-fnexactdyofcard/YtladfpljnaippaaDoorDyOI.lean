/-
  The program's DyOf.
-/
import Derived.Test.YtladfpljnaippaaDoorMathF
import Derived.Test.YtladfpljnaippaaDoorDyN2
import Derived.Test.YtladfpljnaippaaDoorDy6
namespace Go.Proofs.YtladfpljnaippaaDoor
open Go.RowKit

theorem word_mod {neg : Bool} {X : Nat} (h : X < 9223372036854775808) : Ieee.double.word neg X < 18446744073709551616 ∧ Ieee.double.word neg X % 9223372036854775808 = X := by
  have e1 := d_consts.1
  unfold Ieee.Format.word
  rw [e1]
  cases neg
  · exact ⟨by simp; omega, by simp; omega⟩
  · exact ⟨by simp; omega, by simp; omega⟩

theorem order_refl {d : Ieee.Datum} (h : d.isNaN = false) : d.order d = some .eq := by
  cases d with
  | number s m i => simp [Ieee.Datum.order]
  | infinity s => simp [Ieee.Datum.order]
  | nan s t => cases h

theorem read_nn {neg : Bool} {X : Nat} (h : X ≤ 9218868437227405312) : (Ieee.double.read (Ieee.double.word neg X)).isNaN = false := by
  obtain ⟨e1, e2, e3, e4⟩ := d_consts
  have hm := (word_mod (neg := neg) (X := X) (by omega)).2
  unfold Ieee.Format.read
  simp only [e1, e2, e3, e4, hm]
  by_cases h1 : X < 4503599627370496
  · rw [if_pos h1]; rfl
  · rw [if_neg h1]
    by_cases h2 : X < 9218868437227405312
    · rw [if_pos h2]; rfl
    · rw [if_neg h2, if_pos (by omega)]; rfl

theorem nan_not {neg : Bool} {X : Nat} (h : X ≤ 9218868437227405312) : (FloatKind.f64.format.order (Ieee.double.word neg X) (Ieee.double.word neg X) != some .eq) = false := by
  show ((Ieee.double.read _).order (Ieee.double.read _) != some .eq) = false
  rw [order_refl (read_nn h)]
  rfl

theorem one_new (w : World) (n : Nat) (t : TypeId) : RowNew .u32 (w.alloc (.cells #[.int .u32 n] t)) w.heap.size (some ⟨w.heap.size, 0, none⟩) [(n : Int)] := by
  refine .inr ⟨w.heap.size, 0, rfl, Nat.le_refl _, by simp, fun j hj => ?_, fun j hj => ?_⟩
  · have : j = 0 := by simp at hj; omega
    subst this
    simp [go_sem]
  · have : j = 0 := by simp at hj; omega
    subst this
    simp [go_sem]

theorem trim_one_len (z : Int) : (trimL [z]).length ≤ 1 := by
  unfold trimL
  split <;> simp [trimL]

theorem trim_one {n : Nat} (h : n < 4294967296) : Canon 4294967296 (trimL [(n : Int)]) ∧ val 4294967296 (trimL [(n : Int)]) = n := by
  by_cases hz : n = 0
  · subst hz
    exact ⟨⟨Dig.nil _, rfl⟩, rfl⟩
  · have e : trimL [(n : Int)] = [(n : Int)] := by simp [trimL]; omega
    rw [e]
    exact ⟨⟨Dig.cons (by omega) (by omega) (Dig.nil _), e⟩, by simp [val]⟩

set_option maxRecDepth 100000 in
set_option maxHeartbeats 4000000 in
theorem dyOfI_fin (b : Int) (neg : Bool) (X Y Z n : Nat) (k v : Int) (w : World) (hX : X < 9218868437227405312) (hcv : floatToFloatBits .f32 b.toNat .f64 = some (Ieee.double.word neg X))
    (HFx : ∀ w, Calls Tryd.prog 23 #[.float .f64 X] w fun e w' => e = .returned (.tuple #[.float .f64 Y, .int .i64 k]) ∧ Below w.heap.size w w')
    (HLd : ∀ w, Calls Tryd.prog 25 #[.float .f64 Y, .int .i64 24] w fun e w' => e = .returned (.float .f64 Z) ∧ Below w.heap.size w w')
    (hcn : floatToIntVal .f64 Z .u32 = some (n : Int)) (hn : n < 4294967296) (hk0 : -2000 ≤ k) (hk1 : k ≤ 2000) (hv : atK 100000 (sg neg n) (k - 24) = v) (hT : Tab w) :
    Calls Tryd.prog 7 #[.int .u32 b] w fun e w' => OutDI w true v e w' := by
  obtain ⟨hm1, hm2⟩ := word_mod (neg := neg) (X := X) (by omega)
  have ho := nan_not (neg := neg) (X := X) (by omega)
  obtain ⟨_, ho2⟩ := fin64 hX
  have HSg : Hid (∀ w, Calls Tryd.prog 29 #[.float .f64 (Ieee.double.word neg X)] w fun e w' => e = .returned (.bool neg) ∧ Below w.heap.size w w') := fun w => signbit_any neg X w (by omega)
  obtain ⟨W, hW⟩ : ∃ W, W = Ieee.double.word neg X := ⟨_, rfl⟩
  rw [← hW] at hm1 hm2 ho hcv HSg
  clear hW
  have hc1 : ∀ w, (convert 48 47 (.float .f32 b.toNat)).run Tryd.prog w = .ok (.float .f64 W) w := fun w => run_convert_float_float w _ _ .f32 .f64 b.toNat W (by rw [Tryd.underlying48]; rfl) Tryd.underlying47 hcv
  have hc2 : ∀ w, (convert 47 22 (.float .f64 Z)).run Tryd.prog w = .ok (.int .u32 n) w := fun w => run_convert_float_int w _ _ .f64 .u32 Z n (by rw [Tryd.underlying47]; rfl) Tryd.underlying22 hcn
  have K0 : Hid (∀ t, Has3 w.heap.size (w.alloc (.cells #[.bool false, .slice none 0 0, .int .i64 0] t))) := fun t => Has3.new w t
  have HTb : Hid (Tab w) := hT
  have HV : Hid (atK 100000 (sg neg n) (k - 24) = v) := hv
  have hd := run_frombits32
  clear hcv hcn hT hv
  go_enter Tryd.func7, Tryd.ntmps7
  go_wp2_with (simp only [hc1])
  refine (isNaN64_any W false _ ho).mono ?_
  rintro e w1 ⟨rfl, hb1⟩
  have K1 : Hid (Has3 w.heap.size w1) := (K0.out _).later hb1
  have HB1 : Hid (Below w.heap.size w w1) := (bel0 _ _).trans (hb1.mono (by simp))
  clear hb1 K0
  go_wp2_with fail
  refine (isInf64_any W X false _ hm1 hm2 ho2).mono ?_
  rintro e w2 ⟨rfl, hb2⟩
  have K2 : Hid (Has3 w.heap.size w2) := K1.out.later hb2
  have HB2 : Hid (Below w.heap.size w w2) := HB1.out.trans (hb2.mono HB1.out.size)
  clear hb2
  go_wp2_with fail
  refine (absF_any W X _ hm1 hm2).mono ?_
  rintro e w3 ⟨rfl, hb3⟩
  have K3 : Hid (Has3 w.heap.size w3) := K2.out.later hb3
  have HB3 : Hid (Below w.heap.size w w3) := HB2.out.trans (hb3.mono HB2.out.size)
  clear hb3
  go_wp2_with fail
  refine (HFx _).mono ?_
  rintro e w4 ⟨rfl, hb4⟩
  have K4 : Hid (Has3 w.heap.size w4) := K3.out.later hb4
  have HB4 : Hid (Below w.heap.size w w4) := HB3.out.trans (hb4.mono HB3.out.size)
  clear hb4
  go_wp2_with fail
  refine (HLd _).mono ?_
  rintro e w5 ⟨rfl, hb5⟩
  have K5 : Hid (Has3 w.heap.size w5) := K4.out.later hb5
  have HB5 : Hid (Below w.heap.size w w5) := HB4.out.trans (hb5.mono HB4.out.size)
  clear hb5
  go_wp2_with fail
  have hrow : RowNew .u32 (w5.alloc (.cells #[.int .u32 n] 22)) w5.heap.size (some ⟨w5.heap.size, 0, none⟩) [(n : Int)] := one_new w5 n _
  refine (trimmed_any (some ⟨w5.heap.size, 0, none⟩) 1 [(n : Int)] _ w5.heap.size (by simp) (by unfold maxLen; omega) (by simp) (by simp) hrow).mono ?_
  rintro e w6 ⟨a6, c6, rfl, hl6, hm6, hr6, rfl⟩
  have hb6 : Below w5.heap.size w5 (w5.alloc (.cells #[.int .u32 n] 22)) := bel0 _ _
  have K6 : Hid (Has3 w.heap.size (w5.alloc (.cells #[.int .u32 n] 22))) := K5.out.later hb6
  have HB6 : Hid (Below w.heap.size w (w5.alloc (.cells #[.int .u32 n] 22))) := HB5.out.trans (hb6.mono HB5.out.size)
  have HR6 : Hid (RowNew .u32 (w5.alloc (.cells #[.int .u32 n] 22)) w5.heap.size a6 (trimL [(n : Int)])) := hr6
  obtain ⟨hcan, hval⟩ := trim_one hn
  have hlen : (trimL [(n : Int)]).length ≤ 1 := trim_one_len _
  have HBB : Hid (B1 (neg && decide (0 < (trimL [(n : Int)]).length)) (trimL [(n : Int)]) (sg neg n)) := B1.of_signed hcan hval
  generalize trimL [(n : Int)] = Zs at *
  obtain ⟨V6, hV6⟩ : ∃ V, V = w5.alloc (.cells #[.int .u32 n] 22) := ⟨_, rfl⟩
  rw [← hV6] at K6 HB6 HR6 ⊢
  clear hr6 hb6 hrow hV6 hcan hval
  go_wp2_with fail
  refine (HSg.out _).mono ?_
  rintro e w7 ⟨rfl, hb7⟩
  have K7 : Hid (Has3 w.heap.size w7) := K6.out.later hb7
  have HB7 : Hid (Below w.heap.size w w7) := HB6.out.trans (hb7.mono HB6.out.size)
  have HR7 : Hid (RowNew .u32 w7 w5.heap.size a6 Zs) := HR6.out.later hb7
  clear hb7
  go_wp2_with fail
  refine (signed_any neg a6 Zs.length c6 _).mono ?_
  rintro e w8 ⟨rfl, hb8⟩
  have K8 : Hid (Has3 w.heap.size w8) := K7.out.later hb8
  have HB8 : Hid (Below w.heap.size w w8) := HB7.out.trans (hb8.mono HB7.out.size)
  have HR8 : Hid (RowNew .u32 w8 w5.heap.size a6 Zs) := HR7.out.later hb8
  have HT8 : Hid (Tab w8) := HTb.out.later HB8.out
  clear hb8
  generalize (neg && decide (0 < Zs.length)) = G at *
  go_wp2_with fail
  refine (normalI_any G a6 c6 Zs (sg neg n) (k - 24) _ (by omega) (by omega) (by omega) HR8.out.row HBB.out ⟨hl6, hm6⟩ HT8.out).mono ?_
  rintro e w9 ⟨G9, Z9, E9, K9, a9, c9, rfl, hres, hr9, hb9⟩
  rw [HV.out] at hres
  have KK : Hid (Has3 w.heap.size w9) := K8.out.later hb9
  have HB9 : Hid (Below w.heap.size w w9) := HB8.out.trans (hb9.mono HB8.out.size)
  have HR : Hid (ResD true v G9 Z9 E9 K9) := hres
  have HA : Hid (RowNew .u32 w9 (w.heap.size + 1) a9 Z9) := hr9.down K8.out.lt
  have r1 := KK.out.r1
  have r2 := KK.out.r2
  have r3 := KK.out.r3
  have r4 := KK.out.r4
  clear hres hr9 hb9
  go_wp2
  refine bodyPost_ret (v := .tuple #[.agg #[.bool G9, .slice a9 Z9.length c9, .int .i64 E9], .int .i64 K9]) (by simp [results, Tryd.results7, go_sem, r1, r2, r3]) rfl ?_
  refine ⟨G9, Z9, E9, K9, a9, c9, rfl, HR.out, ?_, ?_⟩
  · exact (((HA.out.setLow (by simp) _).setLow (by simp) _).setLow (by simp) _).down (by omega)
  · exact ((HB9.out.setCell (by simp) _).setCell (by simp) _).setCell (by simp) _

theorem dyOfI_ok (b : Int) (w : World) (h0 : 0 ≤ b) (h1 : b < 4294967296) (hf : fFin b = true) (hT : Tab w) :
    Calls Tryd.prog 7 #[.int .u32 b] w fun e w' => OutDI w true (atK 100000 (fNum b) (fExp b - 150)) e w' := by
  have hcv := conv_fin h0 h1 hf
  have hex := fExp_pos h0
  have hmm := fMag_lt h0
  by_cases hM : (fMag b).toNat = 0
  · have hX : dOf b = 0 := by unfold dOf; rw [if_pos hM]
    rw [hX] at hcv
    refine dyOfI_fin b _ 0 0 0 0 0 _ w (by decide) hcv frexp_zero ldexp_zero toInt_zero (by decide) (by decide) (by decide) ?_ hT
    have hz : fNum b = 0 := by unfold fNum; split <;> omega
    have hs : ∀ g : Bool, sg g ((0 : Nat) : Int) = 0 := by intro g; cases g <;> rfl
    rw [hz, hs]
    unfold atK
    rw [Int.zero_mul, Int.zero_mul]
  · obtain ⟨L, F, f, hL, hl1, hl2, hF, hF1, hF2, hf1, hf2, hd, hLL⟩ := dOf_parts h0 hf hM
    have e52 : (2 : Nat) ^ (52 - L) = 2 ^ (23 - L) * 536870912 := by
      rw [show 52 - L = (23 - L) + 29 by omega, Nat.pow_add]
    have hn : 4503599627370496 + f = ((fMag b).toNat * 2 ^ (23 - L)) * 536870912 := by rw [hf2, e52, Nat.mul_assoc]
    have hnlt : (fMag b).toNat * 2 ^ (23 - L) < 4294967296 := by omega
    refine dyOfI_fin b _ (dOf b) (1022 * 4503599627370496 + f) (1046 * 4503599627370496 + f) ((fMag b).toNat * 2 ^ (23 - L)) ((F : Int) - 1022) _ w (by rw [hd]; omega) hcv (fun w => frexp_any _ F f w hd hF1 (by omega) hf1) (fun w => ldexp_any f w hf1) (toInt_word hf1 hn) hnlt (by omega) (by omega) ?_ hT
    have hnum : fNum b = sg (decide (2147483648 ≤ b)) ((fMag b).toNat : Int) := by
      unfold fNum sg
      by_cases hs : 2147483648 ≤ b
      · rw [if_pos hs, if_pos (by simpa using hs)]; omega
      · rw [if_neg hs, if_neg (by simpa using hs)]; omega
    rw [hnum]
    have hsg : ∀ (g : Bool) (x y : Int), sg g (x * y) = sg g x * y := by intro g x y; cases g <;> simp [sg, Int.neg_mul]
    unfold atK
    rw [show (((fMag b).toNat * 2 ^ (23 - L) : Nat) : Int) = ((fMag b).toNat : Int) * 2 ^ (23 - L) by push_cast; rfl, hsg, Int.mul_assoc, ← Int.pow_add]
    congr 2
    omega

end Go.Proofs.YtladfpljnaippaaDoor
