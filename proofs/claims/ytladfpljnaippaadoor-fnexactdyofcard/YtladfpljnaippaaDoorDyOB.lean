/-
  The program's DyOf of what is not finite.
-/
import Derived.Test.YtladfpljnaippaaDoorDyOI
namespace Go.Proofs.YtladfpljnaippaaDoor
open Go.RowKit

theorem single_read_bad {b : Int} (h0 : 0 ≤ b) (h1 : b < 4294967296) (hf : fFin b = false) : (∃ s, Ieee.single.read b.toNat = .infinity s) ∨ (∃ s t, Ieee.single.read b.toNat = .nan s t) := by
  have hf' : b / 8388608 % 256 = 255 := by simpa [fFin] using hf
  obtain ⟨n, rfl⟩ := Int.eq_ofNat_of_zero_le h0
  have e1 : Ieee.single.signWeight = 2147483648 := by decide
  have e2 : Ieee.single.binade = 8388608 := by decide
  have e3 : Ieee.single.infRung = 2139095040 := by decide
  unfold Ieee.Format.read
  simp only [e1, e2, e3, Int.toNat_natCast]
  rw [if_neg (by omega), if_neg (by omega)]
  by_cases h : n % 2147483648 = 2139095040
  · rw [if_pos h]
    exact .inl ⟨_, rfl⟩
  · rw [if_neg h]
    exact .inr ⟨_, _, rfl⟩

theorem inf_word {b : Int} {s : Bool} (h : Ieee.single.read b.toNat = .infinity s) : floatToFloatBits .f32 b.toNat .f64 = some (Ieee.double.word s 9218868437227405312) := by
  have hr : FloatKind.f32.decode b.toNat = .infinity s := h
  unfold floatToFloatBits
  rw [if_neg (by decide), hr]
  simp only
  show some (Ieee.double.word s Ieee.double.infRung) = _
  rw [d_consts.2.2.1]

def nanW (t : Nat) : Nat := (t % 2) * 2 ^ 63 + 0x7ff0000000000000 + 1 + (t / 2) % (2 ^ 52 - 1)

theorem nan_is (t : Nat) : (FloatKind.f64.format.order (nanW t) (nanW t) != some .eq) = true := by
  obtain ⟨e1, e2, e3, e4⟩ := d_consts
  have hr : ∃ s q, Ieee.double.read (nanW t) = .nan s q := by
    unfold Ieee.Format.read
    simp only [e1, e2, e3, e4]
    have hm : nanW t % 9223372036854775808 = 9218868437227405312 + 1 + (t / 2) % (2 ^ 52 - 1) := by
      unfold nanW
      have := Nat.mod_lt (t / 2) (show 0 < 2 ^ 52 - 1 by decide)
      omega
    rw [hm, if_neg (by omega), if_neg (by omega), if_neg (by omega)]
    exact ⟨_, _, rfl⟩
  obtain ⟨s, q, hr⟩ := hr
  show ((Ieee.double.read (nanW t)).order (Ieee.double.read (nanW t)) != some .eq) = true
  rw [hr]
  rfl

theorem run_nan {b : Int} {s : Bool} {t : Nat} (h : Ieee.single.read b.toNat = .nan s t) (w : World) : ∃ k, (convert 48 47 (.float .f32 b.toNat)).run Tryd.prog w = .ok (.float .f64 (nanW k)) w.drew := by
  have hr : FloatKind.f32.decode b.toNat = .nan s t := h
  refine ⟨w.tape w.drawn (.nanConv .f64 b.toNat), ?_⟩
  simp [convert, run_underlying Tryd.underlying48, run_underlying Tryd.underlying47, Conv.floatToFloat, hr]
  rfl

set_option maxHeartbeats 2000000 in
theorem dyOfI_bad (b v : Int) (w : World) (h0 : 0 ≤ b) (h1 : b < 4294967296) (hf : fFin b = false) :
    Calls Tryd.prog 7 #[.int .u32 b] w fun e w' => OutDI w false v e w' := by
  have K0 : Hid (∀ t, Has3 w.heap.size (w.alloc (.cells #[.bool false, .slice none 0 0, .int .i64 0] t))) := fun t => Has3.new w t
  have fin : Hid (∀ W, Below w.heap.size w W → OutDI w false v (.returned (.tuple #[.agg #[.bool false, .slice none 0 0, .int .i64 0], .int .i64 1])) W) := fun W hW => ⟨false, [], 0, 1, none, 0, rfl, .inl ⟨rfl, rfl, rfl, rfl, rfl⟩, .inl rfl, hW⟩
  have hd := run_frombits32
  rcases single_read_bad h0 h1 hf with ⟨s, hr⟩ | ⟨s, t, hr⟩
  · have hcv := inf_word hr
    obtain ⟨hm1, hm2⟩ := word_mod (neg := s) (X := 9218868437227405312) (by decide)
    have ho := nan_not (neg := s) (X := 9218868437227405312) (by decide)
    have ho2 : (FloatKind.f64.format.order 9218868437227405312 9218868437227405311 == some .gt) = true := by decide
    obtain ⟨W, hW⟩ : ∃ W, W = Ieee.double.word s 9218868437227405312 := ⟨_, rfl⟩
    rw [← hW] at hm1 hm2 ho hcv
    clear hW
    have hc1 : ∀ w, (convert 48 47 (.float .f32 b.toNat)).run Tryd.prog w = .ok (.float .f64 W) w := fun w => run_convert_float_float w _ _ .f32 .f64 b.toNat W (by rw [Tryd.underlying48]; rfl) Tryd.underlying47 hcv
    clear hcv hr
    go_enter Tryd.func7, Tryd.ntmps7
    go_wp2_with (simp only [hc1])
    refine (isNaN64_any W false _ ho).mono ?_
    rintro e w1 ⟨rfl, hb1⟩
    have K1 : Hid (Has3 w.heap.size w1) := (K0.out _).later hb1
    have HB1 : Hid (Below w.heap.size w w1) := (bel0 _ _).trans (hb1.mono (by simp))
    clear hb1 K0
    go_wp2_with fail
    refine (isInf64_any W 9218868437227405312 true _ hm1 hm2 ho2).mono ?_
    rintro e w2 ⟨rfl, hb2⟩
    have K2 : Hid (Has3 w.heap.size w2) := K1.out.later hb2
    have HB2 : Hid (Below w.heap.size w w2) := HB1.out.trans (hb2.mono HB1.out.size)
    have r1 := K2.out.r1
    have r2 := K2.out.r2
    have r3 := K2.out.r3
    have r4 := K2.out.r4
    clear hb2
    go_wp2
    refine bodyPost_ret (v := .tuple #[.agg #[.bool false, .slice none 0 0, .int .i64 0], .int .i64 1]) (by simp [results, Tryd.results7, go_sem, r1, r2, r3]) rfl ?_
    exact fin.out _ (((HB2.out.setCell (by simp) _).setCell (by simp) _).setCell (by simp) _)
  · obtain ⟨k, hk⟩ := run_nan hr (w.alloc (.cells #[.bool false, .slice none 0 0, .int .i64 0] 27))
    have hn := nan_is k
    obtain ⟨W, hW⟩ : ∃ W, W = nanW k := ⟨_, rfl⟩
    rw [← hW] at hk hn
    clear hW hr
    have B0 : Hid (Below w.heap.size w (w.alloc (.cells #[.bool false, .slice none 0 0, .int .i64 0] 27)).drew) := (bel0 _ _).drew
    have KD : Hid (Has3 w.heap.size (w.alloc (.cells #[.bool false, .slice none 0 0, .int .i64 0] 27)).drew) := (K0.out _).later (Below.refl _ _).drew
    go_enter Tryd.func7, Tryd.ntmps7
    go_wp2_with (simp only [hk])
    refine (isNaN64_any W true _ hn).mono ?_
    rintro e w1 ⟨rfl, hb1⟩
    have K1 : Hid (Has3 w.heap.size w1) := KD.out.later hb1
    have HB1 : Hid (Below w.heap.size w w1) := B0.out.trans (hb1.mono B0.out.size)
    have r1 := K1.out.r1
    have r2 := K1.out.r2
    have r3 := K1.out.r3
    have r4 := K1.out.r4
    clear hb1 K0 KD B0
    go_wp2
    refine bodyPost_ret (v := .tuple #[.agg #[.bool false, .slice none 0 0, .int .i64 0], .int .i64 1]) (by simp [results, Tryd.results7, go_sem, r1, r2, r3]) rfl ?_
    exact fin.out _ (((HB1.out.setCell (by simp) _).setCell (by simp) _).setCell (by simp) _)

theorem dyOfI_any (b : Int) (w : World) (h0 : 0 ≤ b) (h1 : b < 4294967296) (hT : Tab w) :
    Calls Tryd.prog 7 #[.int .u32 b] w fun e w' => OutDI w (fFin b) (atK 100000 (fNum b) (fExp b - 150)) e w' := by
  cases hf : fFin b
  · exact dyOfI_bad b _ w h0 h1 hf
  · exact dyOfI_ok b w h0 h1 hf hT

end Go.Proofs.YtladfpljnaippaaDoor
