/-
  The model's DyOf.
-/
import Derived.Test.YtladfpljnaippaaDoorSpecFl
import Derived.Test.YtladfpljnaippaaDoorDyO
namespace Go.Proofs.YtladfpljnaippaaDoor
open Go.RowKit

theorem finD_any (b : Int) (w : World) (_h0 : 0 ≤ b) (_h1 : b < 4294967296) :
    Calls Tryd.prog 17 #[.int .u32 b] w fun e w' => e = .returned (.bool (fFin b)) ∧ Below w.heap.size w w' := by
  go_enter Tryd.func17, Tryd.ntmps17
  go_wp2
  go_ret
  exact ⟨by unfold fFin; rfl, Below.refl _ _⟩

set_option maxHeartbeats 2000000 in
theorem dyOfS_any (b : Int) (w : World) (h0 : 0 ≤ b) (h1 : b < 4294967296) :
    Calls Tryd.prog 6 #[.int .u32 b] w fun e w' => OutDS w (fFin b) (atK 100000 (fNum b) (fExp b - 150)) e w' := by
  have hex := fExp_pos h0
  have K0 : Hid (∀ t, Has3 w.heap.size (w.alloc (.cells #[.bool false, .slice none 0 0, .int .i64 0] t))) := fun t => Has3.new w t
  obtain ⟨v, hv⟩ : ∃ v, v = atK 100000 (fNum b) (fExp b - 150) := ⟨_, rfl⟩
  have HV : Hid (v = atK 100000 (fNum b) (fExp b - 150)) := hv
  rw [← hv]
  clear hv
  cases hf : fFin b
  · go_enter Tryd.func6, Tryd.ntmps6
    go_wp2_with fail
    refine (finD_any b _ h0 h1).mono ?_
    rintro e w1 ⟨rfl, hb1⟩
    rw [hf]
    have K1 : Hid (Has3 w.heap.size w1) := (K0.out _).later hb1
    have HB : Hid (Below w.heap.size w w1) := (bel0 _ _).trans (hb1.mono (by simp))
    have r1 := K1.out.r1
    have r2 := K1.out.r2
    have r3 := K1.out.r3
    have r4 := K1.out.r4
    clear hb1 K0
    go_wp2
    refine bodyPost_ret (v := .tuple #[.agg #[.bool false, .slice none 0 0, .int .i64 0], .int .i64 1]) (by simp [results, Tryd.results6, go_sem, r1, r2, r3]) rfl ?_
    refine ⟨false, [], 0, 1, none, 0, rfl, .inl ⟨rfl, rfl, rfl, rfl, rfl⟩, .inl rfl, .inl rfl, ?_⟩
    exact ((HB.out.setCell (by simp) _).setCell (by simp) _).setCell (by simp) _
  · go_enter Tryd.func6, Tryd.ntmps6
    go_wp2_with fail
    refine (finD_any b _ h0 h1).mono ?_
    rintro e w1 ⟨rfl, hb1⟩
    rw [hf]
    have K1 : Hid (Has3 w.heap.size w1) := (K0.out _).later hb1
    have HB1 : Hid (Below w.heap.size w w1) := (bel0 _ _).trans (hb1.mono (by simp))
    clear hb1 K0
    go_wp2_with fail
    refine (float2_any b _ h0 h1).mono ?_
    rintro e w2 ⟨m, e', hnf, g2, a2, c2, fs, rfl, hl2, hL2, hF2, hb2⟩
    have K2 : Hid (Has3 w.heap.size w2) := K1.out.later hb2
    have HB2 : Hid (Below w.heap.size w w2) := HB1.out.trans (hb2.mono HB1.out.size)
    have hbd : -100000 ≤ e' ∧ e' ≤ 1000000 := by have := hnf.bound; omega
    have HVV : Hid (atK 100000 m e' = v) := by unfold Hid; rw [HV.out]; exact hnf.at (by omega)
    have HL : Hid (L1 w2 g2 a2 c2 fs m) := hL2
    clear hb2 hnf hL2 hF2
    go_wp2_with fail
    refine (out2_any g2 a2 c2 fs m e' _ (by omega) hbd.1 hbd.2 HL.out).mono ?_
    rintro e w3 ⟨G, Z, E, K, a3, c3, rfl, hres, hr3, hf3, hb3⟩
    rw [HVV.out] at hres
    have K3 : Hid (Has3 w.heap.size w3) := K2.out.later hb3
    have HB3 : Hid (Below w.heap.size w w3) := HB2.out.trans (hb3.mono HB2.out.size)
    have HR : Hid (ResD true v G Z E K) := hres
    have HA : Hid (RowAt .u32 w3 a3 Z) := hr3
    have HF : Hid (Far (w.heap.size + 1) a3 Z) := Far.down hf3 K2.out.lt
    have r1 := K3.out.r1
    have r2 := K3.out.r2
    have r3 := K3.out.r3
    have r4 := K3.out.r4
    clear hb3 hres hr3 hf3
    go_wp2
    refine bodyPost_ret (v := .tuple #[.agg #[.bool G, .slice a3 Z.length c3, .int .i64 E], .int .i64 K]) (by simp [results, Tryd.results6, go_sem, r1, r2, r3]) rfl ?_
    refine ⟨G, Z, E, K, a3, c3, rfl, HR.out, ?_, HF.out.down (by omega), ?_⟩
    · exact ((HA.out.setAway (HF.out.away (by simp)) _).setAway (HF.out.away (by simp)) _).setAway (HF.out.away (by simp)) _
    · exact ((HB3.out.setCell (by simp) _).setCell (by simp) _).setCell (by simp) _

end Go.Proofs.YtladfpljnaippaaDoor
