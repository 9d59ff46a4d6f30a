/-
  The model's negatives.
-/
import Derived.Test.YtladfpljnaippaaSpecF
import Derived.Test.YtladfpljnaippaaSpecH
import Derived.Test.YtladfpljnaippaaDy1h
import Derived.Test.YtladfpljnaippaaDyI6aDy6
import Derived.Test.YtladfpljnaippaaDy1
namespace Go.Proofs.Ytladfpljnaippaa
open Go.RowKit

set_option maxHeartbeats 1000000 in
theorem neg_any (g : Bool) (a : Option Addr) (c : Nat) (ds : List Int) (x : Int) (w : World) (hn : ds.length ≤ 1048576) (h : L1 w g a c ds x) :
    Calls Try.prog 64 #[.agg #[.bool g, .slice a ds.length c]] w fun e w' => ∃ g' ds', e = .returned (.agg #[.bool g', .slice a ds'.length c]) ∧ ds'.length ≤ ds.length ∧ L1 w' g' a c ds' (-x) ∧ Below w.heap.size w w' := by
  have hx : sg (!g) (val 65536 ds) = -x := by rw [sg_not, h.num]
  have HX : Hid (sg (!g) (val 65536 ds) = -x) := hx
  clear hx
  go_enter Try.func64, Try.ntmps64
  go_wp2_with fail
  refine (make_any (!g) a c ds _ hn h.cap (h.sl.later (bel2 _ _ _)) h.can.1).mono ?_
  rintro e w1 ⟨g', ds', rfl, hle, hL, hb1⟩
  have hb2 := hb1
  simp at hb2
  have r1 : w1.cell? ⟨w.heap.size + 1, 0, none⟩ = some (.bool false) := by rw [(bcell hb1).1 _ _ (by simp)]; simp [go_sem]
  have r2 : w1.cell? ⟨w.heap.size + 1, 1, none⟩ = some (.slice none 0 0) := by rw [(bcell hb1).1 _ _ (by simp)]; simp [go_sem]
  have r3 : ∀ j, w1.frozen? ⟨w.heap.size + 1, j, none⟩ = false := by intro j; rw [(bcell hb1).2 _ _ (by simp)]; simp [go_sem]
  have HB : Hid (Below w.heap.size w w1) := (bel2 _ _ _).trans (hb1.mono (by simp; omega))
  rw [HX.out] at hL
  have HL : Hid (L1 w1 g' a c ds' (-x)) := hL
  clear hL hb1 hb2
  go_wp2
  refine bodyPost_ret (v := .agg #[.bool g', .slice a ds'.length c]) (by simp [results, Try.results64, go_sem, r1, r2]) rfl ⟨g', ds', rfl, hle, ?_, ?_⟩
  · exact (HL.out.setNew h.sl.row hle (by simp) _).setNew h.sl.row hle (by simp) _
  · exact (HB.out.setCell (by simp) _).setCell (by simp) _

end Go.Proofs.Ytladfpljnaippaa

/-
  The model's differences.
-/
namespace Go.Proofs.Ytladfpljnaippaa
open Go.RowKit

end Go.Proofs.Ytladfpljnaippaa

/-
  The model's signs.
-/
namespace Go.Proofs.Ytladfpljnaippaa
open Go.RowKit

theorem L1.sgn {w : World} {g : Bool} {a : Option Addr} {c : Nat} {ds : List Int} {x : Int} (h : L1 w g a c ds x) : (ds.length = 0 → x = 0) ∧ (ds.length ≠ 0 → g = true → x < 0) ∧ (ds.length ≠ 0 → g = false → 0 < x) := by
  refine ⟨fun h0 => ?_, fun h0 hg => ?_, fun h0 hg => ?_⟩
  · have : ds = [] := List.length_eq_zero_iff.1 h0
    rw [h.num, this]
    cases g <;> simp [sg, val]
  · have := val_pos (B := 65536) (by decide) h.can (fun e => h0 (by simp [e]))
    rw [h.num, hg]
    simp [sg]
    omega
  · have := val_pos (B := 65536) (by decide) h.can (fun e => h0 (by simp [e]))
    rw [h.num, hg]
    simpa [sg] using this

set_option maxHeartbeats 1000000 in
theorem sign_any (g : Bool) (a : Option Addr) (c : Nat) (ds : List Int) (x : Int) (w : World) (_hn : ds.length ≤ 1048576) (h : L1 w g a c ds x) :
    Calls Try.prog 40 #[.agg #[.bool g, .slice a ds.length c]] w fun e w' => e = .returned (.int .i64 (sgn x)) ∧ Below w.heap.size w w' := by
  obtain ⟨s1, s2, s3⟩ := h.sgn
  by_cases h0 : ds.length = 0
  · have HS : Hid (sgn x = 0) := by unfold Hid; rw [s1 h0]; rfl
    have e0 : ((ds.length : Int) == 0) = true := by rw [beq_iff_eq]; omega
    clear s1 s2 s3 h
    go_enter Try.func40, Try.ntmps40
    go_wp2
    go_ret
    exact ⟨ret_int HS.out.symm, bel0 _ _⟩
  · have e0 : ((ds.length : Int) == 0) = false := len_ne h0
    cases g with
    | true =>
      have HS : Hid (sgn x = -1) := by unfold Hid Go.Proofs.Ytladfpljnaippaa.sgn; rw [if_pos (s2 h0 rfl)]
      clear s1 s2 s3 h
      go_enter Try.func40, Try.ntmps40
      go_wp2
      go_ret
      exact ⟨ret_int HS.out.symm, bel0 _ _⟩
    | false =>
      have HS : Hid (sgn x = 1) := by
        have := s3 h0 rfl
        unfold Hid Go.Proofs.Ytladfpljnaippaa.sgn
        rw [if_neg (by omega), if_neg (by omega)]
      clear s1 s2 s3 h
      go_enter Try.func40, Try.ntmps40
      go_wp2
      go_ret
      exact ⟨ret_int HS.out.symm, bel0 _ _⟩

end Go.Proofs.Ytladfpljnaippaa

/-
  The model's dyadic numbers: negatives.
-/
namespace Go.Proofs.Ytladfpljnaippaa
open Go.RowKit

set_option maxHeartbeats 4000000 in
theorem neg2_any (g : Bool) (a : Option Addr) (c : Nat) (ds : List Int) (m E : Int) (w : World) (hn : ds.length ≤ 1048576) (h : L1 w g a c ds m) :
    Calls Try.prog 39 #[.agg #[.bool g, .slice a ds.length c, .int .i64 E]] w fun e w' => ∃ g' ds', e = .returned (.agg #[.bool g', .slice a ds'.length c, .int .i64 E]) ∧ ds'.length ≤ ds.length ∧ L1 w' g' a c ds' (-m) ∧ Below w.heap.size w w' := by
  have B0 : Hid (∀ t t', Bx3 w (.bool g) (.slice a ds.length c) (.int .i64 E) ((w.alloc (.cells #[.bool g, .slice a ds.length c, .int .i64 E] t)).alloc (.cells #[.bool false, .slice none 0 0, .int .i64 0] t'))) := fun t t' => Bx3.start w _ _ _ _ _
  go_enter Try.func39, Try.ntmps39
  go_wp2
  obtain ⟨W0, hW0⟩ : ∃ W0, W0 = ((w.alloc (.cells #[.bool g, .slice a ds.length c, .int .i64 E] 54)).alloc (.cells #[.bool false, .slice none 0 0, .int .i64 0] 54)) := ⟨_, rfl⟩
  have F : Hid (Bx3 w (.bool g) (.slice a ds.length c) (.int .i64 E) W0) := by unfold Hid; rw [hW0]; exact B0.out _ _
  rw [← hW0]
  clear hW0 B0
  have zz : w.heap.size + 1 < W0.heap.size := F.out.le
  go_region_held3 (fun w' => w'.cell? ⟨w.heap.size, 0, none⟩ = some (.bool g) ∧ w'.cell? ⟨w.heap.size, 1, none⟩ = some (.slice a ds.length c) ∧ w'.cell? ⟨w.heap.size, 2, none⟩ = some (.int .i64 E) ∧ Below (w.heap.size + 1) W0 w')
    (first | exact F.out.held (Below.refl _ _).drew | exact F.out.held (by assumption) | exact F.out.held (Below.setCell (Below.setCell (Below.setCell (by assumption) (by simp) _) (by simp) _) (by simp) _))
    (first
      | (go_at_call 64; refine (neg_any g a c ds m _ hn (h.later F.out.bel.drew)).mono ?_; rintro e w2 ⟨g2, ds2, rfl, hl2, hL2, hb2⟩; have hB2 : Below W0.heap.size W0 w2 := (Below.refl _ _).drew.trans hb2; have hB2' : Below (w.heap.size + 1) W0 w2 := hB2.mono (by omega); have F2 : Hid (Bx3 w (.bool g) (.slice a ds.length c) (.int .i64 E) w2) := F.out.later hB2; have r1 := F2.out.r1; have r2 := F2.out.r2; have r3 := F2.out.r3; have r4 := F2.out.r4))
  have HL2 : Hid (L1 w2 g2 a c ds2 (-m)) := hL2
  clear hL2 hB2 hB2' hb2
  go_wp2
  refine bodyPost_ret (v := .agg #[.bool g2, .slice a ds2.length c, .int .i64 E]) (by simp [results, Try.results39, go_sem, r1, r2, r3]) rfl ?_
  refine ⟨g2, ds2, rfl, by omega, ?_, ?_⟩
  · exact ((HL2.out.setNew h.sl.row hl2 (by simp) _).setNew h.sl.row hl2 (by simp) _).setNew h.sl.row hl2 (by simp) _
  · exact ((F2.out.bel.setCell (by simp) _).setCell (by simp) _).setCell (by simp) _

end Go.Proofs.Ytladfpljnaippaa

/-
  The model's dyadic numbers in boxes; what their order leans on.
-/
namespace Go.Proofs.Ytladfpljnaippaa

end Go.Proofs.Ytladfpljnaippaa

/-
  The parts of a valid Dyadic.
-/
namespace Go.Proofs.Ytladfpljnaippaa
open Go.RowKit

theorem validD_parts {g : Bool} {zs : List Int} {E : Int} (h : validD g zs E = true) : validB g zs = true ∧ -20000 ≤ E ∧ E ≤ 20000 := by
  unfold validD at h
  simp only [Bool.and_eq_true, decide_eq_true_eq] at h
  exact ⟨h.1, h.2.1, h.2.2⟩

end Go.Proofs.Ytladfpljnaippaa
