/-
  The model's dyadic numbers: negatives.
-/
import Derived.Test.YtladfpljnaippaaDy1h
import Derived.Test.YtladfpljnaippaaSpecI
namespace Go.Proofs.Ytladfpljnaippaa
open Go.RowKit

set_option maxHeartbeats 4000000 in
theorem neg2_any (g : Bool) (a : Option Addr) (c : Nat) (ds : List Int) (m E : Int) (w : World) (hn : ds.length ≤ 1048576) (h : L1 w g a c ds m) :
    Calls Try.prog 39 #[.agg #[.bool g, .slice a ds.length c, .int .i64 E]] w fun e w' => ∃ g' ds', e = .returned (.agg #[.bool g', .slice a ds'.length c, .int .i64 E]) ∧ ds'.length ≤ ds.length ∧ L1 w' g' a c ds' (-m) ∧ Below w.heap.size w w' := by
  have B0 : Hid (∀ t t', Bx3 w (.bool g) (.slice a ds.length c) (.int .i64 E) ((w.alloc (.cells #[.bool g, .slice a ds.length c, .int .i64 E] t)).alloc (.cells #[.bool false, .slice none 0 0, .int .i64 0] t'))) := fun t t' => Bx3.start w _ _ _ _ _
  go_enter Try.func39, Try.ntmps39
  go_wp2
  obtain ⟨W0, hW0⟩ : ∃ W0, W0 = ((w.alloc (.cells #[.bool g, .slice a ds.length c, .int .i64 E] 54)).alloc (.cells #[.bool false, .slice none 0 0, .int .i64 0] 54)) := ⟨_, rfl⟩
  have F : Hid (Bx3 w (.bool g) (.slice a ds.length c) (.int .i64 E) W0) := by unfold Hid; rw [hW0]; exact B0.out _ _
  rw [← hW0]
  clear hW0 B0
  have zz : w.heap.size + 1 < W0.heap.size := F.out.le
  go_region_held3 (fun w' => w'.cell? ⟨w.heap.size, 0, none⟩ = some (.bool g) ∧ w'.cell? ⟨w.heap.size, 1, none⟩ = some (.slice a ds.length c) ∧ w'.cell? ⟨w.heap.size, 2, none⟩ = some (.int .i64 E) ∧ Below (w.heap.size + 1) W0 w')
    (first | exact F.out.held (Below.refl _ _).drew | exact F.out.held (by assumption) | exact F.out.held (Below.setCell (Below.setCell (Below.setCell (by assumption) (by simp) _) (by simp) _) (by simp) _))
    (first
      | (go_at_call 64; refine (neg_any g a c ds m _ hn (h.later F.out.bel.drew)).mono ?_; rintro e w2 ⟨g2, ds2, rfl, hl2, hL2, hb2⟩; have hB2 : Below W0.heap.size W0 w2 := (Below.refl _ _).drew.trans hb2; have hB2' : Below (w.heap.size + 1) W0 w2 := hB2.mono (by omega); have F2 : Hid (Bx3 w (.bool g) (.slice a ds.length c) (.int .i64 E) w2) := F.out.later hB2; have r1 := F2.out.r1; have r2 := F2.out.r2; have r3 := F2.out.r3; have r4 := F2.out.r4))
  have HL2 : Hid (L1 w2 g2 a c ds2 (-m)) := hL2
  clear hL2 hB2 hB2' hb2
  go_wp2
  refine bodyPost_ret (v := .agg #[.bool g2, .slice a ds2.length c, .int .i64 E]) (by simp [results, Try.results39, go_sem, r1, r2, r3]) rfl ?_
  refine ⟨g2, ds2, rfl, by omega, ?_, ?_⟩
  · exact ((HL2.out.setNew h.sl.row hl2 (by simp) _).setNew h.sl.row hl2 (by simp) _).setNew h.sl.row hl2 (by simp) _
  · exact ((F2.out.bel.setCell (by simp) _).setCell (by simp) _).setCell (by simp) _

end Go.Proofs.Ytladfpljnaippaa
