/-
  The model's negatives.
-/
import Derived.Test.YtladfpljnaippaaSpecF
namespace Go.Proofs.Ytladfpljnaippaa
open Go.RowKit

set_option maxHeartbeats 1000000 in
theorem neg_any (g : Bool) (a : Option Addr) (c : Nat) (ds : List Int) (x : Int) (w : World) (hn : ds.length ≤ 1048576) (h : L1 w g a c ds x) :
    Calls Try.prog 64 #[.agg #[.bool g, .slice a ds.length c]] w fun e w' => ∃ g' ds', e = .returned (.agg #[.bool g', .slice a ds'.length c]) ∧ ds'.length ≤ ds.length ∧ L1 w' g' a c ds' (-x) ∧ Below w.heap.size w w' := by
  have hx : sg (!g) (val 65536 ds) = -x := by rw [sg_not, h.num]
  have HX : Hid (sg (!g) (val 65536 ds) = -x) := hx
  clear hx
  go_enter Try.func64, Try.ntmps64
  go_wp2_with fail
  refine (make_any (!g) a c ds _ hn h.cap (h.sl.later (bel2 _ _ _)) h.can.1).mono ?_
  rintro e w1 ⟨g', ds', rfl, hle, hL, hb1⟩
  have hb2 := hb1
  simp at hb2
  have r1 : w1.cell? ⟨w.heap.size + 1, 0, none⟩ = some (.bool false) := by rw [(bcell hb1).1 _ _ (by simp)]; simp [go_sem]
  have r2 : w1.cell? ⟨w.heap.size + 1, 1, none⟩ = some (.slice none 0 0) := by rw [(bcell hb1).1 _ _ (by simp)]; simp [go_sem]
  have r3 : ∀ j, w1.frozen? ⟨w.heap.size + 1, j, none⟩ = false := by intro j; rw [(bcell hb1).2 _ _ (by simp)]; simp [go_sem]
  have HB : Hid (Below w.heap.size w w1) := (bel2 _ _ _).trans (hb1.mono (by simp; omega))
  rw [HX.out] at hL
  have HL : Hid (L1 w1 g' a c ds' (-x)) := hL
  clear hL hb1 hb2
  go_wp2
  refine bodyPost_ret (v := .agg #[.bool g', .slice a ds'.length c]) (by simp [results, Try.results64, go_sem, r1, r2]) rfl ⟨g', ds', rfl, hle, ?_, ?_⟩
  · exact (HL.out.setNew h.sl.row hle (by simp) _).setNew h.sl.row hle (by simp) _
  · exact (HB.out.setCell (by simp) _).setCell (by simp) _

end Go.Proofs.Ytladfpljnaippaa
