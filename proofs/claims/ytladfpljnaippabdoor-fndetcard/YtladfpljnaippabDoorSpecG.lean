/-
  The model's sums.
-/
import Derived.Test.YtladfpljnaippabDoorSpecF
namespace Go.Proofs.YtladfpljnaippabDoor
open Go.RowKit

/-- What a region of l1add holds of memory: both boxes, and that nothing below the answer's own box has turned. -/
def AddS (w : World) (g g' : Bool) (v v' : Value) (w0 w1 : World) : Prop :=
  w1.cell? ⟨w.heap.size, 0, none⟩ = some (.bool g) ∧ w1.cell? ⟨w.heap.size, 1, none⟩ = some v ∧ w1.cell? ⟨w.heap.size + 1, 0, none⟩ = some (.bool g') ∧ w1.cell? ⟨w.heap.size + 1, 1, none⟩ = some v' ∧ Below (w.heap.size + 1 + 1) w0 w1

theorem addS_of {w w0 w1 : World} {g g' : Bool} {v v' : Value} (h : AddS w g g' v v' w0 w0) (hb : Below (w.heap.size + 1 + 1) w0 w1) : w1.cell? ⟨w.heap.size, 0, none⟩ = some (.bool g) ∧ w1.cell? ⟨w.heap.size, 1, none⟩ = some v ∧ w1.cell? ⟨w.heap.size + 1, 0, none⟩ = some (.bool g') ∧ w1.cell? ⟨w.heap.size + 1, 1, none⟩ = some v' ∧ Below (w.heap.size + 1 + 1) w0 w1 :=
  ⟨(hb.cell (by simp; omega)).trans h.1, (hb.cell (by simp; omega)).trans h.2.1, (hb.cell (by simp)).trans h.2.2.1, (hb.cell (by simp)).trans h.2.2.2.1, hb⟩

/-- The world behind the boxes of two arguments and of the answer. -/
theorem addF (w : World) (g g' : Bool) (v v' z : Value) (t t' t2 : TypeId) (W0 : World) (hW : W0 = ((w.alloc (.cells #[.bool g, v] t)).alloc (.cells #[.bool g', v'] t')).alloc (.cells #[.bool false, z] t2)) :
    AddS w g g' v v' W0 W0 ∧ W0.cell? ⟨w.heap.size + 1 + 1, 0, none⟩ = some (.bool false) ∧ W0.cell? ⟨w.heap.size + 1 + 1, 1, none⟩ = some z ∧ (∀ j, W0.frozen? ⟨w.heap.size + 1 + 1, j, none⟩ = false) ∧ W0.heap.size = w.heap.size + 1 + 1 + 1 ∧ Below w.heap.size w W0 := by
  subst hW
  refine ⟨⟨?_, ?_, ?_, ?_, Below.refl _ _⟩, ?_, ?_, ?_, ?_, bel3 _ _ _ _⟩
  all_goals simp [go_sem]

set_option maxHeartbeats 2000000 in
theorem add_same (g : Bool) (a a' : Option Addr) (c c' : Nat) (ds es : List Int) (x y : Int) (w : World) (hn : ds.length ≤ 100000) (hn' : es.length ≤ 100000) (h : L1 w g a c ds x) (h' : L1 w g a' c' es y) :
    Calls Tryd.prog 64 #[.agg #[.bool g, .slice a ds.length c], .agg #[.bool g, .slice a' es.length c']] w fun e w' => ∃ g2 a2 c2 fs, e = .returned (.agg #[.bool g2, .slice a2 fs.length c2]) ∧ fs.length ≤ ds.length + es.length + 1 ∧ L1 w' g2 a2 c2 fs (x + y) ∧ Far w.heap.size a2 fs ∧ Below w.heap.size w w' := by
  have HX : Hid (sg g (val 65536 (carryL 65536 (sumsL ds es) 0)) = x + y) := by
    unfold Hid
    rw [val_carry, val_sums, h.num, h'.num]
    cases g <;> simp [sg]
    omega
  have hlen : (carryL 65536 (sumsL ds es) 0).length ≤ ds.length + es.length + 1 := by
    have h1 := carry_length (B := 65536) (sumsL ds es) 0
    have h2 := sums_length ds es
    omega
  have hgg : (g == g) = true := by simp
  go_enter Tryd.func64, Tryd.ntmps64
  go_wp2
  obtain ⟨W0, hW0⟩ : ∃ W0, W0 = (((w.alloc (.cells #[.bool g, .slice a ds.length c] 64)).alloc (.cells #[.bool g, .slice a' es.length c'] 64)).alloc (.cells #[.bool false, .slice none 0 0] 64)) := ⟨_, rfl⟩
  rw [← hW0]
  have F : Hid (AddS w g g (.slice a ds.length c) (.slice a' es.length c') W0 W0 ∧ W0.cell? ⟨w.heap.size + 1 + 1, 0, none⟩ = some (.bool false) ∧ W0.cell? ⟨w.heap.size + 1 + 1, 1, none⟩ = some (.slice none 0 0) ∧ (∀ j, W0.frozen? ⟨w.heap.size + 1 + 1, j, none⟩ = false) ∧ W0.heap.size = w.heap.size + 1 + 1 + 1 ∧ Below w.heap.size w W0) := addF w g g _ _ _ _ _ _ W0 hW0
  clear hW0
  have KB : Hid (Below w.heap.size w W0) := F.out.2.2.2.2.2
  have KS : Hid (W0.heap.size = w.heap.size + 1 + 1 + 1) := F.out.2.2.2.2.1
  go_region_held3 (fun w' => w'.cell? ⟨w.heap.size, 0, none⟩ = some (.bool g) ∧ w'.cell? ⟨w.heap.size, 1, none⟩ = some (.slice a ds.length c) ∧ w'.cell? ⟨w.heap.size + 1, 0, none⟩ = some (.bool g) ∧ w'.cell? ⟨w.heap.size + 1, 1, none⟩ = some (.slice a' es.length c') ∧ Below (w.heap.size + 1 + 1) W0 w')
    (first | exact addS_of F.out.1 (Below.refl _ _).drew | exact addS_of F.out.1 (by assumption) | exact addS_of F.out.1 (Below.setCell (Below.setCell (by assumption) (by simp) _) (by simp) _))
    (first
      | (go_at_call 96; refine (addMag_any a a' c c' ds es _ (by omega) (by omega) (h.sl.row.later KB.out.drew) (h'.sl.row.later KB.out.drew) h.can.1 h'.can.1).mono ?_; rintro e w1 ⟨a2, c2, rfl, hcm, hsl1, hrn1, hb1⟩; have hB1 : Below W0.heap.size W0 w1 := (Below.refl _ _).drew.trans hb1; have hB1' : Below (w.heap.size + 1 + 1) W0 w1 := hB1.mono (by rw [KS.out]; omega))
      | (go_at_call 60; refine (make_any g a2 c2 _ _ (by omega) hcm hsl1 (dig_add (by decide) h.can.1 h'.can.1)).mono ?_; rintro e w2 ⟨g2, fs, rfl, hfl, hL2, hb2⟩; have hB2 : Below W0.heap.size W0 w2 := hB1.trans (hb2.mono hB1.size); have hB2' : Below (w.heap.size + 1 + 1) W0 w2 := hB2.mono (by rw [KS.out]; omega); have r1 : w2.cell? ⟨w.heap.size + 1 + 1, 0, none⟩ = some (.bool false) := (hB2.cell (by simp [KS.out])).trans F.out.2.1; have r2 : w2.cell? ⟨w.heap.size + 1 + 1, 1, none⟩ = some (.slice none 0 0) := (hB2.cell (by simp [KS.out])).trans F.out.2.2.1; have r3 : ∀ j, w2.frozen? ⟨w.heap.size + 1 + 1, j, none⟩ = false := fun j => (hB2.frozen (by simp [KS.out])).trans (F.out.2.2.2.1 j)))
  have HR : Hid (RowNew .i64 w1 W0.heap.size a2 (carryL 65536 (sumsL ds es) 0)) := hrn1
  have HL : Hid (L1 w2 g2 a2 c2 fs (sg g (val 65536 (carryL 65536 (sumsL ds es) 0)))) := hL2
  have HB : Hid (Below w.heap.size w w2) := KB.out.trans (hB2.mono (by rw [KS.out]; omega))
  clear hrn1 hL2 hB1 hB1' hB2 hB2' hb1 hb2 hsl1
  go_wp2
  refine bodyPost_ret (v := .agg #[.bool g2, .slice a2 fs.length c2]) (by simp [results, Tryd.results64, go_sem, r1, r2]) rfl ⟨g2, a2, c2, fs, rfl, by omega, ?_, HR.out.far hfl (by rw [KS.out]; omega), ?_⟩
  · rw [← HX.out]
    exact (HL.out.setLow HR.out hfl (by simp [KS.out]) _).setLow HR.out hfl (by simp [KS.out]) _
  · exact (HB.out.setCell (by simp; omega) _).setCell (by simp; omega) _

end Go.Proofs.YtladfpljnaippabDoor
