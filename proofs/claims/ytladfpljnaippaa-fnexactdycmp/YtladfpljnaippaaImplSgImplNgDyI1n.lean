/-
  The program's sign of a Big.
-/
import Derived.Test.YtladfpljnaippaaImplOCmpIDyI6
import Derived.Test.YtladfpljnaippaaRes
import Derived.Test.YtladfpljnaippaaImplB
import Derived.Test.YtladfpljnaippaaBox1
import Derived.Test.YtladfpljnaippaaDyI1
namespace Go.Proofs.Ytladfpljnaippaa
open Go.RowKit

theorem ord_B1 {g g' : Bool} {zs ys : List Int} {x y : Int} (h : B1 g zs x) (h' : B1 g' ys y) : ordB g g' zs ys = sgn (x - y) := by
  have p1 := val_nonneg (B := 4294967296) (by decide) h.can.1
  have p2 := val_nonneg (B := 4294967296) (by decide) h'.can.1
  rw [h.num, h'.num]
  cases g <;> cases g'
  · simp only [ordB, sg]
    rw [if_neg (by simp), if_neg (by simp), if_neg (by simp), cmpL_val (by decide) h.can h'.can]
    rfl
  · have := val_pos (B := 4294967296) (by decide) h'.can (h'.zero rfl)
    simp only [ordB, sg]
    rw [if_neg (by simp), if_pos (by simp)]
    simp only [Bool.false_eq_true, if_false, if_true]
    unfold sgn
    rw [if_neg (by omega), if_neg (by omega)]
  · have := val_pos (B := 4294967296) (by decide) h.can (h.zero rfl)
    simp only [ordB, sg]
    rw [if_pos (by simp)]
    simp only [Bool.false_eq_true, if_false, if_true]
    unfold sgn
    rw [if_pos (by omega)]
  · simp only [ordB, sg]
    rw [if_neg (by simp), if_neg (by simp)]
    simp only [if_true]
    rw [cmpL_val (by decide) h'.can h.can]
    congr 1
    omega

theorem B1.nil : B1 false [] 0 := ⟨⟨Dig.nil _, rfl⟩, by simp [Go.Proofs.Ytladfpljnaippaa.sg, val], fun h => by cases h⟩

set_option maxHeartbeats 1000000 in
theorem signB_any (g : Bool) (a : Option Addr) (c : Nat) (zs : List Int) (x : Int) (w : World) (hn : zs.length ≤ 1048576) (hz : RowAt .u32 w a zs) (h : B1 g zs x) :
    Calls Try.prog 43 #[.agg #[.bool g, .slice a zs.length c]] w fun e w' => e = .returned (.int .i64 (sgn x)) ∧ Below w.heap.size w w' := by
  go_enter Try.func43, Try.ntmps43
  go_wp2_with fail
  refine (orderOf_any g false a none c 0 zs [] _ hn (by simp) (hz.later (bel0 _ _)) (.inl rfl)).mono ?_
  rintro e w1 ⟨rfl, hb1⟩
  rw [ord_B1 h B1.nil, Int.sub_zero]
  have HB : Hid (Below w.heap.size w w1) := (bel0 _ _).trans (hb1.mono (by simp))
  clear hb1
  go_wp2
  go_ret
  exact ⟨rfl, HB.out⟩

end Go.Proofs.Ytladfpljnaippaa

/-
  The program's negated Bigs, and its one.
-/
namespace Go.Proofs.Ytladfpljnaippaa
open Go.RowKit

set_option maxRecDepth 100000 in
set_option maxHeartbeats 4000000 in
theorem negB_any (g : Bool) (a : Option Addr) (n c : Nat) (w : World) :
    Calls Try.prog 67 #[.agg #[.bool g, .slice a n c]] w fun e w' => e = .returned (.agg #[.bool (!g && decide (0 < n)), .slice a n c]) ∧ Below w.heap.size w w' := by
  have B0 : Hid (∀ t t', Bx1 w (.bool g) (.slice a n c) ((w.alloc (.cells #[.bool g, .slice a n c] t)).alloc (.cells #[.bool false, .slice none 0 0] t'))) := fun t t' => Bx1.start w _ _ _ _
  go_enter Try.func67, Try.ntmps67
  go_wp2_with fail
  refine (signed_any (!g) a n c _).mono ?_
  rintro e w2 ⟨rfl, hb2⟩
  have F2 : Hid (Bx1 w (.bool g) (.slice a n c) w2) := (B0.out _ _).later hb2
  have r1 := F2.out.r1
  have r2 := F2.out.r2
  have r3 := F2.out.r3
  have zz : w.heap.size + 1 < w2.heap.size := F2.out.le
  clear hb2 B0
  obtain ⟨G, hG⟩ : ∃ G, G = (!g && decide (0 < n)) := ⟨_, rfl⟩
  rw [← hG]
  have HG : Hid (G = (!g && decide (0 < n))) := hG
  clear hG
  go_wp2
  refine bodyPost_ret (v := .agg #[.bool G, .slice a n c]) (by simp [results, Try.results67, go_sem, r1, r2]) rfl ?_
  exact ⟨by rw [HG.out], (F2.out.bel.setCell (by simp) _).setCell (by simp) _⟩

end Go.Proofs.Ytladfpljnaippaa

/-
  The program's negatives of dyadic numbers.
-/
namespace Go.Proofs.Ytladfpljnaippaa
open Go.RowKit

set_option maxRecDepth 100000 in
set_option maxHeartbeats 4000000 in
theorem negI_any (g : Bool) (a : Option Addr) (c : Nat) (zs : List Int) (E : Int) (w : World) :
    Calls Try.prog 42 #[.agg #[.bool g, .slice a zs.length c, .int .i64 E]] w fun e w' => e = .returned (.agg #[.bool (!g && decide (0 < zs.length)), .slice a zs.length c, .int .i64 E]) ∧ Below w.heap.size w w' := by
  have B0 : Hid (∀ t t', Bx3 w (.bool g) (.slice a zs.length c) (.int .i64 E) ((w.alloc (.cells #[.bool g, .slice a zs.length c, .int .i64 E] t)).alloc (.cells #[.bool false, .slice none 0 0, .int .i64 0] t'))) := fun t t' => Bx3.start w _ _ _ _ _
  go_enter Try.func42, Try.ntmps42
  go_wp2
  obtain ⟨W0, hW0⟩ : ∃ W0, W0 = ((w.alloc (.cells #[.bool g, .slice a zs.length c, .int .i64 E] 36)).alloc (.cells #[.bool false, .slice none 0 0, .int .i64 0] 36)) := ⟨_, rfl⟩
  have F : Hid (Bx3 w (.bool g) (.slice a zs.length c) (.int .i64 E) W0) := by unfold Hid; rw [hW0]; exact B0.out _ _
  rw [← hW0]
  clear hW0 B0
  have zz : w.heap.size + 1 < W0.heap.size := F.out.le
  go_region_held3 (fun w' => w'.cell? ⟨w.heap.size, 0, none⟩ = some (.bool g) ∧ w'.cell? ⟨w.heap.size, 1, none⟩ = some (.slice a zs.length c) ∧ w'.cell? ⟨w.heap.size, 2, none⟩ = some (.int .i64 E) ∧ Below (w.heap.size + 1) W0 w')
    (first | exact F.out.held (Below.refl _ _).drew | exact F.out.held (by assumption) | exact F.out.held (Below.setCell (Below.setCell (Below.setCell (by assumption) (by simp) _) (by simp) _) (by simp) _))
    (first
      | (go_at_call 67; refine (negB_any g a zs.length c _).mono ?_; rintro e w2 ⟨rfl, hb2⟩; have hB2 : Below W0.heap.size W0 w2 := (Below.refl _ _).drew.trans hb2; have hB2' : Below (w.heap.size + 1) W0 w2 := hB2.mono (by omega); have F2 : Hid (Bx3 w (.bool g) (.slice a zs.length c) (.int .i64 E) w2) := F.out.later hB2; have r1 := F2.out.r1; have r2 := F2.out.r2; have r3 := F2.out.r3; have r4 := F2.out.r4))
  clear hB2 hB2' hb2
  obtain ⟨G, hG⟩ : ∃ G, G = (!g && decide (0 < zs.length)) := ⟨_, rfl⟩
  rw [← hG]
  have HG : Hid (G = (!g && decide (0 < zs.length))) := hG
  clear hG
  go_wp2
  refine bodyPost_ret (v := .agg #[.bool G, .slice a zs.length c, .int .i64 E]) (by simp [results, Try.results42, go_sem, r1, r2, r3]) rfl ?_
  exact ⟨by rw [HG.out], ((F2.out.bel.setCell (by simp) _).setCell (by simp) _).setCell (by simp) _⟩

end Go.Proofs.Ytladfpljnaippaa
