/-
  Marks in Dyadics.
-/
import Derived.Test.YtladfpljnaippaaDoorMarks
namespace Go.Proofs.YtladfpljnaippaaDoor
open Go.RowKit

set_option maxHeartbeats 1000000 in
theorem mark2_any (g : Bool) (a : Option Addr) (c : Nat) (zs : List Int) (E k0 : Int) (w : World) (lo hi : Nat) (hn : zs.length ≤ 1048576) (h0 : 1 ≤ k0) (h1 : k0 ≤ 2097152) (hz : RowIn .u32 w lo hi a zs) :
    Calls Tryd.prog 9 #[.agg #[.bool g, .slice a zs.length c, .int .i64 E], .int .i64 k0] w fun e w' => e = .returned (.int .i64 (k0 + zs.length)) ∧ RowIn .u32 w' lo hi a (marksL k0 zs.length) ∧ ∃ w1, Below w.heap.size w w1 ∧ Within lo hi w1 w' := by
  go_enter Tryd.func9, Tryd.ntmps9
  go_wp2_with fail
  refine (markB_any g a c zs k0 _ lo hi hn h0 h1 (hz.later (bel0 _ _))).mono ?_
  rintro e w1 ⟨rfl, hr, w2, hb2, hw⟩
  have HR : Hid (RowIn .u32 w1 lo hi a (marksL k0 zs.length)) := hr
  have HW : Hid (∃ w2, Below w.heap.size w w2 ∧ Within lo hi w2 w1) := ⟨w2, (bel0 _ _).trans (hb2.mono (by simp)), hw⟩
  clear hr hw hz hb2
  go_wp2
  go_ret
  exact ⟨rfl, HR.out, HW.out⟩

set_option maxHeartbeats 1000000 in
theorem held2_any (g : Bool) (a : Option Addr) (c : Nat) (n : Nat) (E k0 : Int) (w : World) (hn : n ≤ 1048576) (h0 : 1 ≤ k0) (h1 : k0 ≤ 2097152) (hz : RowAt .u32 w a (marksL k0 n)) :
    Calls Tryd.prog 10 #[.agg #[.bool g, .slice a n c, .int .i64 E], .int .i64 k0] w fun e w' => e = .returned (.int .i64 (k0 + n)) ∧ Below w.heap.size w w' := by
  have hnn : ¬ k0 + (n : Int) < 0 := by omega
  go_enter Tryd.func10, Tryd.ntmps10
  go_wp2_with fail
  refine (heldB_any g a c n k0 _ hn h0 h1 (hz.later (bel0 _ _))).mono ?_
  rintro e w1 ⟨rfl, hb⟩
  have HB : Hid (Below w.heap.size w w1) := (bel0 _ _).trans (hb.mono (by simp))
  clear hz hb
  go_wp2
  go_ret
  exact ⟨rfl, HB.out⟩

end Go.Proofs.YtladfpljnaippaaDoor
