/-
  The program's sign of a Big.
-/
import Derived.Test.YtmacbfiolkpofadImplO
import Derived.Test.YtmacbfiolkpofadRes
namespace Go.Proofs.Ytmacbfiolkpofad
open Go.RowKit

theorem ord_B1 {g g' : Bool} {zs ys : List Int} {x y : Int} (h : B1 g zs x) (h' : B1 g' ys y) : ordB g g' zs ys = sgn (x - y) := by
  have p1 := val_nonneg (B := 4294967296) (by decide) h.can.1
  have p2 := val_nonneg (B := 4294967296) (by decide) h'.can.1
  rw [h.num, h'.num]
  cases g <;> cases g'
  · simp only [ordB, sg]
    rw [if_neg (by simp), if_neg (by simp), if_neg (by simp), cmpL_val (by decide) h.can h'.can]
    rfl
  · have := val_pos (B := 4294967296) (by decide) h'.can (h'.zero rfl)
    simp only [ordB, sg]
    rw [if_neg (by simp), if_pos (by simp)]
    simp only [Bool.false_eq_true, if_false, if_true]
    unfold sgn
    rw [if_neg (by omega), if_neg (by omega)]
  · have := val_pos (B := 4294967296) (by decide) h.can (h.zero rfl)
    simp only [ordB, sg]
    rw [if_pos (by simp)]
    simp only [Bool.false_eq_true, if_false, if_true]
    unfold sgn
    rw [if_pos (by omega)]
  · simp only [ordB, sg]
    rw [if_neg (by simp), if_neg (by simp)]
    simp only [if_true]
    rw [cmpL_val (by decide) h'.can h.can]
    congr 1
    omega

theorem B1.nil : B1 false [] 0 := ⟨⟨Dig.nil _, rfl⟩, by simp [sg, val], fun h => by cases h⟩

set_option maxHeartbeats 1000000 in
theorem signB_any (g : Bool) (a : Option Addr) (c : Nat) (zs : List Int) (x : Int) (w : World) (hn : zs.length ≤ 1048576) (hz : RowAt .u32 w a zs) (h : B1 g zs x) :
    Calls Try.prog 54 #[.agg #[.bool g, .slice a zs.length c]] w fun e w' => e = .returned (.int .i64 (sgn x)) ∧ Below w.heap.size w w' := by
  go_enter Try.func54, Try.ntmps54
  go_wp2_with fail
  refine (orderOf_any g false a none c 0 zs [] _ hn (by simp) (hz.later (bel0 _ _)) (.inl rfl)).mono ?_
  rintro e w1 ⟨rfl, hb1⟩
  rw [ord_B1 h B1.nil, Int.sub_zero]
  have HB : Hid (Below w.heap.size w w1) := (bel0 _ _).trans (hb1.mono (by simp))
  clear hb1
  go_wp2
  go_ret
  exact ⟨rfl, HB.out⟩

end Go.Proofs.Ytmacbfiolkpofad
