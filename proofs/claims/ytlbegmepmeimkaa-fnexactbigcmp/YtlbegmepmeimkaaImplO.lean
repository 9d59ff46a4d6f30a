/-
  The program's order of Bigs.
-/
import Derived.Test.YtlbegmepmeimkaaImplA
namespace Go.Proofs.Ytlbegmepmeimkaa
open Go.RowKit

/-- The order of two Bigs. -/
def ordB (g g' : Bool) (zs ys : List Int) : Int := if g = true ∧ g' = false then -1 else if g = false ∧ g' = true then 1 else if g = true then cmpL ys zs else cmpL zs ys

set_option maxHeartbeats 1000000 in
theorem orderOf_any (g g' : Bool) (a a' : Option Addr) (c c' : Nat) (zs ys : List Int) (w : World) (hn : zs.length ≤ 1048576) (hn' : ys.length ≤ 1048576) (hz : RowAt .u32 w a zs) (hy : RowAt .u32 w a' ys) :
    Calls Try.prog 44 #[.agg #[.bool g, .slice a zs.length c], .agg #[.bool g', .slice a' ys.length c']] w fun e w' => e = .returned (.int .i64 (ordB g g' zs ys)) ∧ Below w.heap.size w w' := by
  cases g
  · cases g'
    · have HO : Hid (ordB false false zs ys = cmpL zs ys) := by simp [Hid, ordB]
      go_enter Try.func44, Try.ntmps44
      go_wp2_with fail
      refine (order_any a a' c c' zs ys _ hn hn' (hz.later (bel2 _ _ _)) (hy.later (bel2 _ _ _))).mono ?_
      rintro e w1 ⟨rfl, hb⟩
      have HB : Hid (Below w.heap.size w w1) := (bel2 _ _ _).trans (hb.mono (by simp; omega))
      clear hb
      go_wp2
      go_ret
      exact ⟨ret_int HO.out.symm, HB.out⟩
    · go_enter Try.func44, Try.ntmps44
      go_wp2
      go_ret
      exact ⟨ret_int (by simp [ordB]), bel2 _ _ _⟩
  · cases g'
    · go_enter Try.func44, Try.ntmps44
      go_wp2
      go_ret
      exact ⟨ret_int (by simp [ordB]), bel2 _ _ _⟩
    · have HO : Hid (ordB true true zs ys = cmpL ys zs) := by simp [Hid, ordB]
      go_enter Try.func44, Try.ntmps44
      go_wp2_with fail
      refine (order_any a' a c' c ys zs _ hn' hn (hy.later (bel2 _ _ _)) (hz.later (bel2 _ _ _))).mono ?_
      rintro e w1 ⟨rfl, hb⟩
      have HB : Hid (Below w.heap.size w w1) := (bel2 _ _ _).trans (hb.mono (by simp; omega))
      clear hb
      go_wp2
      go_ret
      exact ⟨ret_int HO.out.symm, HB.out⟩

end Go.Proofs.Ytlbegmepmeimkaa
