/-
  The program's order of Bigs.
-/
import Derived.Test.YtladfpljnaippaaImplA
import Derived.Test.YtladfpljnaippaaBox
import Derived.Test.YtladfpljnaippaaDyI6aDy6
import Derived.Test.YtladfpljnaippaaDy3
import Derived.Deep.CutRange
import Derived.Deep.Light
namespace Go.Proofs.Ytladfpljnaippaa
open Go.RowKit

/-- The order of two Bigs. -/
def ordB (g g' : Bool) (zs ys : List Int) : Int := if g = true ∧ g' = false then -1 else if g = false ∧ g' = true then 1 else if g = true then cmpL ys zs else cmpL zs ys

set_option maxHeartbeats 1000000 in
theorem orderOf_any (g g' : Bool) (a a' : Option Addr) (c c' : Nat) (zs ys : List Int) (w : World) (hn : zs.length ≤ 1048576) (hn' : ys.length ≤ 1048576) (hz : RowAt .u32 w a zs) (hy : RowAt .u32 w a' ys) :
    Calls Try.prog 68 #[.agg #[.bool g, .slice a zs.length c], .agg #[.bool g', .slice a' ys.length c']] w fun e w' => e = .returned (.int .i64 (ordB g g' zs ys)) ∧ Below w.heap.size w w' := by
  cases g
  · cases g'
    · have HO : Hid (ordB false false zs ys = cmpL zs ys) := by simp [Hid, ordB]
      go_enter Try.func68, Try.ntmps68
      go_wp2_with fail
      refine (order_any a a' c c' zs ys _ hn hn' (hz.later (bel2 _ _ _)) (hy.later (bel2 _ _ _))).mono ?_
      rintro e w1 ⟨rfl, hb⟩
      have HB : Hid (Below w.heap.size w w1) := (bel2 _ _ _).trans (hb.mono (by simp; omega))
      clear hb
      go_wp2
      go_ret
      exact ⟨ret_int HO.out.symm, HB.out⟩
    · go_enter Try.func68, Try.ntmps68
      go_wp2
      go_ret
      exact ⟨ret_int (by simp [ordB]), bel2 _ _ _⟩
  · cases g'
    · go_enter Try.func68, Try.ntmps68
      go_wp2
      go_ret
      exact ⟨ret_int (by simp [ordB]), bel2 _ _ _⟩
    · have HO : Hid (ordB true true zs ys = cmpL ys zs) := by simp [Hid, ordB]
      go_enter Try.func68, Try.ntmps68
      go_wp2_with fail
      refine (order_any a' a c' c ys zs _ hn' hn (hy.later (bel2 _ _ _)) (hz.later (bel2 _ _ _))).mono ?_
      rintro e w1 ⟨rfl, hb⟩
      have HB : Hid (Below w.heap.size w w1) := (bel2 _ _ _).trans (hb.mono (by simp; omega))
      clear hb
      go_wp2
      go_ret
      exact ⟨ret_int HO.out.symm, HB.out⟩

end Go.Proofs.Ytladfpljnaippaa

/-
  The program's BigCmp.
-/
namespace Go.Proofs.Ytladfpljnaippaa
open Go.RowKit

/-- BigCmp's two answers. -/
def cmpR (g g' : Bool) (zs ys : List Int) : Int := if validB g zs = true ∧ validB g' ys = true then sgn (sg g (val 4294967296 zs) - sg g' (val 4294967296 ys)) else 0
def cmpK (g g' : Bool) (zs ys : List Int) : Int := if validB g zs = true ∧ validB g' ys = true then 0 else 1

theorem sgn_of_pos {x : Int} (h : 0 < x) : sgn x = 1 := by unfold sgn; rw [if_neg (by omega), if_neg (by omega)]
theorem sgn_of_neg {x : Int} (h : x < 0) : sgn x = -1 := by unfold sgn; rw [if_pos h]
theorem sgn_neg (x : Int) : sgn (-x) = - sgn x := by
  rcases sgn_cases x with ⟨h1, h2⟩ | ⟨h1, h2⟩ | ⟨h1, h2⟩
  · rw [h2, sgn_of_pos (by omega)]; rfl
  · rw [h2, h1]; rfl
  · rw [h2, sgn_of_neg (by omega)]

theorem ord_val {g g' : Bool} {zs ys : List Int} (hu : U32 zs) (hu' : U32 ys) (v1 : validB g zs = true) (v2 : validB g' ys = true) : ordB g g' zs ys = sgn (sg g (val 4294967296 zs) - sg g' (val 4294967296 ys)) := by
  obtain ⟨c1, _, n1⟩ := valid_canon hu v1
  obtain ⟨c2, _, n2⟩ := valid_canon hu' v2
  have p1 := val_nonneg (B := 4294967296) (by decide) c1.1
  have p2 := val_nonneg (B := 4294967296) (by decide) c2.1
  cases g <;> cases g'
  · simp only [ordB, sg]
    rw [if_neg (by simp), if_neg (by simp), if_neg (by simp), cmpL_val (by decide) c1 c2]
    rfl
  · have := val_pos (B := 4294967296) (by decide) c2 (n2 rfl)
    simp only [ordB, sg]
    rw [if_neg (by simp), if_pos (by simp)]
    simp only [Bool.false_eq_true, if_false, if_true]
    rw [sgn_of_pos (by omega)]
  · have := val_pos (B := 4294967296) (by decide) c1 (n1 rfl)
    simp only [ordB, sg]
    rw [if_pos (by simp)]
    simp only [Bool.false_eq_true, if_false, if_true]
    rw [sgn_of_neg (by omega)]
  · simp only [ordB, sg]
    rw [if_neg (by simp), if_neg (by simp)]
    simp only [if_true]
    rw [cmpL_val (by decide) c2 c1]
    congr 1
    omega

end Go.Proofs.Ytladfpljnaippaa

/-
  The program's DyCmp.
-/
namespace Go.Proofs.Ytladfpljnaippaa
open Go.RowKit

set_option maxRecDepth 100000 in
set_option maxHeartbeats 8000000 in
theorem cmpDI_bad (g g' : Bool) (a a' : Option Addr) (c c' : Nat) (zs ys : List Int) (E E' : Int) (w : World) (hn : zs.length ≤ 1048576) (hn' : ys.length ≤ 1048576) (hz : RowAt .u32 w a zs) (hy : RowAt .u32 w a' ys) (v : (validD g zs E && validD g' ys E') = false) :
    Calls Try.prog 14 #[.agg #[.bool g, .slice a zs.length c, .int .i64 E], .agg #[.bool g', .slice a' ys.length c', .int .i64 E']] w fun e w' => e = .returned (.tuple #[.int .i64 0, .int .i64 1]) ∧ Below w.heap.size w w' := by
  go_enter Try.func14, Try.ntmps14
  go_wp2_with fail
  refine (validsI_any _ 0 _ [⟨g, a, c, zs, E⟩, ⟨g', a', c', ys, E'⟩] _ (by simp) ?_ (two_rowD ?_ ?_ ?_ ?_ ?_ ?_ ?_ (hz.later (bel3 _ _ _ _)) (hy.later (bel3 _ _ _ _)))).mono ?_
  · intro d hd
    simp at hd
    rcases hd with rfl | rfl
    · exact hn
    · exact hn'
  · simp
  · simp [go_sem]
  · simp [go_sem]
  · simp [go_sem]
  · simp [go_sem]
  · simp [go_sem]
  · simp [go_sem]
  · rintro e w1 ⟨rfl, hb1⟩
    have HV : Hid ([(⟨g, a, c, zs, E⟩ : DV), ⟨g', a', c', ys, E'⟩].all DV.ok = false) := by unfold Hid; simpa [DV.ok] using v
    rw [HV.out]
    have HB : Hid (Below w.heap.size w w1) := (bel3 _ _ _ _).trans (hb1.mono (by simp; omega))
    clear hb1
    go_wp2
    refine bodyPost_ret (v := .tuple #[.int .i64 0, .int .i64 1]) (by simp [results, Try.results14, go_sem]) rfl ?_
    exact ⟨rfl, HB.out⟩

end Go.Proofs.Ytladfpljnaippaa
