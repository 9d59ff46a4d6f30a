/-
  The program's DyCmp.
-/
import Derived.Test.YtmacbfiolkpofadDyI5
import Derived.Test.YtmacbfiolkpofadDy3
import Derived.Test.YtmacbfiolkpofadCmpI
import Derived.Deep.CutRange
import Derived.Deep.Light
namespace Go.Proofs.Ytmacbfiolkpofad
open Go.RowKit

/-- One Dyadic written out as a list. -/
theorem one_rowD {W : World} {b : Nat} {d : DV} (hb : b < W.heap.size) (h0 : W.cell? ⟨b, 0, none⟩ = some (.bool d.g)) (h1 : W.cell? ⟨b, 1, none⟩ = some (.slice d.a d.zs.length d.c)) (h2 : W.cell? ⟨b, 2, none⟩ = some (.int .i64 d.E)) (hr : RowAt .u32 W d.a d.zs) : RowD W b 0 [d] := by
  refine ⟨hb, ?_, ?_, ?_, ?_⟩
  all_goals
    intro i hi
    have : i = 0 := by simp at hi; omega
    subst this
    simpa

theorem two_rowD {W : World} {b : Nat} {d d' : DV} (hb : b < W.heap.size) (h0 : W.cell? ⟨b, 0, none⟩ = some (.bool d.g)) (h1 : W.cell? ⟨b, 1, none⟩ = some (.slice d.a d.zs.length d.c)) (h2 : W.cell? ⟨b, 2, none⟩ = some (.int .i64 d.E)) (h3 : W.cell? ⟨b, 3, none⟩ = some (.bool d'.g)) (h4 : W.cell? ⟨b, 4, none⟩ = some (.slice d'.a d'.zs.length d'.c)) (h5 : W.cell? ⟨b, 5, none⟩ = some (.int .i64 d'.E))
    (hr : RowAt .u32 W d.a d.zs) (hr' : RowAt .u32 W d'.a d'.zs) : RowD W b 0 [d, d'] := by
  refine ⟨hb, ?_, ?_, ?_, ?_⟩
  all_goals
    intro i hi
    have : i = 0 ∨ i = 1 := by simp at hi; omega
    rcases this with rfl | rfl
    · simpa
    · simpa

theorem two_rowT {W : World} {b b1 b2 c1 c2 : Nat} {d d' : DV} (hb : b < W.heap.size) (h0 : W.cell? ⟨b, 0, none⟩ = some (.slice (some ⟨b1, 0, none⟩) 1 c1)) (h1 : W.cell? ⟨b, 1, none⟩ = some (.slice (some ⟨b2, 0, none⟩) 1 c2)) (hr : RowD W b1 0 [d]) (hr' : RowD W b2 0 [d']) : RowT W b 0 [⟨b1, 0, c1, [d]⟩, ⟨b2, 0, c2, [d']⟩] := by
  refine ⟨hb, ?_, ?_⟩
  all_goals
    intro i hi
    have : i = 0 ∨ i = 1 := by simp at hi; omega
    rcases this with rfl | rfl
    · simpa
    · simpa

set_option maxRecDepth 100000 in
set_option maxHeartbeats 8000000 in
theorem cmpDI_bad (g g' : Bool) (a a' : Option Addr) (c c' : Nat) (zs ys : List Int) (E E' : Int) (w : World) (hn : zs.length ≤ 1048576) (hn' : ys.length ≤ 1048576) (hz : RowAt .u32 w a zs) (hy : RowAt .u32 w a' ys) (v : (validD g zs E && validD g' ys E') = false) :
    Calls Try.prog 13 #[.agg #[.bool g, .slice a zs.length c, .int .i64 E], .agg #[.bool g', .slice a' ys.length c', .int .i64 E']] w fun e w' => e = .returned (.tuple #[.int .i64 0, .int .i64 1]) ∧ Below w.heap.size w w' := by
  go_enter Try.func13, Try.ntmps13
  go_wp2_with fail
  refine (validsI_any _ 0 _ [⟨g, a, c, zs, E⟩, ⟨g', a', c', ys, E'⟩] _ (by simp) ?_ (two_rowD ?_ ?_ ?_ ?_ ?_ ?_ ?_ (hz.later (bel3 _ _ _ _)) (hy.later (bel3 _ _ _ _)))).mono ?_
  · intro d hd
    simp at hd
    rcases hd with rfl | rfl
    · exact hn
    · exact hn'
  · simp
  · simp [go_sem]
  · simp [go_sem]
  · simp [go_sem]
  · simp [go_sem]
  · simp [go_sem]
  · simp [go_sem]
  · rintro e w1 ⟨rfl, hb1⟩
    have HV : Hid ([(⟨g, a, c, zs, E⟩ : DV), ⟨g', a', c', ys, E'⟩].all DV.ok = false) := by unfold Hid; simpa [DV.ok] using v
    rw [HV.out]
    have HB : Hid (Below w.heap.size w w1) := (bel3 _ _ _ _).trans (hb1.mono (by simp; omega))
    clear hb1
    go_wp2
    refine bodyPost_ret (v := .tuple #[.int .i64 0, .int .i64 1]) (by simp [results, Try.results13, go_sem]) rfl ?_
    exact ⟨rfl, HB.out⟩

end Go.Proofs.Ytmacbfiolkpofad
