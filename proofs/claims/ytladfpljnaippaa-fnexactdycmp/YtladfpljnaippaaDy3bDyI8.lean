/-
  The model's DyCmp, whatever it is asked.
-/
import Derived.Test.YtladfpljnaippaaDy3
import Derived.Test.YtladfpljnaippaaDyI7
import Derived.Test.YtladfpljnaippaaImplOneDyI4
namespace Go.Proofs.Ytladfpljnaippaa
open Go.RowKit

set_option maxHeartbeats 1000000 in
theorem cmpDS_bad1 (g g' : Bool) (a a' : Option Addr) (c c' : Nat) (zs ys : List Int) (E E' : Int) (w : World) (hn : zs.length ≤ 1048576) (hz : RowAt .u32 w a zs) (v1 : validD g zs E = false) :
    Calls Try.prog 13 #[.agg #[.bool g, .slice a zs.length c, .int .i64 E], .agg #[.bool g', .slice a' ys.length c', .int .i64 E']] w fun e w' => e = .returned (.tuple #[.int .i64 0, .int .i64 1]) ∧ Below w.heap.size w w' := by
  go_enter Try.func13, Try.ntmps13
  go_wp2_with fail
  refine (valid2S_any g a c zs E _ hn (hz.later (bel2 _ _ _))).mono ?_
  rintro e w1 ⟨rfl, hb1⟩
  rw [v1]
  have HB : Hid (Below w.heap.size w w1) := (bel2 _ _ _).trans (hb1.mono (by simp; omega))
  clear hb1
  go_wp2
  refine bodyPost_ret (v := .tuple #[.int .i64 0, .int .i64 1]) (by simp [results, Try.results13, go_sem]) rfl ?_
  exact ⟨rfl, HB.out⟩

set_option maxHeartbeats 1000000 in
theorem cmpDS_bad2 (g g' : Bool) (a a' : Option Addr) (c c' : Nat) (zs ys : List Int) (E E' : Int) (w : World) (hn : zs.length ≤ 1048576) (hn' : ys.length ≤ 1048576) (hz : RowAt .u32 w a zs) (hy : RowAt .u32 w a' ys) (v1 : validD g zs E = true) (v2 : validD g' ys E' = false) :
    Calls Try.prog 13 #[.agg #[.bool g, .slice a zs.length c, .int .i64 E], .agg #[.bool g', .slice a' ys.length c', .int .i64 E']] w fun e w' => e = .returned (.tuple #[.int .i64 0, .int .i64 1]) ∧ Below w.heap.size w w' := by
  have B0 : Hid (∀ t t', Bx6 w (.bool g) (.slice a zs.length c) (.int .i64 E) (.bool g') (.slice a' ys.length c') (.int .i64 E') ((w.alloc (.cells #[.bool g, .slice a zs.length c, .int .i64 E] t)).alloc (.cells #[.bool g', .slice a' ys.length c', .int .i64 E'] t'))) := fun t t' => Bx6.start w _ _ _ _ _ _ _ _
  go_enter Try.func13, Try.ntmps13
  go_wp2_with fail
  refine (valid2S_any g a c zs E _ hn (hz.later (B0.out _ _).bel)).mono ?_
  rintro e w1 ⟨rfl, hb1⟩
  rw [v1]
  have F1 : Hid (Bx6 w (.bool g) (.slice a zs.length c) (.int .i64 E) (.bool g') (.slice a' ys.length c') (.int .i64 E') w1) := (B0.out _ _).later hb1
  have s0 := F1.out.p0
  have s1 := F1.out.p1
  have s2 := F1.out.p2
  clear hb1 B0
  go_wp2_with fail
  refine (valid2S_any g' a' c' ys E' _ hn' (hy.later F1.out.bel)).mono ?_
  rintro e W0 ⟨rfl, hb2⟩
  rw [v2]
  have HB : Hid (Below w.heap.size w W0) := (F1.out.later hb2).bel
  clear hb2 F1 s0 s1 s2
  go_wp2
  refine bodyPost_ret (v := .tuple #[.int .i64 0, .int .i64 1]) (by simp [results, Try.results13, go_sem]) rfl ?_
  exact ⟨rfl, HB.out⟩

theorem cmpDS_any (g g' : Bool) (a a' : Option Addr) (c c' : Nat) (zs ys : List Int) (E E' : Int) (w : World) (hn : zs.length ≤ 1048576) (hn' : ys.length ≤ 1048576) (hz : RowAt .u32 w a zs) (hy : RowAt .u32 w a' ys) (hu : U32 zs) (hu' : U32 ys) :
    Calls Try.prog 13 #[.agg #[.bool g, .slice a zs.length c, .int .i64 E], .agg #[.bool g', .slice a' ys.length c', .int .i64 E']] w fun e w' => e = .returned (.tuple #[.int .i64 (cmpD g g' zs ys E E'), .int .i64 (codeD g g' zs ys E E')]) ∧ Below w.heap.size w w' := by
  unfold cmpD codeD
  cases v1 : validD g zs E
  · rw [if_neg (by simp), if_neg (by simp)]
    exact cmpDS_bad1 g g' a a' c c' zs ys E E' w hn hz v1
  · cases v2 : validD g' ys E'
    · rw [if_neg (by simp), if_neg (by simp)]
      exact cmpDS_bad2 g g' a a' c c' zs ys E E' w hn hn' hz hy v1 v2
    · rw [if_pos ⟨rfl, rfl⟩, if_pos ⟨rfl, rfl⟩]
      exact cmpDS_ok g g' a a' c c' zs ys E E' w hz hy hu hu' v1 v2

end Go.Proofs.Ytladfpljnaippaa

/-
  The program's DyCmp, whatever it is asked.
-/
namespace Go.Proofs.Ytladfpljnaippaa
open Go.RowKit

theorem prodSays : ProdSays := fun b off c ds w hn hl hd => prod_any b off c ds w hn hl hd

theorem cmpDI_any (g g' : Bool) (a a' : Option Addr) (c c' : Nat) (zs ys : List Int) (E E' : Int) (w : World) (hn : zs.length ≤ 1048576) (hn' : ys.length ≤ 1048576) (hz : RowAt .u32 w a zs) (hy : RowAt .u32 w a' ys) (hu : U32 zs) (hu' : U32 ys) :
    Calls Try.prog 14 #[.agg #[.bool g, .slice a zs.length c, .int .i64 E], .agg #[.bool g', .slice a' ys.length c', .int .i64 E']] w fun e w' => e = .returned (.tuple #[.int .i64 (cmpD g g' zs ys E E'), .int .i64 (codeD g g' zs ys E E')]) ∧ Below w.heap.size w w' := by
  unfold cmpD codeD
  cases v1 : validD g zs E
  · rw [if_neg (by simp), if_neg (by simp)]
    exact cmpDI_bad g g' a a' c c' zs ys E E' w hn hn' hz hy (by simp [v1])
  · cases v2 : validD g' ys E'
    · rw [if_neg (by simp), if_neg (by simp)]
      exact cmpDI_bad g g' a a' c c' zs ys E E' w hn hn' hz hy (by simp [v2])
    · rw [if_pos ⟨rfl, rfl⟩, if_pos ⟨rfl, rfl⟩]
      exact cmpDI_ok prodSays g g' a a' c c' zs ys E E' w hz hy hu hu' v1 v2

end Go.Proofs.Ytladfpljnaippaa
