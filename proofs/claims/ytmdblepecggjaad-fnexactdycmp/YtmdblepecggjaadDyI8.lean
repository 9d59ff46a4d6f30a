/-
  The program's DyCmp, whatever it is asked.
-/
import Derived.Test.YtmdblepecggjaadDyI7
import Derived.Test.YtmdblepecggjaadDyI4
import Derived.Test.YtmdblepecggjaadDy3b
namespace Go.Proofs.Ytmdblepecggjaad
open Go.RowKit

theorem prodSays : ProdSays := fun b off c ds w hn hl hd => prod_any b off c ds w hn hl hd

theorem cmpDI_any (g g' : Bool) (a a' : Option Addr) (c c' : Nat) (zs ys : List Int) (E E' : Int) (w : World) (hn : zs.length ≤ 1048576) (hn' : ys.length ≤ 1048576) (hz : RowAt .u32 w a zs) (hy : RowAt .u32 w a' ys) (hu : U32 zs) (hu' : U32 ys) :
    Calls Try.prog 12 #[.agg #[.bool g, .slice a zs.length c, .int .i64 E], .agg #[.bool g', .slice a' ys.length c', .int .i64 E']] w fun e w' => e = .returned (.tuple #[.int .i64 (cmpD g g' zs ys E E'), .int .i64 (codeD g g' zs ys E E')]) ∧ Below w.heap.size w w' := by
  unfold cmpD codeD
  cases v1 : validD g zs E
  · rw [if_neg (by simp), if_neg (by simp)]
    exact cmpDI_bad g g' a a' c c' zs ys E E' w hn hn' hz hy (by simp [v1])
  · cases v2 : validD g' ys E'
    · rw [if_neg (by simp), if_neg (by simp)]
      exact cmpDI_bad g g' a a' c c' zs ys E E' w hn hn' hz hy (by simp [v2])
    · rw [if_pos ⟨rfl, rfl⟩, if_pos ⟨rfl, rfl⟩]
      exact cmpDI_ok prodSays g g' a a' c c' zs ys E E' w hz hy hu hu' v1 v2

end Go.Proofs.Ytmdblepecggjaad
