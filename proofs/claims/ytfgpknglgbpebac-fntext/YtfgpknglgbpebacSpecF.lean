/-
  Signs turned.
-/
import Derived.Test.YtfgpknglgbpebacSpecE
import Derived.Deep.RegionHeld3
namespace Go.Proofs.Ytfgpknglgbpebac
open Go.RowKit

theorem sg_not (g : Bool) (n : Int) : sg (!g) n = - sg g n := by cases g <;> simp [sg]

end Go.Proofs.Ytfgpknglgbpebac
