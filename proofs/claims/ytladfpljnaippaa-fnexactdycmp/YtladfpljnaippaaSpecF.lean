/-
  Signs turned.
-/
import Derived.Test.YtladfpljnaippaaSpecE
import Derived.Deep.RegionHeld3
namespace Go.Proofs.Ytladfpljnaippaa
open Go.RowKit

theorem sg_not (g : Bool) (n : Int) : sg (!g) n = - sg g n := by cases g <;> simp [sg]

end Go.Proofs.Ytladfpljnaippaa
