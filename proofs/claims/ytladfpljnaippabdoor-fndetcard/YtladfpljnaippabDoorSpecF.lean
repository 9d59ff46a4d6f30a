/-
  Signs turned.
-/
import Derived.Test.YtladfpljnaippabDoorSpecE
import Derived.Deep.RegionHeld3
namespace Go.Proofs.YtladfpljnaippabDoor
open Go.RowKit

theorem sg_not (g : Bool) (n : Int) : sg (!g) n = - sg g n := by cases g <;> simp [sg]

end Go.Proofs.YtladfpljnaippabDoor
