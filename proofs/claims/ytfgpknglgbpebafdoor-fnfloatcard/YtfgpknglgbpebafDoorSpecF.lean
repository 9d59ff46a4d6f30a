/-
  Signs turned.
-/
import Derived.Test.YtfgpknglgbpebafDoorSpecE
import Derived.Deep.RegionHeld3
namespace Go.Proofs.YtfgpknglgbpebafDoor
open Go.RowKit

theorem sg_not (g : Bool) (n : Int) : sg (!g) n = - sg g n := by cases g <;> simp [sg]

end Go.Proofs.YtfgpknglgbpebafDoor
