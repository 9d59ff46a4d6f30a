/-
  DERIVED. GIVEN WITH THE SEED: THE CARDS: each row of YtfgpknglgbpebaeDoorRows.lean that lists a variable, with what it lists TIED to the program's text (the seventh form; the later family's looks); each row that meets fmt, with fmt's text TOLD by the authors' own Lean function (tested against real Go, not proved from fmt's source: count such statements apart). THE CARD IS WHAT COUNTS. Prove the row's statement (the work); the ties are given (YtfgpknglgbpebaeDoorTie.lean); close each card by the builder's one call (the guide's Derived/Test/ToyasCard.lean, 'card_holds'). Laid BY PROGRAM, IN A SANDBOX (cutbox-door.mjs). By AI agents, Wed Nov 11 2026. No macro, syntax, notation, axiom, sorry.
-/
import Derived.Test.YtfgpknglgbpebaeDoorRows
import GoSem.ClaimSeven
namespace Go.Proofs.YtfgpknglgbpebaeDoor
namespace Rows

/-- THE TIED CARD OF 'laws.FnDet'. -/
def fnDetCard : Claim7 := { stood := { row := fnDetRow, standIns := [], harness := (true, "15c5e8110c70e39f3d56b319e9452257b013dddc519517008d7cca8d70fdd581"), looks := false }, kinds := [], alts := [], laidByText := true, laidKinds := [.data], laidTests := true, laidLooks := .later }
def FnDetCardSaid : Prop := Claim7.holds Tryd.pinned (.plain (OpenSpec.ofChange fnDetSpec)) fnDetCard

/-- THE SECOND FORM's CARD OF 'laws.FnDet'. -/
def fnDetUptoCard : Claim7 := { stood := { row := fnDetUptoRow, standIns := [], harness := (true, "15c5e8110c70e39f3d56b319e9452257b013dddc519517008d7cca8d70fdd581"), looks := false }, kinds := [], alts := [], laidByText := true, laidKinds := [.data], laidTests := true, laidLooks := .later }
def FnDetUptoCardSaid : Prop := Claim7.holds Tryd.pinned (.plain (OpenSpec.upto fnDetSpec)) fnDetUptoCard
end Rows
end Go.Proofs.YtfgpknglgbpebaeDoor
