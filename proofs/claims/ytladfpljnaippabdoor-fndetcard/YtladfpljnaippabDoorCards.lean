/-
  DERIVED. GIVEN WITH THE SEED: THE CARDS: each row of YtladfpljnaippabDoorRows.lean that lists a variable, with what it lists TIED to the program's text (the seventh form; the later family's looks); each row that meets fmt, with fmt's text TOLD by the authors' own Lean function (tested against real Go, not proved from fmt's source: count such statements apart). THE CARD IS WHAT COUNTS. Prove the row's statement (the work); the ties are given (YtladfpljnaippabDoorTie.lean); close each card by the builder's one call (the guide's Derived/Test/ToyasCard.lean, 'card_holds'). Laid BY PROGRAM, IN A SANDBOX (cutbox-door.mjs). By AI agents, Wed Nov 11 2026. No macro, syntax, notation, axiom, sorry.
-/
import Derived.Test.YtladfpljnaippabDoorRows
import GoSem.ClaimSeven
namespace Go.Proofs.YtladfpljnaippabDoor
namespace Rows

/-- THE TIED CARD OF 'laws.FnDet'. -/
def fnDetCard : Claim7 := { stood := { row := fnDetRow, standIns := [], harness := (true, "5c308c5926eade1460b6400ab058773a07cefdb5e460d1f2c8eea29b3386f5dc"), looks := false }, kinds := [], alts := [], laidByText := true, laidKinds := [.data], laidTests := true, laidLooks := .later }
def FnDetCardSaid : Prop := Claim7.holds Tryd.pinned (.plain (OpenSpec.ofChange fnDetSpec)) fnDetCard

/-- THE TIED CARD OF 'laws.FnFloat'. -/
def fnFloatCard : Claim7 := { stood := { row := fnFloatRow, standIns := [], harness := (true, "5c308c5926eade1460b6400ab058773a07cefdb5e460d1f2c8eea29b3386f5dc"), looks := false }, kinds := [], alts := [], laidByText := true, laidKinds := [.data], laidTests := true, laidLooks := .later }
def FnFloatCardSaid : Prop := Claim7.holds Tryd.pinned (.plain (OpenSpec.ofChange fnFloatSpec)) fnFloatCard

/-- THE TIED CARD OF 'laws.FnExactDyDet'. -/
def fnExactDyDetCard : Claim7 := { stood := { row := fnExactDyDetRow, standIns := [], harness := (true, "5c308c5926eade1460b6400ab058773a07cefdb5e460d1f2c8eea29b3386f5dc"), looks := false }, kinds := [], alts := [], laidByText := true, laidKinds := [.data], laidTests := true, laidLooks := .later }
def FnExactDyDetCardSaid : Prop := Claim7.holds Tryd.pinned (.plain (OpenSpec.ofChange fnExactDyDetSpec)) fnExactDyDetCard

/-- THE SECOND FORM's CARD OF 'laws.FnDet'. -/
def fnDetUptoCard : Claim7 := { stood := { row := fnDetUptoRow, standIns := [], harness := (true, "5c308c5926eade1460b6400ab058773a07cefdb5e460d1f2c8eea29b3386f5dc"), looks := false }, kinds := [], alts := [], laidByText := true, laidKinds := [.data], laidTests := true, laidLooks := .later }
def FnDetUptoCardSaid : Prop := Claim7.holds Tryd.pinned (.plain (OpenSpec.upto fnDetSpec)) fnDetUptoCard

/-- THE SECOND FORM's CARD OF 'laws.FnFloat'. -/
def fnFloatUptoCard : Claim7 := { stood := { row := fnFloatUptoRow, standIns := [], harness := (true, "5c308c5926eade1460b6400ab058773a07cefdb5e460d1f2c8eea29b3386f5dc"), looks := false }, kinds := [], alts := [], laidByText := true, laidKinds := [.data], laidTests := true, laidLooks := .later }
def FnFloatUptoCardSaid : Prop := Claim7.holds Tryd.pinned (.plain (OpenSpec.upto fnFloatSpec)) fnFloatUptoCard

/-- THE SECOND FORM's CARD OF 'laws.FnExactDyDet'. -/
def fnExactDyDetUptoCard : Claim7 := { stood := { row := fnExactDyDetUptoRow, standIns := [], harness := (true, "5c308c5926eade1460b6400ab058773a07cefdb5e460d1f2c8eea29b3386f5dc"), looks := false }, kinds := [], alts := [], laidByText := true, laidKinds := [.data], laidTests := true, laidLooks := .later }
def FnExactDyDetUptoCardSaid : Prop := Claim7.holds Tryd.pinned (.plain (OpenSpec.upto fnExactDyDetSpec)) fnExactDyDetUptoCard
end Rows
end Go.Proofs.YtladfpljnaippabDoor
