/-
  DERIVED. GIVEN WITH THE SEED: THE CARDS: each row of YtmacbfiolkpofabDoorRows.lean that lists a variable, with what it lists TIED to the program's text (the seventh form; the later family's looks); each row that meets fmt, with fmt's text TOLD by the authors' own Lean function (tested against real Go, not proved from fmt's source: count such statements apart). THE CARD IS WHAT COUNTS. Prove the row's statement (the work); the ties are given (YtmacbfiolkpofabDoorTie.lean); close each card by the builder's one call (the guide's Derived/Test/ToyasCard.lean, 'card_holds'). Laid BY PROGRAM, IN A SANDBOX (cutbox-door.mjs). By AI agents, Wed Nov 11 2026. No macro, syntax, notation, axiom, sorry.
-/
import Derived.Test.YtmacbfiolkpofabDoorRows
import GoSem.ClaimSeven
namespace Go.Proofs.YtmacbfiolkpofabDoor
namespace Rows

/-- THE TIED CARD OF 'laws.FnExactDyOf'. -/
def fnExactDyOfCard : Claim7 := { stood := { row := fnExactDyOfRow, standIns := [], harness := (true, "a5e46ec8e5af6034a8bc083d5005dfb83681b09f1d10822dbcdcd91be6b15a25"), looks := false }, kinds := [], alts := [], laidByText := true, laidKinds := [.data], laidTests := true, laidLooks := .later }
def FnExactDyOfCardSaid : Prop := Claim7.holds Tryd.pinned (.plain (OpenSpec.ofChange fnExactDyOfSpec)) fnExactDyOfCard

/-- THE SECOND FORM's CARD OF 'laws.FnExactDyOf'. -/
def fnExactDyOfUptoCard : Claim7 := { stood := { row := fnExactDyOfUptoRow, standIns := [], harness := (true, "a5e46ec8e5af6034a8bc083d5005dfb83681b09f1d10822dbcdcd91be6b15a25"), looks := false }, kinds := [], alts := [], laidByText := true, laidKinds := [.data], laidTests := true, laidLooks := .later }
def FnExactDyOfUptoCardSaid : Prop := Claim7.holds Tryd.pinned (.plain (OpenSpec.upto fnExactDyOfSpec)) fnExactDyOfUptoCard
end Rows
end Go.Proofs.YtmacbfiolkpofabDoor
