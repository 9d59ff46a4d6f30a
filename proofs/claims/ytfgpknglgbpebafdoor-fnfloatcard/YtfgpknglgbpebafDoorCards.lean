/-
  DERIVED. GIVEN WITH THE SEED: THE CARDS: each row of YtfgpknglgbpebafDoorRows.lean that lists a variable, with what it lists TIED to the program's text (the seventh form; the later family's looks); each row that meets fmt, with fmt's text TOLD by the authors' own Lean function (tested against real Go, not proved from fmt's source: count such statements apart). THE CARD IS WHAT COUNTS. Prove the row's statement (the work); the ties are given (YtfgpknglgbpebafDoorTie.lean); close each card by the builder's one call (the guide's Derived/Test/ToyasCard.lean, 'card_holds'). Laid BY PROGRAM, IN A SANDBOX (cutbox-door.mjs). By AI agents, Wed Nov 11 2026. No macro, syntax, notation, axiom, sorry.
-/
import Derived.Test.YtfgpknglgbpebafDoorRows
import GoSem.ClaimSeven
namespace Go.Proofs.YtfgpknglgbpebafDoor
namespace Rows

/-- THE TIED CARD OF 'laws.FnFloat'. -/
def fnFloatCard : Claim7 := { stood := { row := fnFloatRow, standIns := [], harness := (true, "596c90f6afb35b090319fe69ab6ca51c53182725ca98bd1810a741b40fc70813"), looks := false }, kinds := [], alts := [], laidByText := true, laidKinds := [.data], laidTests := true, laidLooks := .later }
def FnFloatCardSaid : Prop := Claim7.holds Tryd.pinned (.plain (OpenSpec.ofChange fnFloatSpec)) fnFloatCard

/-- THE TIED CARD OF 'laws.FnExactDyDet'. -/
def fnExactDyDetCard : Claim7 := { stood := { row := fnExactDyDetRow, standIns := [], harness := (true, "596c90f6afb35b090319fe69ab6ca51c53182725ca98bd1810a741b40fc70813"), looks := false }, kinds := [], alts := [], laidByText := true, laidKinds := [.data], laidTests := true, laidLooks := .later }
def FnExactDyDetCardSaid : Prop := Claim7.holds Tryd.pinned (.plain (OpenSpec.ofChange fnExactDyDetSpec)) fnExactDyDetCard

/-- THE SECOND FORM's CARD OF 'laws.FnFloat'. -/
def fnFloatUptoCard : Claim7 := { stood := { row := fnFloatUptoRow, standIns := [], harness := (true, "596c90f6afb35b090319fe69ab6ca51c53182725ca98bd1810a741b40fc70813"), looks := false }, kinds := [], alts := [], laidByText := true, laidKinds := [.data], laidTests := true, laidLooks := .later }
def FnFloatUptoCardSaid : Prop := Claim7.holds Tryd.pinned (.plain (OpenSpec.upto fnFloatSpec)) fnFloatUptoCard

/-- THE SECOND FORM's CARD OF 'laws.FnExactDyDet'. -/
def fnExactDyDetUptoCard : Claim7 := { stood := { row := fnExactDyDetUptoRow, standIns := [], harness := (true, "596c90f6afb35b090319fe69ab6ca51c53182725ca98bd1810a741b40fc70813"), looks := false }, kinds := [], alts := [], laidByText := true, laidKinds := [.data], laidTests := true, laidLooks := .later }
def FnExactDyDetUptoCardSaid : Prop := Claim7.holds Tryd.pinned (.plain (OpenSpec.upto fnExactDyDetSpec)) fnExactDyDetUptoCard
end Rows
end Go.Proofs.YtfgpknglgbpebafDoor
