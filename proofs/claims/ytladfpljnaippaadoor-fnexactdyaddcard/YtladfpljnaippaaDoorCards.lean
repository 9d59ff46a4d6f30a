/-
  DERIVED. GIVEN WITH THE SEED: THE CARDS: each row of YtladfpljnaippaaDoorRows.lean that lists a variable, with what it lists TIED to the program's text (the seventh form; the later family's looks); each row that meets fmt, with fmt's text TOLD by the authors' own Lean function (tested against real Go, not proved from fmt's source: count such statements apart). THE CARD IS WHAT COUNTS. Prove the row's statement (the work); the ties are given (YtladfpljnaippaaDoorTie.lean); close each card by the builder's one call (the guide's Derived/Test/ToyasCard.lean, 'card_holds'). Laid BY PROGRAM, IN A SANDBOX (cutbox-door.mjs). By AI agents, Wed Nov 11 2026. No macro, syntax, notation, axiom, sorry.
-/
import Derived.Test.YtladfpljnaippaaDoorRows
import GoSem.ClaimSeven
namespace Go.Proofs.YtladfpljnaippaaDoor
namespace Rows

/-- THE TIED CARD OF 'laws.FnExactDyOf'. -/
def fnExactDyOfCard : Claim7 := { stood := { row := fnExactDyOfRow, standIns := [], harness := (true, "b92aed4ee804d8a2a4dea22d8ce2c7a93461b7c4ce9d64bd73722c29c3c7d203"), looks := false }, kinds := [], alts := [], laidByText := true, laidKinds := [.data], laidTests := true, laidLooks := .later }
def FnExactDyOfCardSaid : Prop := Claim7.holds Tryd.pinned (.plain (OpenSpec.ofChange fnExactDyOfSpec)) fnExactDyOfCard

/-- THE TIED CARD OF 'laws.FnExactDyMul'. -/
def fnExactDyMulCard : Claim7 := { stood := { row := fnExactDyMulRow, standIns := [], harness := (true, "b92aed4ee804d8a2a4dea22d8ce2c7a93461b7c4ce9d64bd73722c29c3c7d203"), looks := false }, kinds := [], alts := [], laidByText := true, laidKinds := [.data], laidTests := true, laidLooks := .later }
def FnExactDyMulCardSaid : Prop := Claim7.holds Tryd.pinned (.plain (OpenSpec.ofChange fnExactDyMulSpec)) fnExactDyMulCard

/-- THE TIED CARD OF 'laws.FnExactDyAdd'. -/
def fnExactDyAddCard : Claim7 := { stood := { row := fnExactDyAddRow, standIns := [], harness := (true, "b92aed4ee804d8a2a4dea22d8ce2c7a93461b7c4ce9d64bd73722c29c3c7d203"), looks := false }, kinds := [], alts := [], laidByText := true, laidKinds := [.data], laidTests := true, laidLooks := .later }
def FnExactDyAddCardSaid : Prop := Claim7.holds Tryd.pinned (.plain (OpenSpec.ofChange fnExactDyAddSpec)) fnExactDyAddCard

/-- THE SECOND FORM's CARD OF 'laws.FnExactDyOf'. -/
def fnExactDyOfUptoCard : Claim7 := { stood := { row := fnExactDyOfUptoRow, standIns := [], harness := (true, "b92aed4ee804d8a2a4dea22d8ce2c7a93461b7c4ce9d64bd73722c29c3c7d203"), looks := false }, kinds := [], alts := [], laidByText := true, laidKinds := [.data], laidTests := true, laidLooks := .later }
def FnExactDyOfUptoCardSaid : Prop := Claim7.holds Tryd.pinned (.plain (OpenSpec.upto fnExactDyOfSpec)) fnExactDyOfUptoCard

/-- THE SECOND FORM's CARD OF 'laws.FnExactDyMul'. -/
def fnExactDyMulUptoCard : Claim7 := { stood := { row := fnExactDyMulUptoRow, standIns := [], harness := (true, "b92aed4ee804d8a2a4dea22d8ce2c7a93461b7c4ce9d64bd73722c29c3c7d203"), looks := false }, kinds := [], alts := [], laidByText := true, laidKinds := [.data], laidTests := true, laidLooks := .later }
def FnExactDyMulUptoCardSaid : Prop := Claim7.holds Tryd.pinned (.plain (OpenSpec.upto fnExactDyMulSpec)) fnExactDyMulUptoCard

/-- THE SECOND FORM's CARD OF 'laws.FnExactDyAdd'. -/
def fnExactDyAddUptoCard : Claim7 := { stood := { row := fnExactDyAddUptoRow, standIns := [], harness := (true, "b92aed4ee804d8a2a4dea22d8ce2c7a93461b7c4ce9d64bd73722c29c3c7d203"), looks := false }, kinds := [], alts := [], laidByText := true, laidKinds := [.data], laidTests := true, laidLooks := .later }
def FnExactDyAddUptoCardSaid : Prop := Claim7.holds Tryd.pinned (.plain (OpenSpec.upto fnExactDyAddSpec)) fnExactDyAddUptoCard
end Rows
end Go.Proofs.YtladfpljnaippaaDoor
