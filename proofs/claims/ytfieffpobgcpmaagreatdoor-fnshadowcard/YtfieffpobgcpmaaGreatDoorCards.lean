/-
  DERIVED. GIVEN WITH THE SEED: THE CARDS: each row of YtfieffpobgcpmaaGreatDoorRows.lean that lists a variable, with what it lists TIED to the program's text (the seventh form; the later family's looks); each row that meets fmt, with fmt's text TOLD by the authors' own Lean function (tested against real Go, not proved from fmt's source: count such statements apart). THE CARD IS WHAT COUNTS. Prove the row's statement (the work); the ties are given (YtfieffpobgcpmaaGreatDoorTie.lean); close each card by the builder's one call (the guide's Derived/Test/ToyasCard.lean, 'card_holds'). Laid BY PROGRAM, IN A SANDBOX (cutbox-door.mjs). By AI agents, Wed Nov 11 2026. No macro, syntax, notation, axiom, sorry.
-/
import Derived.Test.YtfieffpobgcpmaaGreatDoorRows
import GoSem.ClaimSeven
namespace Go.Proofs.YtfieffpobgcpmaaGreatDoor
namespace Rows

/-- THE TIED CARD OF 'laws.FnExactHitDistance'. -/
def fnExactHitDistanceCard : Claim7 := { stood := { row := fnExactHitDistanceRow, standIns := [], harness := (true, "9f45b6ebd51a71c5c9f5ffd828ac4f08bf1bbf6a76b7f96b911f008b9737afa6"), looks := true }, kinds := [], alts := [], laidByText := true, laidKinds := [.data], laidTests := true, laidLooks := .later }
def FnExactHitDistanceCardSaid : Prop := Claim7.holds Tryz.pinned (.plain (OpenSpec.ofChange fnExactHitDistanceSpec)) fnExactHitDistanceCard

/-- THE TIED CARD OF 'laws.FnHit'. -/
def fnHitCard : Claim7 := { stood := { row := fnHitRow, standIns := [], harness := (true, "9f45b6ebd51a71c5c9f5ffd828ac4f08bf1bbf6a76b7f96b911f008b9737afa6"), looks := true }, kinds := [], alts := [], laidByText := true, laidKinds := [.data], laidTests := true, laidLooks := .later }
def FnHitCardSaid : Prop := Claim7.holds Tryz.pinned (.plain (OpenSpec.ofChange fnHitSpec)) fnHitCard

/-- THE TIED CARD OF 'laws.FnShadow'. -/
def fnShadowCard : Claim7 := { stood := { row := fnShadowRow, standIns := [], harness := (true, "9f45b6ebd51a71c5c9f5ffd828ac4f08bf1bbf6a76b7f96b911f008b9737afa6"), looks := true }, kinds := [], alts := [], laidByText := true, laidKinds := [.data], laidTests := true, laidLooks := .later }
def FnShadowCardSaid : Prop := Claim7.holds Tryz.pinned (.plain (OpenSpec.ofChange fnShadowSpec)) fnShadowCard

/-- THE TIED CARD OF 'laws.FnPoint'. -/
def fnPointCard : Claim7 := { stood := { row := fnPointRow, standIns := [], harness := (true, "9f45b6ebd51a71c5c9f5ffd828ac4f08bf1bbf6a76b7f96b911f008b9737afa6"), looks := true }, kinds := [], alts := [], laidByText := true, laidKinds := [.data], laidTests := true, laidLooks := .later }
def FnPointCardSaid : Prop := Claim7.holds Tryz.pinned (.plain (OpenSpec.ofChange fnPointSpec)) fnPointCard

/-- THE SECOND FORM's CARD OF 'laws.FnExactHitDistance'. -/
def fnExactHitDistanceUptoCard : Claim7 := { stood := { row := fnExactHitDistanceUptoRow, standIns := [], harness := (true, "9f45b6ebd51a71c5c9f5ffd828ac4f08bf1bbf6a76b7f96b911f008b9737afa6"), looks := true }, kinds := [], alts := [], laidByText := true, laidKinds := [.data], laidTests := true, laidLooks := .later }
def FnExactHitDistanceUptoCardSaid : Prop := Claim7.holds Tryz.pinned (.plain (OpenSpec.upto fnExactHitDistanceSpec)) fnExactHitDistanceUptoCard

/-- THE SECOND FORM's CARD OF 'laws.FnHit'. -/
def fnHitUptoCard : Claim7 := { stood := { row := fnHitUptoRow, standIns := [], harness := (true, "9f45b6ebd51a71c5c9f5ffd828ac4f08bf1bbf6a76b7f96b911f008b9737afa6"), looks := true }, kinds := [], alts := [], laidByText := true, laidKinds := [.data], laidTests := true, laidLooks := .later }
def FnHitUptoCardSaid : Prop := Claim7.holds Tryz.pinned (.plain (OpenSpec.upto fnHitSpec)) fnHitUptoCard

/-- THE SECOND FORM's CARD OF 'laws.FnShadow'. -/
def fnShadowUptoCard : Claim7 := { stood := { row := fnShadowUptoRow, standIns := [], harness := (true, "9f45b6ebd51a71c5c9f5ffd828ac4f08bf1bbf6a76b7f96b911f008b9737afa6"), looks := true }, kinds := [], alts := [], laidByText := true, laidKinds := [.data], laidTests := true, laidLooks := .later }
def FnShadowUptoCardSaid : Prop := Claim7.holds Tryz.pinned (.plain (OpenSpec.upto fnShadowSpec)) fnShadowUptoCard

/-- THE SECOND FORM's CARD OF 'laws.FnPoint'. -/
def fnPointUptoCard : Claim7 := { stood := { row := fnPointUptoRow, standIns := [], harness := (true, "9f45b6ebd51a71c5c9f5ffd828ac4f08bf1bbf6a76b7f96b911f008b9737afa6"), looks := true }, kinds := [], alts := [], laidByText := true, laidKinds := [.data], laidTests := true, laidLooks := .later }
def FnPointUptoCardSaid : Prop := Claim7.holds Tryz.pinned (.plain (OpenSpec.upto fnPointSpec)) fnPointUptoCard
end Rows
end Go.Proofs.YtfieffpobgcpmaaGreatDoor
