/-
  NARROWER THAN 'FOR EVERY INPUT', by the rows' own cells (each row's printed sentence says how): FnExactHitDistance: laid · FnHit: laid · FnShadow: laid · FnPoint: laid.
  DERIVED. THE GIVEN ROWS OF THIS SEAT. 4 by the template 'for every input the law returns true; each argument reads behind the call as it read before'; 0 by the template 'total and deterministic' (their statements: YtfieffpobgcpmaaGreatDoorTotals.lean).
  GIVEN WITH THE SEED: the statements are not yours to turn. If you find one false, say at which input.
  Laid BY PROGRAM, IN A SANDBOX (cutbox-rows.mjs): the forced cells as the released guide's own fill.sh prints them over the translation d1b31af855915e6f… (all of the seat's roots in one cut). By AI agents, Wed Nov 11 2026. No macro, syntax, notation, axiom, sorry.
-/
import Derived.Test.YtfieffpobgcpmaaGreatDoorChecked
import GoSem.Claim
import GoSem.ClaimJoined
import GoSem.ClaimMapViews
import Derived.JoinedTies
import Derived.KernelRfl
namespace Go.Proofs.YtfieffpobgcpmaaGreatDoor
/- THE CELL 'sum', in the pinned program and in every row, IS THE sha256 OF THE DUMP (.gsa) THAT YtfieffpobgcpmaaGreatDoorProg.lean LOADS. Nothing in Lean hashes anything: it is a label: what it is worth is what the hold of that sum in a sandbox is worth. -/
noncomputable def Tryz.pinned : Pinned := { name := "ytfieffpobgcpmaagreatdoor", sum := "d1b31af855915e6f8b36d3c3ae860eb932f586e643debc0532bd2225ff819365", checked := Tryz.checked }
namespace Rows
def none {H : Type} : Left H := { results := [], args := [] }

/- WHAT THE LISTED PACKAGE-LEVEL VARIABLES READ AS WHEN THE CALL BEGINS. Each datum BY PROGRAM (the guide's laid-datum.mjs) off the statement by which the dump's own 'gosem.cut.vars' lays the variable. In a bare row this is a premise. The card (YtfieffpobgcpmaaGreatDoorCards.lean) ties it to the program's text. -/
def laid_math_bits_deBruijn32tab {H : Type} : DataW H := .agg [.lit (.int .u8 0), .lit (.int .u8 1), .lit (.int .u8 28), .lit (.int .u8 2), .lit (.int .u8 29), .lit (.int .u8 14), .lit (.int .u8 24), .lit (.int .u8 3), .lit (.int .u8 30), .lit (.int .u8 22), .lit (.int .u8 20), .lit (.int .u8 15), .lit (.int .u8 25), .lit (.int .u8 17), .lit (.int .u8 4), .lit (.int .u8 8), .lit (.int .u8 31), .lit (.int .u8 27), .lit (.int .u8 13), .lit (.int .u8 23), .lit (.int .u8 21), .lit (.int .u8 19), .lit (.int .u8 16), .lit (.int .u8 7), .lit (.int .u8 26), .lit (.int .u8 12), .lit (.int .u8 18), .lit (.int .u8 6), .lit (.int .u8 11), .lit (.int .u8 5), .lit (.int .u8 10), .lit (.int .u8 9)]

/-- 'laws.FnExactHitDistance': WHATEVER THE INPUT: true; the input reads as it did. -/
def fnExactHitDistanceSpec : ChangeSpec := { name := "fnExactHitDistance", fn := fun _ => fun
  | [d1, d2] => { results := [.lit (.bool true)], args := [d1, d2] }
  | _ => none }
def fnExactHitDistanceRow : OpenClaim := { program := "ytfieffpobgcpmaagreatdoor", sum := "d1b31af855915e6f8b36d3c3ae860eb932f586e643debc0532bd2225ff819365", func := "loop.example/s01121/laws.FnExactHitDistance", spec := "fnExactHitDistance", inPlace := ["math.Float64bits", "math.Float64frombits"], unfollowed := true, recurses := true, named := ["math/bits.deBruijn32tab"], apart := false, laid := [("math/bits.deBruijn32tab", laid_math_bits_deBruijn32tab)] }
def FnExactHitDistanceSaid : Prop := fnExactHitDistanceRow.holds Tryz.pinned (OpenSpec.ofChange fnExactHitDistanceSpec)

/-- ITS FALSE NEIGHBOUR: 'it returns false'. Refute it at one input. -/
def fnExactHitDistanceWrong : ChangeSpec := { name := "fnExactHitDistance", fn := fun _ => fun
  | [d1, d2] => { results := [.lit (.bool false)], args := [d1, d2] }
  | _ => none }
def FnExactHitDistanceWrongFalsely : Prop := fnExactHitDistanceRow.holds Tryz.pinned (OpenSpec.ofChange fnExactHitDistanceWrong)

/-- 'laws.FnHit': WHATEVER THE INPUT: true; the input reads as it did. -/
def fnHitSpec : ChangeSpec := { name := "fnHit", fn := fun _ => fun
  | [d] => { results := [.lit (.bool true)], args := [d] }
  | _ => none }
def fnHitRow : OpenClaim := { program := "ytfieffpobgcpmaagreatdoor", sum := "d1b31af855915e6f8b36d3c3ae860eb932f586e643debc0532bd2225ff819365", func := "loop.example/s01121/laws.FnHit", spec := "fnHit", inPlace := ["math.Float64bits", "math.Float64frombits"], unfollowed := true, recurses := true, named := ["math/bits.deBruijn32tab"], apart := false, laid := [("math/bits.deBruijn32tab", laid_math_bits_deBruijn32tab)] }
def FnHitSaid : Prop := fnHitRow.holds Tryz.pinned (OpenSpec.ofChange fnHitSpec)

/-- ITS FALSE NEIGHBOUR: 'it returns false'. Refute it at one input. -/
def fnHitWrong : ChangeSpec := { name := "fnHit", fn := fun _ => fun
  | [d] => { results := [.lit (.bool false)], args := [d] }
  | _ => none }
def FnHitWrongFalsely : Prop := fnHitRow.holds Tryz.pinned (OpenSpec.ofChange fnHitWrong)

/-- 'laws.FnShadow': WHATEVER THE INPUT: true; the input reads as it did. -/
def fnShadowSpec : ChangeSpec := { name := "fnShadow", fn := fun _ => fun
  | [d] => { results := [.lit (.bool true)], args := [d] }
  | _ => none }
def fnShadowRow : OpenClaim := { program := "ytfieffpobgcpmaagreatdoor", sum := "d1b31af855915e6f8b36d3c3ae860eb932f586e643debc0532bd2225ff819365", func := "loop.example/s01121/laws.FnShadow", spec := "fnShadow", inPlace := ["math.Float64bits", "math.Float64frombits"], unfollowed := true, recurses := true, named := ["math/bits.deBruijn32tab"], apart := false, laid := [("math/bits.deBruijn32tab", laid_math_bits_deBruijn32tab)] }
def FnShadowSaid : Prop := fnShadowRow.holds Tryz.pinned (OpenSpec.ofChange fnShadowSpec)

/-- ITS FALSE NEIGHBOUR: 'it returns false'. Refute it at one input. -/
def fnShadowWrong : ChangeSpec := { name := "fnShadow", fn := fun _ => fun
  | [d] => { results := [.lit (.bool false)], args := [d] }
  | _ => none }
def FnShadowWrongFalsely : Prop := fnShadowRow.holds Tryz.pinned (OpenSpec.ofChange fnShadowWrong)

/-- 'laws.FnPoint': WHATEVER THE INPUT: true; the input reads as it did. -/
def fnPointSpec : ChangeSpec := { name := "fnPoint", fn := fun _ => fun
  | [d] => { results := [.lit (.bool true)], args := [d] }
  | _ => none }
def fnPointRow : OpenClaim := { program := "ytfieffpobgcpmaagreatdoor", sum := "d1b31af855915e6f8b36d3c3ae860eb932f586e643debc0532bd2225ff819365", func := "loop.example/s01121/laws.FnPoint", spec := "fnPoint", inPlace := ["math.Float64bits", "math.Float64frombits"], unfollowed := true, recurses := true, named := ["math/bits.deBruijn32tab"], apart := false, laid := [("math/bits.deBruijn32tab", laid_math_bits_deBruijn32tab)] }
def FnPointSaid : Prop := fnPointRow.holds Tryz.pinned (OpenSpec.ofChange fnPointSpec)

/-- ITS FALSE NEIGHBOUR: 'it returns false'. Refute it at one input. -/
def fnPointWrong : ChangeSpec := { name := "fnPoint", fn := fun _ => fun
  | [d] => { results := [.lit (.bool false)], args := [d] }
  | _ => none }
def FnPointWrongFalsely : Prop := fnPointRow.holds Tryz.pinned (OpenSpec.ofChange fnPointWrong)

/- THE SECOND FORM. 'bulk': how many values and letters a reading holds, each counted each time it is reached (what is shared counts as often as it is met; a slice's spare places count too). A statement '..UptoSaid' is the law's where the arguments, and the package variables that the reading takes, are together of bulk at most 1048576: NARROWER than '..Said'. Prove '..Said' where nothing that the law and all that it calls make is longer than what came in: it says more and counts as full. Else prove '..UptoSaid'. A law counts once. -/
mutual
def uptoBulk {H : Type} : DataW H → Nat
  | .lit (.string bytes) => bytes.length + 1
  | .lit _ => 1
  | .nil => 1
  | .ptr d => uptoBulk d + 1
  | .slice elems spare => uptoBulkAll elems + uptoBulkAll spare + 1
  | .agg parts => uptoBulkAll parts + 1
  | .iface _ d => uptoBulk d + 1
  | .map entries => uptoBulkEntries entries + 1
  | .held _ => 1
def uptoBulkAll {H : Type} : List (DataW H) → Nat
  | [] => 0
  | d :: r => uptoBulk d + uptoBulkAll r
def uptoBulkEntries {H : Type} : List (Lit × DataW H) → Nat
  | [] => 0
  | x :: r => uptoBulkEntry x + uptoBulkEntries r
def uptoBulkEntry {H : Type} : Lit × DataW H → Nat
  | (.string bytes, d) => bytes.length + uptoBulk d + 1
  | (_, d) => uptoBulk d + 1
 end
def uptoSmall : (H : Type) → List (DataW H) → Bool := fun _ ds => decide (uptoBulkAll ds ≤ 1048576)
def OpenSpec.upto (s : _root_.Go.ChangeSpec) : _root_.Go.OpenSpec := { _root_.Go.OpenSpec.ofChange s with cond := some uptoSmall }

/-- 'laws.FnExactHitDistance', WHERE WHAT IT READS IS OF BULK AT MOST 1048576: true; the input reads as it did. -/
def fnExactHitDistanceUptoRow : OpenClaim := { program := "ytfieffpobgcpmaagreatdoor", sum := "d1b31af855915e6f8b36d3c3ae860eb932f586e643debc0532bd2225ff819365", func := "loop.example/s01121/laws.FnExactHitDistance", spec := "fnExactHitDistance", inPlace := ["math.Float64bits", "math.Float64frombits"], unfollowed := true, recurses := true, named := ["math/bits.deBruijn32tab"], apart := false, laid := [("math/bits.deBruijn32tab", laid_math_bits_deBruijn32tab)], narrowed := true }
def FnExactHitDistanceUptoSaid : Prop := fnExactHitDistanceUptoRow.holds Tryz.pinned (OpenSpec.upto fnExactHitDistanceSpec)

/-- 'laws.FnHit', WHERE WHAT IT READS IS OF BULK AT MOST 1048576: true; the input reads as it did. -/
def fnHitUptoRow : OpenClaim := { program := "ytfieffpobgcpmaagreatdoor", sum := "d1b31af855915e6f8b36d3c3ae860eb932f586e643debc0532bd2225ff819365", func := "loop.example/s01121/laws.FnHit", spec := "fnHit", inPlace := ["math.Float64bits", "math.Float64frombits"], unfollowed := true, recurses := true, named := ["math/bits.deBruijn32tab"], apart := false, laid := [("math/bits.deBruijn32tab", laid_math_bits_deBruijn32tab)], narrowed := true }
def FnHitUptoSaid : Prop := fnHitUptoRow.holds Tryz.pinned (OpenSpec.upto fnHitSpec)

/-- 'laws.FnShadow', WHERE WHAT IT READS IS OF BULK AT MOST 1048576: true; the input reads as it did. -/
def fnShadowUptoRow : OpenClaim := { program := "ytfieffpobgcpmaagreatdoor", sum := "d1b31af855915e6f8b36d3c3ae860eb932f586e643debc0532bd2225ff819365", func := "loop.example/s01121/laws.FnShadow", spec := "fnShadow", inPlace := ["math.Float64bits", "math.Float64frombits"], unfollowed := true, recurses := true, named := ["math/bits.deBruijn32tab"], apart := false, laid := [("math/bits.deBruijn32tab", laid_math_bits_deBruijn32tab)], narrowed := true }
def FnShadowUptoSaid : Prop := fnShadowUptoRow.holds Tryz.pinned (OpenSpec.upto fnShadowSpec)

/-- 'laws.FnPoint', WHERE WHAT IT READS IS OF BULK AT MOST 1048576: true; the input reads as it did. -/
def fnPointUptoRow : OpenClaim := { program := "ytfieffpobgcpmaagreatdoor", sum := "d1b31af855915e6f8b36d3c3ae860eb932f586e643debc0532bd2225ff819365", func := "loop.example/s01121/laws.FnPoint", spec := "fnPoint", inPlace := ["math.Float64bits", "math.Float64frombits"], unfollowed := true, recurses := true, named := ["math/bits.deBruijn32tab"], apart := false, laid := [("math/bits.deBruijn32tab", laid_math_bits_deBruijn32tab)], narrowed := true }
def FnPointUptoSaid : Prop := fnPointUptoRow.holds Tryz.pinned (OpenSpec.upto fnPointSpec)

end Rows
end Go.Proofs.YtfieffpobgcpmaaGreatDoor
