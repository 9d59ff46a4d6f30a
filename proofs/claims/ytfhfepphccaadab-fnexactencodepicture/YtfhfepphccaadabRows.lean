/-
  No cell of these rows narrows 'for every input' (looked for: loops, veiled, ifaces, maps, wideKeys, modest, calm, conditions, laid).
  DERIVED. THE GIVEN ROWS OF THIS SEAT. 5 by the template 'for every input the law returns true; each argument reads behind the call as it read before'; 0 by the template 'total and deterministic' (their statements: YtfhfepphccaadabTotals.lean).
  GIVEN WITH THE SEED: the statements are not yours to turn. If you find one false, say at which input.
  Laid BY PROGRAM, IN A SANDBOX (cutbox-rows.mjs): the forced cells as the released guide's own fill.sh prints them over the translation cac00e8d7023bbc2… (all of the seat's roots in one cut). By AI agents, Wed Nov 11 2026. No macro, syntax, notation, axiom, sorry.
-/
import Derived.Test.YtfhfepphccaadabChecked
import GoSem.Claim
import GoSem.ClaimJoined
import GoSem.ClaimMapViews
import Derived.JoinedTies
import Derived.KernelRfl
namespace Go.Proofs.Ytfhfepphccaadab
/- THE CELL 'sum', in the pinned program and in every row, IS THE sha256 OF THE DUMP (.gsa) THAT YtfhfepphccaadabProg.lean LOADS. Nothing in Lean hashes anything: it is a label: what it is worth is what the hold of that sum in a sandbox is worth. -/
noncomputable def Try.pinned : Pinned := { name := "ytfhfepphccaadab", sum := "cac00e8d7023bbc244d3a2559528f08cac3cb946b13e41805b7625a146a86a03", checked := Try.checked }
namespace Rows
def none {H : Type} : Left H := { results := [], args := [] }

/-- 'laws.FnExactFloatOrder': WHATEVER THE INPUT: true; the input reads as it did. -/
def fnExactFloatOrderSpec : ChangeSpec := { name := "fnExactFloatOrder", fn := fun _ => fun
  | [d1, d2] => { results := [.lit (.bool true)], args := [d1, d2] }
  | _ => none }
def fnExactFloatOrderRow : OpenClaim := { program := "ytfhfepphccaadab", sum := "cac00e8d7023bbc244d3a2559528f08cac3cb946b13e41805b7625a146a86a03", func := "loop.example/s01121/laws.FnExactFloatOrder", spec := "fnExactFloatOrder", inPlace := ["math.Float32frombits"], apart := false }
def FnExactFloatOrderSaid : Prop := fnExactFloatOrderRow.holds Try.pinned (OpenSpec.ofChange fnExactFloatOrderSpec)

/-- ITS FALSE NEIGHBOUR: 'it returns false'. Refute it at one input. -/
def fnExactFloatOrderWrong : ChangeSpec := { name := "fnExactFloatOrder", fn := fun _ => fun
  | [d1, d2] => { results := [.lit (.bool false)], args := [d1, d2] }
  | _ => none }
def FnExactFloatOrderWrongFalsely : Prop := fnExactFloatOrderRow.holds Try.pinned (OpenSpec.ofChange fnExactFloatOrderWrong)

/-- 'laws.FnExactEncodePicture': WHATEVER THE INPUT: true; the input reads as it did. -/
def fnExactEncodePictureSpec : ChangeSpec := { name := "fnExactEncodePicture", fn := fun _ => fun
  | [d] => { results := [.lit (.bool true)], args := [d] }
  | _ => none }
def fnExactEncodePictureRow : OpenClaim := { program := "ytfhfepphccaadab", sum := "cac00e8d7023bbc244d3a2559528f08cac3cb946b13e41805b7625a146a86a03", func := "loop.example/s01121/laws.FnExactEncodePicture", spec := "fnExactEncodePicture", unfollowed := true, recurses := true, apart := false }
def FnExactEncodePictureSaid : Prop := fnExactEncodePictureRow.holds Try.pinned (OpenSpec.ofChange fnExactEncodePictureSpec)

/-- ITS FALSE NEIGHBOUR: 'it returns false'. Refute it at one input. -/
def fnExactEncodePictureWrong : ChangeSpec := { name := "fnExactEncodePicture", fn := fun _ => fun
  | [d] => { results := [.lit (.bool false)], args := [d] }
  | _ => none }
def FnExactEncodePictureWrongFalsely : Prop := fnExactEncodePictureRow.holds Try.pinned (OpenSpec.ofChange fnExactEncodePictureWrong)

/-- 'laws.FnExactBigAdd': WHATEVER THE INPUT: true; the input reads as it did. -/
def fnExactBigAddSpec : ChangeSpec := { name := "fnExactBigAdd", fn := fun _ => fun
  | [d1, d2] => { results := [.lit (.bool true)], args := [d1, d2] }
  | _ => none }
def fnExactBigAddRow : OpenClaim := { program := "ytfhfepphccaadab", sum := "cac00e8d7023bbc244d3a2559528f08cac3cb946b13e41805b7625a146a86a03", func := "loop.example/s01121/laws.FnExactBigAdd", spec := "fnExactBigAdd", apart := false }
def FnExactBigAddSaid : Prop := fnExactBigAddRow.holds Try.pinned (OpenSpec.ofChange fnExactBigAddSpec)

/-- ITS FALSE NEIGHBOUR: 'it returns false'. Refute it at one input. -/
def fnExactBigAddWrong : ChangeSpec := { name := "fnExactBigAdd", fn := fun _ => fun
  | [d1, d2] => { results := [.lit (.bool false)], args := [d1, d2] }
  | _ => none }
def FnExactBigAddWrongFalsely : Prop := fnExactBigAddRow.holds Try.pinned (OpenSpec.ofChange fnExactBigAddWrong)

/-- 'laws.FnExactBigSub': WHATEVER THE INPUT: true; the input reads as it did. -/
def fnExactBigSubSpec : ChangeSpec := { name := "fnExactBigSub", fn := fun _ => fun
  | [d1, d2] => { results := [.lit (.bool true)], args := [d1, d2] }
  | _ => none }
def fnExactBigSubRow : OpenClaim := { program := "ytfhfepphccaadab", sum := "cac00e8d7023bbc244d3a2559528f08cac3cb946b13e41805b7625a146a86a03", func := "loop.example/s01121/laws.FnExactBigSub", spec := "fnExactBigSub", apart := false }
def FnExactBigSubSaid : Prop := fnExactBigSubRow.holds Try.pinned (OpenSpec.ofChange fnExactBigSubSpec)

/-- ITS FALSE NEIGHBOUR: 'it returns false'. Refute it at one input. -/
def fnExactBigSubWrong : ChangeSpec := { name := "fnExactBigSub", fn := fun _ => fun
  | [d1, d2] => { results := [.lit (.bool false)], args := [d1, d2] }
  | _ => none }
def FnExactBigSubWrongFalsely : Prop := fnExactBigSubRow.holds Try.pinned (OpenSpec.ofChange fnExactBigSubWrong)

/-- 'laws.FnExactOrient': WHATEVER THE INPUT: true; the input reads as it did. -/
def fnExactOrientSpec : ChangeSpec := { name := "fnExactOrient", fn := fun _ => fun
  | [d1, d2, d3, d4] => { results := [.lit (.bool true)], args := [d1, d2, d3, d4] }
  | _ => none }
def fnExactOrientRow : OpenClaim := { program := "ytfhfepphccaadab", sum := "cac00e8d7023bbc244d3a2559528f08cac3cb946b13e41805b7625a146a86a03", func := "loop.example/s01121/laws.FnExactOrient", spec := "fnExactOrient", inPlace := ["math.Float64bits", "math.Float64frombits"], unfollowed := true, recurses := true, apart := false }
def FnExactOrientSaid : Prop := fnExactOrientRow.holds Try.pinned (OpenSpec.ofChange fnExactOrientSpec)

/-- ITS FALSE NEIGHBOUR: 'it returns false'. Refute it at one input. -/
def fnExactOrientWrong : ChangeSpec := { name := "fnExactOrient", fn := fun _ => fun
  | [d1, d2, d3, d4] => { results := [.lit (.bool false)], args := [d1, d2, d3, d4] }
  | _ => none }
def FnExactOrientWrongFalsely : Prop := fnExactOrientRow.holds Try.pinned (OpenSpec.ofChange fnExactOrientWrong)

/- THE SECOND FORM. 'bulk': how many values and letters a reading holds, each counted each time it is reached (what is shared counts as often as it is met; a slice's spare places count too). A statement '..UptoSaid' is the law's where the arguments, and the package variables that the reading takes, are together of bulk at most 1048576: NARROWER than '..Said'. Prove '..Said' where nothing that the law and all that it calls make is longer than what came in: it says more and counts as full. Else prove '..UptoSaid'. A law counts once. -/
mutual
def uptoBulk {H : Type} : DataW H → Nat
  | .lit (.string bytes) => bytes.length + 1
  | .lit _ => 1
  | .nil => 1
  | .ptr d => uptoBulk d + 1
  | .slice elems spare => uptoBulkAll elems + uptoBulkAll spare + 1
  | .agg parts => uptoBulkAll parts + 1
  | .iface _ d => uptoBulk d + 1
  | .map entries => uptoBulkEntries entries + 1
  | .held _ => 1
def uptoBulkAll {H : Type} : List (DataW H) → Nat
  | [] => 0
  | d :: r => uptoBulk d + uptoBulkAll r
def uptoBulkEntries {H : Type} : List (Lit × DataW H) → Nat
  | [] => 0
  | x :: r => uptoBulkEntry x + uptoBulkEntries r
def uptoBulkEntry {H : Type} : Lit × DataW H → Nat
  | (.string bytes, d) => bytes.length + uptoBulk d + 1
  | (_, d) => uptoBulk d + 1
 end
def uptoSmall : (H : Type) → List (DataW H) → Bool := fun _ ds => decide (uptoBulkAll ds ≤ 1048576)
def OpenSpec.upto (s : _root_.Go.ChangeSpec) : _root_.Go.OpenSpec := { _root_.Go.OpenSpec.ofChange s with cond := some uptoSmall }

/-- 'laws.FnExactFloatOrder', WHERE WHAT IT READS IS OF BULK AT MOST 1048576: true; the input reads as it did. -/
def fnExactFloatOrderUptoRow : OpenClaim := { program := "ytfhfepphccaadab", sum := "cac00e8d7023bbc244d3a2559528f08cac3cb946b13e41805b7625a146a86a03", func := "loop.example/s01121/laws.FnExactFloatOrder", spec := "fnExactFloatOrder", inPlace := ["math.Float32frombits"], apart := false, narrowed := true }
def FnExactFloatOrderUptoSaid : Prop := fnExactFloatOrderUptoRow.holds Try.pinned (OpenSpec.upto fnExactFloatOrderSpec)

/-- 'laws.FnExactEncodePicture', WHERE WHAT IT READS IS OF BULK AT MOST 1048576: true; the input reads as it did. -/
def fnExactEncodePictureUptoRow : OpenClaim := { program := "ytfhfepphccaadab", sum := "cac00e8d7023bbc244d3a2559528f08cac3cb946b13e41805b7625a146a86a03", func := "loop.example/s01121/laws.FnExactEncodePicture", spec := "fnExactEncodePicture", unfollowed := true, recurses := true, apart := false, narrowed := true }
def FnExactEncodePictureUptoSaid : Prop := fnExactEncodePictureUptoRow.holds Try.pinned (OpenSpec.upto fnExactEncodePictureSpec)

/-- 'laws.FnExactBigAdd', WHERE WHAT IT READS IS OF BULK AT MOST 1048576: true; the input reads as it did. -/
def fnExactBigAddUptoRow : OpenClaim := { program := "ytfhfepphccaadab", sum := "cac00e8d7023bbc244d3a2559528f08cac3cb946b13e41805b7625a146a86a03", func := "loop.example/s01121/laws.FnExactBigAdd", spec := "fnExactBigAdd", apart := false, narrowed := true }
def FnExactBigAddUptoSaid : Prop := fnExactBigAddUptoRow.holds Try.pinned (OpenSpec.upto fnExactBigAddSpec)

/-- 'laws.FnExactBigSub', WHERE WHAT IT READS IS OF BULK AT MOST 1048576: true; the input reads as it did. -/
def fnExactBigSubUptoRow : OpenClaim := { program := "ytfhfepphccaadab", sum := "cac00e8d7023bbc244d3a2559528f08cac3cb946b13e41805b7625a146a86a03", func := "loop.example/s01121/laws.FnExactBigSub", spec := "fnExactBigSub", apart := false, narrowed := true }
def FnExactBigSubUptoSaid : Prop := fnExactBigSubUptoRow.holds Try.pinned (OpenSpec.upto fnExactBigSubSpec)

/-- 'laws.FnExactOrient', WHERE WHAT IT READS IS OF BULK AT MOST 1048576: true; the input reads as it did. -/
def fnExactOrientUptoRow : OpenClaim := { program := "ytfhfepphccaadab", sum := "cac00e8d7023bbc244d3a2559528f08cac3cb946b13e41805b7625a146a86a03", func := "loop.example/s01121/laws.FnExactOrient", spec := "fnExactOrient", inPlace := ["math.Float64bits", "math.Float64frombits"], unfollowed := true, recurses := true, apart := false, narrowed := true }
def FnExactOrientUptoSaid : Prop := fnExactOrientUptoRow.holds Try.pinned (OpenSpec.upto fnExactOrientSpec)

end Rows
end Go.Proofs.Ytfhfepphccaadab
