/-
  No cell of these rows narrows 'for every input' (looked for: loops, veiled, ifaces, maps, wideKeys, modest, calm, conditions, laid).
  DERIVED. THE GIVEN ROWS OF THIS SEAT. 6 by the template 'for every input the law returns true; each argument reads behind the call as it read before'; 0 by the template 'total and deterministic' (their statements: YtlbegmepmeimkaaTotals.lean).
  GIVEN WITH THE SEED: the statements are not yours to turn. If you find one false, say at which input.
  Laid BY PROGRAM, IN A SANDBOX (cutbox-rows.mjs): the forced cells as the released guide's own fill.sh prints them over the translation 97e31267d711de44… (all of the seat's roots in one cut). By AI agents, Wed Nov 11 2026. No macro, syntax, notation, axiom, sorry.
-/
import Derived.Test.YtlbegmepmeimkaaChecked
import GoSem.Claim
import GoSem.ClaimJoined
import GoSem.ClaimMapViews
import Derived.JoinedTies
import Derived.KernelRfl
namespace Go.Proofs.Ytlbegmepmeimkaa
/- THE CELL 'sum', in the pinned program and in every row, IS THE sha256 OF THE DUMP (.gsa) THAT YtlbegmepmeimkaaProg.lean LOADS. Nothing in Lean hashes anything: it is a label: what it is worth is what the hold of that sum in a sandbox is worth. -/
noncomputable def Try.pinned : Pinned := { name := "ytlbegmepmeimkaa", sum := "97e31267d711de442091436e1b7da4c98823e7fca47ffb3336c60cf38bcbc764", checked := Try.checked }
namespace Rows
def none {H : Type} : Left H := { results := [], args := [] }

/-- 'laws.FnExactBigValid': WHATEVER THE INPUT: true; the input reads as it did. -/
def fnExactBigValidSpec : ChangeSpec := { name := "fnExactBigValid", fn := fun _ => fun
  | [d] => { results := [.lit (.bool true)], args := [d] }
  | _ => none }
def fnExactBigValidRow : OpenClaim := { program := "ytlbegmepmeimkaa", sum := "97e31267d711de442091436e1b7da4c98823e7fca47ffb3336c60cf38bcbc764", func := "loop.example/s01121/laws.FnExactBigValid", spec := "fnExactBigValid", apart := false }
def FnExactBigValidSaid : Prop := fnExactBigValidRow.holds Try.pinned (OpenSpec.ofChange fnExactBigValidSpec)

/-- ITS FALSE NEIGHBOUR: 'it returns false'. Refute it at one input. -/
def fnExactBigValidWrong : ChangeSpec := { name := "fnExactBigValid", fn := fun _ => fun
  | [d] => { results := [.lit (.bool false)], args := [d] }
  | _ => none }
def FnExactBigValidWrongFalsely : Prop := fnExactBigValidRow.holds Try.pinned (OpenSpec.ofChange fnExactBigValidWrong)

/-- 'laws.FnExactBigMul': WHATEVER THE INPUT: true; the input reads as it did. -/
def fnExactBigMulSpec : ChangeSpec := { name := "fnExactBigMul", fn := fun _ => fun
  | [d1, d2] => { results := [.lit (.bool true)], args := [d1, d2] }
  | _ => none }
def fnExactBigMulRow : OpenClaim := { program := "ytlbegmepmeimkaa", sum := "97e31267d711de442091436e1b7da4c98823e7fca47ffb3336c60cf38bcbc764", func := "loop.example/s01121/laws.FnExactBigMul", spec := "fnExactBigMul", apart := false }
def FnExactBigMulSaid : Prop := fnExactBigMulRow.holds Try.pinned (OpenSpec.ofChange fnExactBigMulSpec)

/-- ITS FALSE NEIGHBOUR: 'it returns false'. Refute it at one input. -/
def fnExactBigMulWrong : ChangeSpec := { name := "fnExactBigMul", fn := fun _ => fun
  | [d1, d2] => { results := [.lit (.bool false)], args := [d1, d2] }
  | _ => none }
def FnExactBigMulWrongFalsely : Prop := fnExactBigMulRow.holds Try.pinned (OpenSpec.ofChange fnExactBigMulWrong)

/-- 'laws.FnExactBigText': WHATEVER THE INPUT: true; the input reads as it did. -/
def fnExactBigTextSpec : ChangeSpec := { name := "fnExactBigText", fn := fun _ => fun
  | [d] => { results := [.lit (.bool true)], args := [d] }
  | _ => none }
def fnExactBigTextRow : OpenClaim := { program := "ytlbegmepmeimkaa", sum := "97e31267d711de442091436e1b7da4c98823e7fca47ffb3336c60cf38bcbc764", func := "loop.example/s01121/laws.FnExactBigText", spec := "fnExactBigText", unfollowed := true, recurses := true, apart := false }
def FnExactBigTextSaid : Prop := fnExactBigTextRow.holds Try.pinned (OpenSpec.ofChange fnExactBigTextSpec)

/-- ITS FALSE NEIGHBOUR: 'it returns false'. Refute it at one input. -/
def fnExactBigTextWrong : ChangeSpec := { name := "fnExactBigText", fn := fun _ => fun
  | [d] => { results := [.lit (.bool false)], args := [d] }
  | _ => none }
def FnExactBigTextWrongFalsely : Prop := fnExactBigTextRow.holds Try.pinned (OpenSpec.ofChange fnExactBigTextWrong)

/-- 'laws.FnExactBigCmp': WHATEVER THE INPUT: true; the input reads as it did. -/
def fnExactBigCmpSpec : ChangeSpec := { name := "fnExactBigCmp", fn := fun _ => fun
  | [d1, d2] => { results := [.lit (.bool true)], args := [d1, d2] }
  | _ => none }
def fnExactBigCmpRow : OpenClaim := { program := "ytlbegmepmeimkaa", sum := "97e31267d711de442091436e1b7da4c98823e7fca47ffb3336c60cf38bcbc764", func := "loop.example/s01121/laws.FnExactBigCmp", spec := "fnExactBigCmp", apart := false }
def FnExactBigCmpSaid : Prop := fnExactBigCmpRow.holds Try.pinned (OpenSpec.ofChange fnExactBigCmpSpec)

/-- ITS FALSE NEIGHBOUR: 'it returns false'. Refute it at one input. -/
def fnExactBigCmpWrong : ChangeSpec := { name := "fnExactBigCmp", fn := fun _ => fun
  | [d1, d2] => { results := [.lit (.bool false)], args := [d1, d2] }
  | _ => none }
def FnExactBigCmpWrongFalsely : Prop := fnExactBigCmpRow.holds Try.pinned (OpenSpec.ofChange fnExactBigCmpWrong)

/-- 'laws.FnExactBigParse': WHATEVER THE INPUT: true; the input reads as it did. -/
def fnExactBigParseSpec : ChangeSpec := { name := "fnExactBigParse", fn := fun _ => fun
  | [d] => { results := [.lit (.bool true)], args := [d] }
  | _ => none }
def fnExactBigParseRow : OpenClaim := { program := "ytlbegmepmeimkaa", sum := "97e31267d711de442091436e1b7da4c98823e7fca47ffb3336c60cf38bcbc764", func := "loop.example/s01121/laws.FnExactBigParse", spec := "fnExactBigParse", apart := false }
def FnExactBigParseSaid : Prop := fnExactBigParseRow.holds Try.pinned (OpenSpec.ofChange fnExactBigParseSpec)

/-- ITS FALSE NEIGHBOUR: 'it returns false'. Refute it at one input. -/
def fnExactBigParseWrong : ChangeSpec := { name := "fnExactBigParse", fn := fun _ => fun
  | [d] => { results := [.lit (.bool false)], args := [d] }
  | _ => none }
def FnExactBigParseWrongFalsely : Prop := fnExactBigParseRow.holds Try.pinned (OpenSpec.ofChange fnExactBigParseWrong)

/-- 'laws.FnExactBigAdd': WHATEVER THE INPUT: true; the input reads as it did. -/
def fnExactBigAddSpec : ChangeSpec := { name := "fnExactBigAdd", fn := fun _ => fun
  | [d1, d2] => { results := [.lit (.bool true)], args := [d1, d2] }
  | _ => none }
def fnExactBigAddRow : OpenClaim := { program := "ytlbegmepmeimkaa", sum := "97e31267d711de442091436e1b7da4c98823e7fca47ffb3336c60cf38bcbc764", func := "loop.example/s01121/laws.FnExactBigAdd", spec := "fnExactBigAdd", apart := false }
def FnExactBigAddSaid : Prop := fnExactBigAddRow.holds Try.pinned (OpenSpec.ofChange fnExactBigAddSpec)

/-- ITS FALSE NEIGHBOUR: 'it returns false'. Refute it at one input. -/
def fnExactBigAddWrong : ChangeSpec := { name := "fnExactBigAdd", fn := fun _ => fun
  | [d1, d2] => { results := [.lit (.bool false)], args := [d1, d2] }
  | _ => none }
def FnExactBigAddWrongFalsely : Prop := fnExactBigAddRow.holds Try.pinned (OpenSpec.ofChange fnExactBigAddWrong)

/- THE SECOND FORM. 'bulk': how many values and letters a reading holds, each counted each time it is reached (what is shared counts as often as it is met; a slice's spare places count too). A statement '..UptoSaid' is the law's where the arguments, and the package variables that the reading takes, are together of bulk at most 1048576: NARROWER than '..Said'. Prove '..Said' where nothing that the law and all that it calls make is longer than what came in: it says more and counts as full. Else prove '..UptoSaid'. A law counts once. -/
mutual
def uptoBulk {H : Type} : DataW H → Nat
  | .lit (.string bytes) => bytes.length + 1
  | .lit _ => 1
  | .nil => 1
  | .ptr d => uptoBulk d + 1
  | .slice elems spare => uptoBulkAll elems + uptoBulkAll spare + 1
  | .agg parts => uptoBulkAll parts + 1
  | .iface _ d => uptoBulk d + 1
  | .map entries => uptoBulkEntries entries + 1
  | .held _ => 1
def uptoBulkAll {H : Type} : List (DataW H) → Nat
  | [] => 0
  | d :: r => uptoBulk d + uptoBulkAll r
def uptoBulkEntries {H : Type} : List (Lit × DataW H) → Nat
  | [] => 0
  | x :: r => uptoBulkEntry x + uptoBulkEntries r
def uptoBulkEntry {H : Type} : Lit × DataW H → Nat
  | (.string bytes, d) => bytes.length + uptoBulk d + 1
  | (_, d) => uptoBulk d + 1
 end
def uptoSmall : (H : Type) → List (DataW H) → Bool := fun _ ds => decide (uptoBulkAll ds ≤ 1048576)
def OpenSpec.upto (s : _root_.Go.ChangeSpec) : _root_.Go.OpenSpec := { _root_.Go.OpenSpec.ofChange s with cond := some uptoSmall }

/-- 'laws.FnExactBigValid', WHERE WHAT IT READS IS OF BULK AT MOST 1048576: true; the input reads as it did. -/
def fnExactBigValidUptoRow : OpenClaim := { program := "ytlbegmepmeimkaa", sum := "97e31267d711de442091436e1b7da4c98823e7fca47ffb3336c60cf38bcbc764", func := "loop.example/s01121/laws.FnExactBigValid", spec := "fnExactBigValid", apart := false, narrowed := true }
def FnExactBigValidUptoSaid : Prop := fnExactBigValidUptoRow.holds Try.pinned (OpenSpec.upto fnExactBigValidSpec)

/-- 'laws.FnExactBigMul', WHERE WHAT IT READS IS OF BULK AT MOST 1048576: true; the input reads as it did. -/
def fnExactBigMulUptoRow : OpenClaim := { program := "ytlbegmepmeimkaa", sum := "97e31267d711de442091436e1b7da4c98823e7fca47ffb3336c60cf38bcbc764", func := "loop.example/s01121/laws.FnExactBigMul", spec := "fnExactBigMul", apart := false, narrowed := true }
def FnExactBigMulUptoSaid : Prop := fnExactBigMulUptoRow.holds Try.pinned (OpenSpec.upto fnExactBigMulSpec)

/-- 'laws.FnExactBigText', WHERE WHAT IT READS IS OF BULK AT MOST 1048576: true; the input reads as it did. -/
def fnExactBigTextUptoRow : OpenClaim := { program := "ytlbegmepmeimkaa", sum := "97e31267d711de442091436e1b7da4c98823e7fca47ffb3336c60cf38bcbc764", func := "loop.example/s01121/laws.FnExactBigText", spec := "fnExactBigText", unfollowed := true, recurses := true, apart := false, narrowed := true }
def FnExactBigTextUptoSaid : Prop := fnExactBigTextUptoRow.holds Try.pinned (OpenSpec.upto fnExactBigTextSpec)

/-- 'laws.FnExactBigCmp', WHERE WHAT IT READS IS OF BULK AT MOST 1048576: true; the input reads as it did. -/
def fnExactBigCmpUptoRow : OpenClaim := { program := "ytlbegmepmeimkaa", sum := "97e31267d711de442091436e1b7da4c98823e7fca47ffb3336c60cf38bcbc764", func := "loop.example/s01121/laws.FnExactBigCmp", spec := "fnExactBigCmp", apart := false, narrowed := true }
def FnExactBigCmpUptoSaid : Prop := fnExactBigCmpUptoRow.holds Try.pinned (OpenSpec.upto fnExactBigCmpSpec)

/-- 'laws.FnExactBigParse', WHERE WHAT IT READS IS OF BULK AT MOST 1048576: true; the input reads as it did. -/
def fnExactBigParseUptoRow : OpenClaim := { program := "ytlbegmepmeimkaa", sum := "97e31267d711de442091436e1b7da4c98823e7fca47ffb3336c60cf38bcbc764", func := "loop.example/s01121/laws.FnExactBigParse", spec := "fnExactBigParse", apart := false, narrowed := true }
def FnExactBigParseUptoSaid : Prop := fnExactBigParseUptoRow.holds Try.pinned (OpenSpec.upto fnExactBigParseSpec)

/-- 'laws.FnExactBigAdd', WHERE WHAT IT READS IS OF BULK AT MOST 1048576: true; the input reads as it did. -/
def fnExactBigAddUptoRow : OpenClaim := { program := "ytlbegmepmeimkaa", sum := "97e31267d711de442091436e1b7da4c98823e7fca47ffb3336c60cf38bcbc764", func := "loop.example/s01121/laws.FnExactBigAdd", spec := "fnExactBigAdd", apart := false, narrowed := true }
def FnExactBigAddUptoSaid : Prop := fnExactBigAddUptoRow.holds Try.pinned (OpenSpec.upto fnExactBigAddSpec)

end Rows
end Go.Proofs.Ytlbegmepmeimkaa
