/-
  No cell of these rows narrows 'for every input' (looked for: loops, veiled, ifaces, maps, wideKeys, modest, calm, conditions, laid).
  DERIVED. THE GIVEN ROWS OF THIS SEAT. 5 by the template 'for every input the law returns true; each argument reads behind the call as it read before'; 0 by the template 'total and deterministic' (their statements: YtcjdnomhnlbmbaaTotals.lean).
  GIVEN WITH THE SEED: the statements are not yours to turn. If you find one false, say at which input.
  Laid BY PROGRAM, IN A SANDBOX (cutbox-rows.mjs): the forced cells as the released guide's own fill.sh prints them over the translation 3550753f11a392b9… (all of the seat's roots in one cut). By AI agents, Wed Nov 11 2026. No macro, syntax, notation, axiom, sorry.
-/
import Derived.Test.YtcjdnomhnlbmbaaChecked
import GoSem.Claim
import GoSem.ClaimJoined
import GoSem.ClaimMapViews
import Derived.JoinedTies
import Derived.KernelRfl
namespace Go.Proofs.Ytcjdnomhnlbmbaa
/- THE CELL 'sum', in the pinned program and in every row, IS THE sha256 OF THE DUMP (.gsa) THAT YtcjdnomhnlbmbaaProg.lean LOADS. Nothing in Lean hashes anything: it is a label: what it is worth is what the hold of that sum in a sandbox is worth. -/
noncomputable def Try.pinned : Pinned := { name := "ytcjdnomhnlbmbaa", sum := "3550753f11a392b97f4c5eb1dd7bd6f66baf3c73ee4651fa53b762fee5e0d899", checked := Try.checked }
namespace Rows
def none {H : Type} : Left H := { results := [], args := [] }

/-- 'laws.FnExactDecodePicture': WHATEVER THE INPUT: true; the input reads as it did. -/
def fnExactDecodePictureSpec : ChangeSpec := { name := "fnExactDecodePicture", fn := fun _ => fun
  | [d] => { results := [.lit (.bool true)], args := [d] }
  | _ => none }
def fnExactDecodePictureRow : OpenClaim := { program := "ytcjdnomhnlbmbaa", sum := "3550753f11a392b97f4c5eb1dd7bd6f66baf3c73ee4651fa53b762fee5e0d899", func := "loop.example/s01121/laws.FnExactDecodePicture", spec := "fnExactDecodePicture", unfollowed := true, recurses := true, apart := false }
def FnExactDecodePictureSaid : Prop := fnExactDecodePictureRow.holds Try.pinned (OpenSpec.ofChange fnExactDecodePictureSpec)

/-- ITS FALSE NEIGHBOUR: 'it returns false'. Refute it at one input. -/
def fnExactDecodePictureWrong : ChangeSpec := { name := "fnExactDecodePicture", fn := fun _ => fun
  | [d] => { results := [.lit (.bool false)], args := [d] }
  | _ => none }
def FnExactDecodePictureWrongFalsely : Prop := fnExactDecodePictureRow.holds Try.pinned (OpenSpec.ofChange fnExactDecodePictureWrong)

/-- 'laws.FnExactEncodePicture': WHATEVER THE INPUT: true; the input reads as it did. -/
def fnExactEncodePictureSpec : ChangeSpec := { name := "fnExactEncodePicture", fn := fun _ => fun
  | [d] => { results := [.lit (.bool true)], args := [d] }
  | _ => none }
def fnExactEncodePictureRow : OpenClaim := { program := "ytcjdnomhnlbmbaa", sum := "3550753f11a392b97f4c5eb1dd7bd6f66baf3c73ee4651fa53b762fee5e0d899", func := "loop.example/s01121/laws.FnExactEncodePicture", spec := "fnExactEncodePicture", unfollowed := true, recurses := true, apart := false }
def FnExactEncodePictureSaid : Prop := fnExactEncodePictureRow.holds Try.pinned (OpenSpec.ofChange fnExactEncodePictureSpec)

/-- ITS FALSE NEIGHBOUR: 'it returns false'. Refute it at one input. -/
def fnExactEncodePictureWrong : ChangeSpec := { name := "fnExactEncodePicture", fn := fun _ => fun
  | [d] => { results := [.lit (.bool false)], args := [d] }
  | _ => none }
def FnExactEncodePictureWrongFalsely : Prop := fnExactEncodePictureRow.holds Try.pinned (OpenSpec.ofChange fnExactEncodePictureWrong)

/-- 'laws.FnExactValidScene': WHATEVER THE INPUT: true; the input reads as it did. -/
def fnExactValidSceneSpec : ChangeSpec := { name := "fnExactValidScene", fn := fun _ => fun
  | [d] => { results := [.lit (.bool true)], args := [d] }
  | _ => none }
def fnExactValidSceneRow : OpenClaim := { program := "ytcjdnomhnlbmbaa", sum := "3550753f11a392b97f4c5eb1dd7bd6f66baf3c73ee4651fa53b762fee5e0d899", func := "loop.example/s01121/laws.FnExactValidScene", spec := "fnExactValidScene", apart := false }
def FnExactValidSceneSaid : Prop := fnExactValidSceneRow.holds Try.pinned (OpenSpec.ofChange fnExactValidSceneSpec)

/-- ITS FALSE NEIGHBOUR: 'it returns false'. Refute it at one input. -/
def fnExactValidSceneWrong : ChangeSpec := { name := "fnExactValidScene", fn := fun _ => fun
  | [d] => { results := [.lit (.bool false)], args := [d] }
  | _ => none }
def FnExactValidSceneWrongFalsely : Prop := fnExactValidSceneRow.holds Try.pinned (OpenSpec.ofChange fnExactValidSceneWrong)

/-- 'laws.FnExactDecodeScene': WHATEVER THE INPUT: true; the input reads as it did. -/
def fnExactDecodeSceneSpec : ChangeSpec := { name := "fnExactDecodeScene", fn := fun _ => fun
  | [d] => { results := [.lit (.bool true)], args := [d] }
  | _ => none }
def fnExactDecodeSceneRow : OpenClaim := { program := "ytcjdnomhnlbmbaa", sum := "3550753f11a392b97f4c5eb1dd7bd6f66baf3c73ee4651fa53b762fee5e0d899", func := "loop.example/s01121/laws.FnExactDecodeScene", spec := "fnExactDecodeScene", unfollowed := true, recurses := true, apart := false }
def FnExactDecodeSceneSaid : Prop := fnExactDecodeSceneRow.holds Try.pinned (OpenSpec.ofChange fnExactDecodeSceneSpec)

/-- ITS FALSE NEIGHBOUR: 'it returns false'. Refute it at one input. -/
def fnExactDecodeSceneWrong : ChangeSpec := { name := "fnExactDecodeScene", fn := fun _ => fun
  | [d] => { results := [.lit (.bool false)], args := [d] }
  | _ => none }
def FnExactDecodeSceneWrongFalsely : Prop := fnExactDecodeSceneRow.holds Try.pinned (OpenSpec.ofChange fnExactDecodeSceneWrong)

/-- 'laws.FnExactEncodeScene': WHATEVER THE INPUT: true; the input reads as it did. -/
def fnExactEncodeSceneSpec : ChangeSpec := { name := "fnExactEncodeScene", fn := fun _ => fun
  | [d] => { results := [.lit (.bool true)], args := [d] }
  | _ => none }
def fnExactEncodeSceneRow : OpenClaim := { program := "ytcjdnomhnlbmbaa", sum := "3550753f11a392b97f4c5eb1dd7bd6f66baf3c73ee4651fa53b762fee5e0d899", func := "loop.example/s01121/laws.FnExactEncodeScene", spec := "fnExactEncodeScene", apart := false }
def FnExactEncodeSceneSaid : Prop := fnExactEncodeSceneRow.holds Try.pinned (OpenSpec.ofChange fnExactEncodeSceneSpec)

/-- ITS FALSE NEIGHBOUR: 'it returns false'. Refute it at one input. -/
def fnExactEncodeSceneWrong : ChangeSpec := { name := "fnExactEncodeScene", fn := fun _ => fun
  | [d] => { results := [.lit (.bool false)], args := [d] }
  | _ => none }
def FnExactEncodeSceneWrongFalsely : Prop := fnExactEncodeSceneRow.holds Try.pinned (OpenSpec.ofChange fnExactEncodeSceneWrong)

/- THE SECOND FORM. 'bulk': how many values and letters a reading holds, each counted each time it is reached (what is shared counts as often as it is met; a slice's spare places count too). A statement '..UptoSaid' is the law's where the arguments, and the package variables that the reading takes, are together of bulk at most 1048576: NARROWER than '..Said'. Prove '..Said' where nothing that the law and all that it calls make is longer than what came in: it says more and counts as full. Else prove '..UptoSaid'. A law counts once. -/
mutual
def uptoBulk {H : Type} : DataW H → Nat
  | .lit (.string bytes) => bytes.length + 1
  | .lit _ => 1
  | .nil => 1
  | .ptr d => uptoBulk d + 1
  | .slice elems spare => uptoBulkAll elems + uptoBulkAll spare + 1
  | .agg parts => uptoBulkAll parts + 1
  | .iface _ d => uptoBulk d + 1
  | .map entries => uptoBulkEntries entries + 1
  | .held _ => 1
def uptoBulkAll {H : Type} : List (DataW H) → Nat
  | [] => 0
  | d :: r => uptoBulk d + uptoBulkAll r
def uptoBulkEntries {H : Type} : List (Lit × DataW H) → Nat
  | [] => 0
  | x :: r => uptoBulkEntry x + uptoBulkEntries r
def uptoBulkEntry {H : Type} : Lit × DataW H → Nat
  | (.string bytes, d) => bytes.length + uptoBulk d + 1
  | (_, d) => uptoBulk d + 1
 end
def uptoSmall : (H : Type) → List (DataW H) → Bool := fun _ ds => decide (uptoBulkAll ds ≤ 1048576)
def OpenSpec.upto (s : _root_.Go.ChangeSpec) : _root_.Go.OpenSpec := { _root_.Go.OpenSpec.ofChange s with cond := some uptoSmall }

/-- 'laws.FnExactDecodePicture', WHERE WHAT IT READS IS OF BULK AT MOST 1048576: true; the input reads as it did. -/
def fnExactDecodePictureUptoRow : OpenClaim := { program := "ytcjdnomhnlbmbaa", sum := "3550753f11a392b97f4c5eb1dd7bd6f66baf3c73ee4651fa53b762fee5e0d899", func := "loop.example/s01121/laws.FnExactDecodePicture", spec := "fnExactDecodePicture", unfollowed := true, recurses := true, apart := false, narrowed := true }
def FnExactDecodePictureUptoSaid : Prop := fnExactDecodePictureUptoRow.holds Try.pinned (OpenSpec.upto fnExactDecodePictureSpec)

/-- 'laws.FnExactEncodePicture', WHERE WHAT IT READS IS OF BULK AT MOST 1048576: true; the input reads as it did. -/
def fnExactEncodePictureUptoRow : OpenClaim := { program := "ytcjdnomhnlbmbaa", sum := "3550753f11a392b97f4c5eb1dd7bd6f66baf3c73ee4651fa53b762fee5e0d899", func := "loop.example/s01121/laws.FnExactEncodePicture", spec := "fnExactEncodePicture", unfollowed := true, recurses := true, apart := false, narrowed := true }
def FnExactEncodePictureUptoSaid : Prop := fnExactEncodePictureUptoRow.holds Try.pinned (OpenSpec.upto fnExactEncodePictureSpec)

/-- 'laws.FnExactValidScene', WHERE WHAT IT READS IS OF BULK AT MOST 1048576: true; the input reads as it did. -/
def fnExactValidSceneUptoRow : OpenClaim := { program := "ytcjdnomhnlbmbaa", sum := "3550753f11a392b97f4c5eb1dd7bd6f66baf3c73ee4651fa53b762fee5e0d899", func := "loop.example/s01121/laws.FnExactValidScene", spec := "fnExactValidScene", apart := false, narrowed := true }
def FnExactValidSceneUptoSaid : Prop := fnExactValidSceneUptoRow.holds Try.pinned (OpenSpec.upto fnExactValidSceneSpec)

/-- 'laws.FnExactDecodeScene', WHERE WHAT IT READS IS OF BULK AT MOST 1048576: true; the input reads as it did. -/
def fnExactDecodeSceneUptoRow : OpenClaim := { program := "ytcjdnomhnlbmbaa", sum := "3550753f11a392b97f4c5eb1dd7bd6f66baf3c73ee4651fa53b762fee5e0d899", func := "loop.example/s01121/laws.FnExactDecodeScene", spec := "fnExactDecodeScene", unfollowed := true, recurses := true, apart := false, narrowed := true }
def FnExactDecodeSceneUptoSaid : Prop := fnExactDecodeSceneUptoRow.holds Try.pinned (OpenSpec.upto fnExactDecodeSceneSpec)

/-- 'laws.FnExactEncodeScene', WHERE WHAT IT READS IS OF BULK AT MOST 1048576: true; the input reads as it did. -/
def fnExactEncodeSceneUptoRow : OpenClaim := { program := "ytcjdnomhnlbmbaa", sum := "3550753f11a392b97f4c5eb1dd7bd6f66baf3c73ee4651fa53b762fee5e0d899", func := "loop.example/s01121/laws.FnExactEncodeScene", spec := "fnExactEncodeScene", apart := false, narrowed := true }
def FnExactEncodeSceneUptoSaid : Prop := fnExactEncodeSceneUptoRow.holds Try.pinned (OpenSpec.upto fnExactEncodeSceneSpec)

end Rows
end Go.Proofs.Ytcjdnomhnlbmbaa
