/-
  No cell of these rows narrows 'for every input' (looked for: loops, veiled, ifaces, maps, wideKeys, modest, calm, conditions, laid).
  DERIVED. THE GIVEN ROWS OF THIS SEAT. 11 by the template 'for every input the law returns true; each argument reads behind the call as it read before'; 0 by the template 'total and deterministic' (their statements: YtcebgcdhigonoaaTotals.lean).
  GIVEN WITH THE SEED: the statements are not yours to turn. If you find one false, say at which input.
  Laid BY PROGRAM, IN A SANDBOX (cutbox-rows.mjs): the forced cells as the released guide's own fill.sh prints them over the translation 2de8c0e2fe46d407… (all of the seat's roots in one cut). By AI agents, Wed Nov 11 2026. No macro, syntax, notation, axiom, sorry.
-/
import Derived.Test.YtcebgcdhigonoaaChecked
import GoSem.Claim
import GoSem.ClaimJoined
import GoSem.ClaimMapViews
import Derived.JoinedTies
import Derived.KernelRfl
namespace Go.Proofs.Ytcebgcdhigonoaa
/- THE CELL 'sum', in the pinned program and in every row, IS THE sha256 OF THE DUMP (.gsa) THAT YtcebgcdhigonoaaProg.lean LOADS. Nothing in Lean hashes anything: it is a label: what it is worth is what the hold of that sum in a sandbox is worth. -/
noncomputable def Try.pinned : Pinned := { name := "ytcebgcdhigonoaa", sum := "2de8c0e2fe46d407909f8c2e6afebeb6caf9505fe798624205ba413f350b9094", checked := Try.checked }
namespace Rows
def none {H : Type} : Left H := { results := [], args := [] }

/-- 'laws.FnExactLevelOf': WHATEVER THE INPUT: true; the input reads as it did. -/
def fnExactLevelOfSpec : ChangeSpec := { name := "fnExactLevelOf", fn := fun _ => fun
  | [d1, d2] => { results := [.lit (.bool true)], args := [d1, d2] }
  | _ => none }
def fnExactLevelOfRow : OpenClaim := { program := "ytcebgcdhigonoaa", sum := "2de8c0e2fe46d407909f8c2e6afebeb6caf9505fe798624205ba413f350b9094", func := "loop.example/g03229/laws.FnExactLevelOf", spec := "fnExactLevelOf", plainKeys := false, apart := false }
def FnExactLevelOfSaid : Prop := fnExactLevelOfRow.holds Try.pinned (OpenSpec.ofChange fnExactLevelOfSpec)

/-- ITS FALSE NEIGHBOUR: 'it returns false'. Refute it at one input. -/
def fnExactLevelOfWrong : ChangeSpec := { name := "fnExactLevelOf", fn := fun _ => fun
  | [d1, d2] => { results := [.lit (.bool false)], args := [d1, d2] }
  | _ => none }
def FnExactLevelOfWrongFalsely : Prop := fnExactLevelOfRow.holds Try.pinned (OpenSpec.ofChange fnExactLevelOfWrong)

/-- 'laws.FnExactScreenLevel': WHATEVER THE INPUT: true; the input reads as it did. -/
def fnExactScreenLevelSpec : ChangeSpec := { name := "fnExactScreenLevel", fn := fun _ => fun
  | [d1, d2, d3, d4] => { results := [.lit (.bool true)], args := [d1, d2, d3, d4] }
  | _ => none }
def fnExactScreenLevelRow : OpenClaim := { program := "ytcebgcdhigonoaa", sum := "2de8c0e2fe46d407909f8c2e6afebeb6caf9505fe798624205ba413f350b9094", func := "loop.example/g03229/laws.FnExactScreenLevel", spec := "fnExactScreenLevel", plainKeys := false, apart := false }
def FnExactScreenLevelSaid : Prop := fnExactScreenLevelRow.holds Try.pinned (OpenSpec.ofChange fnExactScreenLevelSpec)

/-- ITS FALSE NEIGHBOUR: 'it returns false'. Refute it at one input. -/
def fnExactScreenLevelWrong : ChangeSpec := { name := "fnExactScreenLevel", fn := fun _ => fun
  | [d1, d2, d3, d4] => { results := [.lit (.bool false)], args := [d1, d2, d3, d4] }
  | _ => none }
def FnExactScreenLevelWrongFalsely : Prop := fnExactScreenLevelRow.holds Try.pinned (OpenSpec.ofChange fnExactScreenLevelWrong)

/-- 'laws.FnExactScreenPicture': WHATEVER THE INPUT: true; the input reads as it did. -/
def fnExactScreenPictureSpec : ChangeSpec := { name := "fnExactScreenPicture", fn := fun _ => fun
  | [d1, d2] => { results := [.lit (.bool true)], args := [d1, d2] }
  | _ => none }
def fnExactScreenPictureRow : OpenClaim := { program := "ytcebgcdhigonoaa", sum := "2de8c0e2fe46d407909f8c2e6afebeb6caf9505fe798624205ba413f350b9094", func := "loop.example/g03229/laws.FnExactScreenPicture", spec := "fnExactScreenPicture", plainKeys := false, apart := false }
def FnExactScreenPictureSaid : Prop := fnExactScreenPictureRow.holds Try.pinned (OpenSpec.ofChange fnExactScreenPictureSpec)

/-- ITS FALSE NEIGHBOUR: 'it returns false'. Refute it at one input. -/
def fnExactScreenPictureWrong : ChangeSpec := { name := "fnExactScreenPicture", fn := fun _ => fun
  | [d1, d2] => { results := [.lit (.bool false)], args := [d1, d2] }
  | _ => none }
def FnExactScreenPictureWrongFalsely : Prop := fnExactScreenPictureRow.holds Try.pinned (OpenSpec.ofChange fnExactScreenPictureWrong)

/-- 'laws.FnExactLevelsFor': WHATEVER THE INPUT: true; the input reads as it did. -/
def fnExactLevelsForSpec : ChangeSpec := { name := "fnExactLevelsFor", fn := fun _ => fun
  | [d1, d2] => { results := [.lit (.bool true)], args := [d1, d2] }
  | _ => none }
def fnExactLevelsForRow : OpenClaim := { program := "ytcebgcdhigonoaa", sum := "2de8c0e2fe46d407909f8c2e6afebeb6caf9505fe798624205ba413f350b9094", func := "loop.example/g03229/laws.FnExactLevelsFor", spec := "fnExactLevelsFor", plainKeys := false, apart := false }
def FnExactLevelsForSaid : Prop := fnExactLevelsForRow.holds Try.pinned (OpenSpec.ofChange fnExactLevelsForSpec)

/-- ITS FALSE NEIGHBOUR: 'it returns false'. Refute it at one input. -/
def fnExactLevelsForWrong : ChangeSpec := { name := "fnExactLevelsFor", fn := fun _ => fun
  | [d1, d2] => { results := [.lit (.bool false)], args := [d1, d2] }
  | _ => none }
def FnExactLevelsForWrongFalsely : Prop := fnExactLevelsForRow.holds Try.pinned (OpenSpec.ofChange fnExactLevelsForWrong)

/-- 'laws.FnExactTileSums': WHATEVER THE INPUT: true; the input reads as it did. -/
def fnExactTileSumsSpec : ChangeSpec := { name := "fnExactTileSums", fn := fun _ => fun
  | [d1, d2, d3] => { results := [.lit (.bool true)], args := [d1, d2, d3] }
  | _ => none }
def fnExactTileSumsRow : OpenClaim := { program := "ytcebgcdhigonoaa", sum := "2de8c0e2fe46d407909f8c2e6afebeb6caf9505fe798624205ba413f350b9094", func := "loop.example/g03229/laws.FnExactTileSums", spec := "fnExactTileSums", plainKeys := false, apart := false }
def FnExactTileSumsSaid : Prop := fnExactTileSumsRow.holds Try.pinned (OpenSpec.ofChange fnExactTileSumsSpec)

/-- ITS FALSE NEIGHBOUR: 'it returns false'. Refute it at one input. -/
def fnExactTileSumsWrong : ChangeSpec := { name := "fnExactTileSums", fn := fun _ => fun
  | [d1, d2, d3] => { results := [.lit (.bool false)], args := [d1, d2, d3] }
  | _ => none }
def FnExactTileSumsWrongFalsely : Prop := fnExactTileSumsRow.holds Try.pinned (OpenSpec.ofChange fnExactTileSumsWrong)

/-- 'laws.FnExactBlurPicture': WHATEVER THE INPUT: true; the input reads as it did. -/
def fnExactBlurPictureSpec : ChangeSpec := { name := "fnExactBlurPicture", fn := fun _ => fun
  | [d1, d2, d3] => { results := [.lit (.bool true)], args := [d1, d2, d3] }
  | _ => none }
def fnExactBlurPictureRow : OpenClaim := { program := "ytcebgcdhigonoaa", sum := "2de8c0e2fe46d407909f8c2e6afebeb6caf9505fe798624205ba413f350b9094", func := "loop.example/g03229/laws.FnExactBlurPicture", spec := "fnExactBlurPicture", plainKeys := false, apart := false }
def FnExactBlurPictureSaid : Prop := fnExactBlurPictureRow.holds Try.pinned (OpenSpec.ofChange fnExactBlurPictureSpec)

/-- ITS FALSE NEIGHBOUR: 'it returns false'. Refute it at one input. -/
def fnExactBlurPictureWrong : ChangeSpec := { name := "fnExactBlurPicture", fn := fun _ => fun
  | [d1, d2, d3] => { results := [.lit (.bool false)], args := [d1, d2, d3] }
  | _ => none }
def FnExactBlurPictureWrongFalsely : Prop := fnExactBlurPictureRow.holds Try.pinned (OpenSpec.ofChange fnExactBlurPictureWrong)

/-- 'laws.FnExactErrorOf': WHATEVER THE INPUT: true; the input reads as it did. -/
def fnExactErrorOfSpec : ChangeSpec := { name := "fnExactErrorOf", fn := fun _ => fun
  | [d1, d2] => { results := [.lit (.bool true)], args := [d1, d2] }
  | _ => none }
def fnExactErrorOfRow : OpenClaim := { program := "ytcebgcdhigonoaa", sum := "2de8c0e2fe46d407909f8c2e6afebeb6caf9505fe798624205ba413f350b9094", func := "loop.example/g03229/laws.FnExactErrorOf", spec := "fnExactErrorOf", plainKeys := false, apart := false }
def FnExactErrorOfSaid : Prop := fnExactErrorOfRow.holds Try.pinned (OpenSpec.ofChange fnExactErrorOfSpec)

/-- ITS FALSE NEIGHBOUR: 'it returns false'. Refute it at one input. -/
def fnExactErrorOfWrong : ChangeSpec := { name := "fnExactErrorOf", fn := fun _ => fun
  | [d1, d2] => { results := [.lit (.bool false)], args := [d1, d2] }
  | _ => none }
def FnExactErrorOfWrongFalsely : Prop := fnExactErrorOfRow.holds Try.pinned (OpenSpec.ofChange fnExactErrorOfWrong)

/-- 'laws.FnExactScreenShifted': WHATEVER THE INPUT: true; the input reads as it did. -/
def fnExactScreenShiftedSpec : ChangeSpec := { name := "fnExactScreenShifted", fn := fun _ => fun
  | [d1, d2, d3, d4] => { results := [.lit (.bool true)], args := [d1, d2, d3, d4] }
  | _ => none }
def fnExactScreenShiftedRow : OpenClaim := { program := "ytcebgcdhigonoaa", sum := "2de8c0e2fe46d407909f8c2e6afebeb6caf9505fe798624205ba413f350b9094", func := "loop.example/g03229/laws.FnExactScreenShifted", spec := "fnExactScreenShifted", plainKeys := false, apart := false }
def FnExactScreenShiftedSaid : Prop := fnExactScreenShiftedRow.holds Try.pinned (OpenSpec.ofChange fnExactScreenShiftedSpec)

/-- ITS FALSE NEIGHBOUR: 'it returns false'. Refute it at one input. -/
def fnExactScreenShiftedWrong : ChangeSpec := { name := "fnExactScreenShifted", fn := fun _ => fun
  | [d1, d2, d3, d4] => { results := [.lit (.bool false)], args := [d1, d2, d3, d4] }
  | _ => none }
def FnExactScreenShiftedWrongFalsely : Prop := fnExactScreenShiftedRow.holds Try.pinned (OpenSpec.ofChange fnExactScreenShiftedWrong)

/-- 'laws.FnExactAddPictures': WHATEVER THE INPUT: true; the input reads as it did. -/
def fnExactAddPicturesSpec : ChangeSpec := { name := "fnExactAddPictures", fn := fun _ => fun
  | [d1, d2] => { results := [.lit (.bool true)], args := [d1, d2] }
  | _ => none }
def fnExactAddPicturesRow : OpenClaim := { program := "ytcebgcdhigonoaa", sum := "2de8c0e2fe46d407909f8c2e6afebeb6caf9505fe798624205ba413f350b9094", func := "loop.example/g03229/laws.FnExactAddPictures", spec := "fnExactAddPictures", plainKeys := false, apart := false }
def FnExactAddPicturesSaid : Prop := fnExactAddPicturesRow.holds Try.pinned (OpenSpec.ofChange fnExactAddPicturesSpec)

/-- ITS FALSE NEIGHBOUR: 'it returns false'. Refute it at one input. -/
def fnExactAddPicturesWrong : ChangeSpec := { name := "fnExactAddPictures", fn := fun _ => fun
  | [d1, d2] => { results := [.lit (.bool false)], args := [d1, d2] }
  | _ => none }
def FnExactAddPicturesWrongFalsely : Prop := fnExactAddPicturesRow.holds Try.pinned (OpenSpec.ofChange fnExactAddPicturesWrong)

/-- 'laws.FnExactSpiralMatrix': WHATEVER THE INPUT: true; the input reads as it did. -/
def fnExactSpiralMatrixSpec : ChangeSpec := { name := "fnExactSpiralMatrix", fn := fun _ => fun
  | [d] => { results := [.lit (.bool true)], args := [d] }
  | _ => none }
def fnExactSpiralMatrixRow : OpenClaim := { program := "ytcebgcdhigonoaa", sum := "2de8c0e2fe46d407909f8c2e6afebeb6caf9505fe798624205ba413f350b9094", func := "loop.example/g03229/laws.FnExactSpiralMatrix", spec := "fnExactSpiralMatrix", plainKeys := false, apart := false }
def FnExactSpiralMatrixSaid : Prop := fnExactSpiralMatrixRow.holds Try.pinned (OpenSpec.ofChange fnExactSpiralMatrixSpec)

/-- ITS FALSE NEIGHBOUR: 'it returns false'. Refute it at one input. -/
def fnExactSpiralMatrixWrong : ChangeSpec := { name := "fnExactSpiralMatrix", fn := fun _ => fun
  | [d] => { results := [.lit (.bool false)], args := [d] }
  | _ => none }
def FnExactSpiralMatrixWrongFalsely : Prop := fnExactSpiralMatrixRow.holds Try.pinned (OpenSpec.ofChange fnExactSpiralMatrixWrong)

/-- 'laws.FnExactSpreadOf': WHATEVER THE INPUT: true; the input reads as it did. -/
def fnExactSpreadOfSpec : ChangeSpec := { name := "fnExactSpreadOf", fn := fun _ => fun
  | [d1, d2] => { results := [.lit (.bool true)], args := [d1, d2] }
  | _ => none }
def fnExactSpreadOfRow : OpenClaim := { program := "ytcebgcdhigonoaa", sum := "2de8c0e2fe46d407909f8c2e6afebeb6caf9505fe798624205ba413f350b9094", func := "loop.example/g03229/laws.FnExactSpreadOf", spec := "fnExactSpreadOf", plainKeys := false, apart := false }
def FnExactSpreadOfSaid : Prop := fnExactSpreadOfRow.holds Try.pinned (OpenSpec.ofChange fnExactSpreadOfSpec)

/-- ITS FALSE NEIGHBOUR: 'it returns false'. Refute it at one input. -/
def fnExactSpreadOfWrong : ChangeSpec := { name := "fnExactSpreadOf", fn := fun _ => fun
  | [d1, d2] => { results := [.lit (.bool false)], args := [d1, d2] }
  | _ => none }
def FnExactSpreadOfWrongFalsely : Prop := fnExactSpreadOfRow.holds Try.pinned (OpenSpec.ofChange fnExactSpreadOfWrong)

/- THE SECOND FORM. 'bulk': how many values and letters a reading holds, each counted each time it is reached (what is shared counts as often as it is met; a slice's spare places count too). A statement '..UptoSaid' is the law's where the arguments, and the package variables that the reading takes, are together of bulk at most 1048576: NARROWER than '..Said'. Prove '..Said' where nothing that the law and all that it calls make is longer than what came in: it says more and counts as full. Else prove '..UptoSaid'. A law counts once. -/
mutual
def uptoBulk {H : Type} : DataW H → Nat
  | .lit (.string bytes) => bytes.length + 1
  | .lit _ => 1
  | .nil => 1
  | .ptr d => uptoBulk d + 1
  | .slice elems spare => uptoBulkAll elems + uptoBulkAll spare + 1
  | .agg parts => uptoBulkAll parts + 1
  | .iface _ d => uptoBulk d + 1
  | .map entries => uptoBulkEntries entries + 1
  | .held _ => 1
def uptoBulkAll {H : Type} : List (DataW H) → Nat
  | [] => 0
  | d :: r => uptoBulk d + uptoBulkAll r
def uptoBulkEntries {H : Type} : List (Lit × DataW H) → Nat
  | [] => 0
  | x :: r => uptoBulkEntry x + uptoBulkEntries r
def uptoBulkEntry {H : Type} : Lit × DataW H → Nat
  | (.string bytes, d) => bytes.length + uptoBulk d + 1
  | (_, d) => uptoBulk d + 1
 end
def uptoSmall : (H : Type) → List (DataW H) → Bool := fun _ ds => decide (uptoBulkAll ds ≤ 1048576)
def OpenSpec.upto (s : _root_.Go.ChangeSpec) : _root_.Go.OpenSpec := { _root_.Go.OpenSpec.ofChange s with cond := some uptoSmall }

/-- 'laws.FnExactLevelOf', WHERE WHAT IT READS IS OF BULK AT MOST 1048576: true; the input reads as it did. -/
def fnExactLevelOfUptoRow : OpenClaim := { program := "ytcebgcdhigonoaa", sum := "2de8c0e2fe46d407909f8c2e6afebeb6caf9505fe798624205ba413f350b9094", func := "loop.example/g03229/laws.FnExactLevelOf", spec := "fnExactLevelOf", plainKeys := false, apart := false, narrowed := true }
def FnExactLevelOfUptoSaid : Prop := fnExactLevelOfUptoRow.holds Try.pinned (OpenSpec.upto fnExactLevelOfSpec)

/-- 'laws.FnExactScreenLevel', WHERE WHAT IT READS IS OF BULK AT MOST 1048576: true; the input reads as it did. -/
def fnExactScreenLevelUptoRow : OpenClaim := { program := "ytcebgcdhigonoaa", sum := "2de8c0e2fe46d407909f8c2e6afebeb6caf9505fe798624205ba413f350b9094", func := "loop.example/g03229/laws.FnExactScreenLevel", spec := "fnExactScreenLevel", plainKeys := false, apart := false, narrowed := true }
def FnExactScreenLevelUptoSaid : Prop := fnExactScreenLevelUptoRow.holds Try.pinned (OpenSpec.upto fnExactScreenLevelSpec)

/-- 'laws.FnExactScreenPicture', WHERE WHAT IT READS IS OF BULK AT MOST 1048576: true; the input reads as it did. -/
def fnExactScreenPictureUptoRow : OpenClaim := { program := "ytcebgcdhigonoaa", sum := "2de8c0e2fe46d407909f8c2e6afebeb6caf9505fe798624205ba413f350b9094", func := "loop.example/g03229/laws.FnExactScreenPicture", spec := "fnExactScreenPicture", plainKeys := false, apart := false, narrowed := true }
def FnExactScreenPictureUptoSaid : Prop := fnExactScreenPictureUptoRow.holds Try.pinned (OpenSpec.upto fnExactScreenPictureSpec)

/-- 'laws.FnExactLevelsFor', WHERE WHAT IT READS IS OF BULK AT MOST 1048576: true; the input reads as it did. -/
def fnExactLevelsForUptoRow : OpenClaim := { program := "ytcebgcdhigonoaa", sum := "2de8c0e2fe46d407909f8c2e6afebeb6caf9505fe798624205ba413f350b9094", func := "loop.example/g03229/laws.FnExactLevelsFor", spec := "fnExactLevelsFor", plainKeys := false, apart := false, narrowed := true }
def FnExactLevelsForUptoSaid : Prop := fnExactLevelsForUptoRow.holds Try.pinned (OpenSpec.upto fnExactLevelsForSpec)

/-- 'laws.FnExactTileSums', WHERE WHAT IT READS IS OF BULK AT MOST 1048576: true; the input reads as it did. -/
def fnExactTileSumsUptoRow : OpenClaim := { program := "ytcebgcdhigonoaa", sum := "2de8c0e2fe46d407909f8c2e6afebeb6caf9505fe798624205ba413f350b9094", func := "loop.example/g03229/laws.FnExactTileSums", spec := "fnExactTileSums", plainKeys := false, apart := false, narrowed := true }
def FnExactTileSumsUptoSaid : Prop := fnExactTileSumsUptoRow.holds Try.pinned (OpenSpec.upto fnExactTileSumsSpec)

/-- 'laws.FnExactBlurPicture', WHERE WHAT IT READS IS OF BULK AT MOST 1048576: true; the input reads as it did. -/
def fnExactBlurPictureUptoRow : OpenClaim := { program := "ytcebgcdhigonoaa", sum := "2de8c0e2fe46d407909f8c2e6afebeb6caf9505fe798624205ba413f350b9094", func := "loop.example/g03229/laws.FnExactBlurPicture", spec := "fnExactBlurPicture", plainKeys := false, apart := false, narrowed := true }
def FnExactBlurPictureUptoSaid : Prop := fnExactBlurPictureUptoRow.holds Try.pinned (OpenSpec.upto fnExactBlurPictureSpec)

/-- 'laws.FnExactErrorOf', WHERE WHAT IT READS IS OF BULK AT MOST 1048576: true; the input reads as it did. -/
def fnExactErrorOfUptoRow : OpenClaim := { program := "ytcebgcdhigonoaa", sum := "2de8c0e2fe46d407909f8c2e6afebeb6caf9505fe798624205ba413f350b9094", func := "loop.example/g03229/laws.FnExactErrorOf", spec := "fnExactErrorOf", plainKeys := false, apart := false, narrowed := true }
def FnExactErrorOfUptoSaid : Prop := fnExactErrorOfUptoRow.holds Try.pinned (OpenSpec.upto fnExactErrorOfSpec)

/-- 'laws.FnExactScreenShifted', WHERE WHAT IT READS IS OF BULK AT MOST 1048576: true; the input reads as it did. -/
def fnExactScreenShiftedUptoRow : OpenClaim := { program := "ytcebgcdhigonoaa", sum := "2de8c0e2fe46d407909f8c2e6afebeb6caf9505fe798624205ba413f350b9094", func := "loop.example/g03229/laws.FnExactScreenShifted", spec := "fnExactScreenShifted", plainKeys := false, apart := false, narrowed := true }
def FnExactScreenShiftedUptoSaid : Prop := fnExactScreenShiftedUptoRow.holds Try.pinned (OpenSpec.upto fnExactScreenShiftedSpec)

/-- 'laws.FnExactAddPictures', WHERE WHAT IT READS IS OF BULK AT MOST 1048576: true; the input reads as it did. -/
def fnExactAddPicturesUptoRow : OpenClaim := { program := "ytcebgcdhigonoaa", sum := "2de8c0e2fe46d407909f8c2e6afebeb6caf9505fe798624205ba413f350b9094", func := "loop.example/g03229/laws.FnExactAddPictures", spec := "fnExactAddPictures", plainKeys := false, apart := false, narrowed := true }
def FnExactAddPicturesUptoSaid : Prop := fnExactAddPicturesUptoRow.holds Try.pinned (OpenSpec.upto fnExactAddPicturesSpec)

/-- 'laws.FnExactSpiralMatrix', WHERE WHAT IT READS IS OF BULK AT MOST 1048576: true; the input reads as it did. -/
def fnExactSpiralMatrixUptoRow : OpenClaim := { program := "ytcebgcdhigonoaa", sum := "2de8c0e2fe46d407909f8c2e6afebeb6caf9505fe798624205ba413f350b9094", func := "loop.example/g03229/laws.FnExactSpiralMatrix", spec := "fnExactSpiralMatrix", plainKeys := false, apart := false, narrowed := true }
def FnExactSpiralMatrixUptoSaid : Prop := fnExactSpiralMatrixUptoRow.holds Try.pinned (OpenSpec.upto fnExactSpiralMatrixSpec)

/-- 'laws.FnExactSpreadOf', WHERE WHAT IT READS IS OF BULK AT MOST 1048576: true; the input reads as it did. -/
def fnExactSpreadOfUptoRow : OpenClaim := { program := "ytcebgcdhigonoaa", sum := "2de8c0e2fe46d407909f8c2e6afebeb6caf9505fe798624205ba413f350b9094", func := "loop.example/g03229/laws.FnExactSpreadOf", spec := "fnExactSpreadOf", plainKeys := false, apart := false, narrowed := true }
def FnExactSpreadOfUptoSaid : Prop := fnExactSpreadOfUptoRow.holds Try.pinned (OpenSpec.upto fnExactSpreadOfSpec)

end Rows
end Go.Proofs.Ytcebgcdhigonoaa
