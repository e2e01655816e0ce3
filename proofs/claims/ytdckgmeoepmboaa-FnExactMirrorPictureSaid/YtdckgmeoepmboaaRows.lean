/-
  No cell of these rows narrows 'for every input' (looked for: loops, veiled, ifaces, maps, wideKeys, modest, calm, conditions, laid).
  DERIVED. THE GIVEN ROWS OF THIS SEAT. 12 by the template 'for every input the law returns true; each argument reads behind the call as it read before'; 0 by the template 'total and deterministic' (their statements: YtdckgmeoepmboaaTotals.lean).
  GIVEN WITH THE SEED: the statements are not yours to turn. If you find one false, say at which input.
  Laid BY PROGRAM, IN A SANDBOX (cutbox-rows.mjs): the forced cells as the released guide's own fill.sh prints them over the translation eeb4d54e5a8b0958… (all of the seat's roots in one cut). By AI agents, Wed Nov 11 2026. No macro, syntax, notation, axiom, sorry.
-/
import Derived.Test.YtdckgmeoepmboaaChecked
import GoSem.Claim
import GoSem.ClaimJoined
import GoSem.ClaimMapViews
import Derived.JoinedTies
import Derived.KernelRfl
namespace Go.Proofs.Ytdckgmeoepmboaa
/- THE CELL 'sum', in the pinned program and in every row, IS THE sha256 OF THE DUMP (.gsa) THAT YtdckgmeoepmboaaProg.lean LOADS. Nothing in Lean hashes anything: it is a label: what it is worth is what the hold of that sum in a sandbox is worth. -/
noncomputable def Try.pinned : Pinned := { name := "ytdckgmeoepmboaa", sum := "eeb4d54e5a8b09589158a9e998521ae9939383219ffd2c1c3ec0cd305ea3105d", checked := Try.checked }
namespace Rows
def none {H : Type} : Left H := { results := [], args := [] }

/-- 'laws.FnTurned': WHATEVER THE INPUT: true; the input reads as it did. -/
def fnTurnedSpec : ChangeSpec := { name := "fnTurned", fn := fun _ => fun
  | [d] => { results := [.lit (.bool true)], args := [d] }
  | _ => none }
def fnTurnedRow : OpenClaim := { program := "ytdckgmeoepmboaa", sum := "eeb4d54e5a8b09589158a9e998521ae9939383219ffd2c1c3ec0cd305ea3105d", func := "loop.example/g03229/laws.FnTurned", spec := "fnTurned", apart := false }
def FnTurnedSaid : Prop := fnTurnedRow.holds Try.pinned (OpenSpec.ofChange fnTurnedSpec)

/-- ITS FALSE NEIGHBOUR: 'it returns false'. Refute it at one input. -/
def fnTurnedWrong : ChangeSpec := { name := "fnTurned", fn := fun _ => fun
  | [d] => { results := [.lit (.bool false)], args := [d] }
  | _ => none }
def FnTurnedWrongFalsely : Prop := fnTurnedRow.holds Try.pinned (OpenSpec.ofChange fnTurnedWrong)

/-- 'laws.FnNegative': WHATEVER THE INPUT: true; the input reads as it did. -/
def fnNegativeSpec : ChangeSpec := { name := "fnNegative", fn := fun _ => fun
  | [d] => { results := [.lit (.bool true)], args := [d] }
  | _ => none }
def fnNegativeRow : OpenClaim := { program := "ytdckgmeoepmboaa", sum := "eeb4d54e5a8b09589158a9e998521ae9939383219ffd2c1c3ec0cd305ea3105d", func := "loop.example/g03229/laws.FnNegative", spec := "fnNegative", apart := false }
def FnNegativeSaid : Prop := fnNegativeRow.holds Try.pinned (OpenSpec.ofChange fnNegativeSpec)

/-- ITS FALSE NEIGHBOUR: 'it returns false'. Refute it at one input. -/
def fnNegativeWrong : ChangeSpec := { name := "fnNegative", fn := fun _ => fun
  | [d] => { results := [.lit (.bool false)], args := [d] }
  | _ => none }
def FnNegativeWrongFalsely : Prop := fnNegativeRow.holds Try.pinned (OpenSpec.ofChange fnNegativeWrong)

/-- 'laws.FnTiled': WHATEVER THE INPUT: true; the input reads as it did. -/
def fnTiledSpec : ChangeSpec := { name := "fnTiled", fn := fun _ => fun
  | [d] => { results := [.lit (.bool true)], args := [d] }
  | _ => none }
def fnTiledRow : OpenClaim := { program := "ytdckgmeoepmboaa", sum := "eeb4d54e5a8b09589158a9e998521ae9939383219ffd2c1c3ec0cd305ea3105d", func := "loop.example/g03229/laws.FnTiled", spec := "fnTiled", apart := false }
def FnTiledSaid : Prop := fnTiledRow.holds Try.pinned (OpenSpec.ofChange fnTiledSpec)

/-- ITS FALSE NEIGHBOUR: 'it returns false'. Refute it at one input. -/
def fnTiledWrong : ChangeSpec := { name := "fnTiled", fn := fun _ => fun
  | [d] => { results := [.lit (.bool false)], args := [d] }
  | _ => none }
def FnTiledWrongFalsely : Prop := fnTiledRow.holds Try.pinned (OpenSpec.ofChange fnTiledWrong)

/-- 'laws.FnCovered': WHATEVER THE INPUT: true; the input reads as it did. -/
def fnCoveredSpec : ChangeSpec := { name := "fnCovered", fn := fun _ => fun
  | [d] => { results := [.lit (.bool true)], args := [d] }
  | _ => none }
def fnCoveredRow : OpenClaim := { program := "ytdckgmeoepmboaa", sum := "eeb4d54e5a8b09589158a9e998521ae9939383219ffd2c1c3ec0cd305ea3105d", func := "loop.example/g03229/laws.FnCovered", spec := "fnCovered", apart := false }
def FnCoveredSaid : Prop := fnCoveredRow.holds Try.pinned (OpenSpec.ofChange fnCoveredSpec)

/-- ITS FALSE NEIGHBOUR: 'it returns false'. Refute it at one input. -/
def fnCoveredWrong : ChangeSpec := { name := "fnCovered", fn := fun _ => fun
  | [d] => { results := [.lit (.bool false)], args := [d] }
  | _ => none }
def FnCoveredWrongFalsely : Prop := fnCoveredRow.holds Try.pinned (OpenSpec.ofChange fnCoveredWrong)

/-- 'laws.FnExactIsPicture': WHATEVER THE INPUT: true; the input reads as it did. -/
def fnExactIsPictureSpec : ChangeSpec := { name := "fnExactIsPicture", fn := fun _ => fun
  | [d] => { results := [.lit (.bool true)], args := [d] }
  | _ => none }
def fnExactIsPictureRow : OpenClaim := { program := "ytdckgmeoepmboaa", sum := "eeb4d54e5a8b09589158a9e998521ae9939383219ffd2c1c3ec0cd305ea3105d", func := "loop.example/g03229/laws.FnExactIsPicture", spec := "fnExactIsPicture", apart := false }
def FnExactIsPictureSaid : Prop := fnExactIsPictureRow.holds Try.pinned (OpenSpec.ofChange fnExactIsPictureSpec)

/-- ITS FALSE NEIGHBOUR: 'it returns false'. Refute it at one input. -/
def fnExactIsPictureWrong : ChangeSpec := { name := "fnExactIsPicture", fn := fun _ => fun
  | [d] => { results := [.lit (.bool false)], args := [d] }
  | _ => none }
def FnExactIsPictureWrongFalsely : Prop := fnExactIsPictureRow.holds Try.pinned (OpenSpec.ofChange fnExactIsPictureWrong)

/-- 'laws.FnExactIsPlate': WHATEVER THE INPUT: true; the input reads as it did. -/
def fnExactIsPlateSpec : ChangeSpec := { name := "fnExactIsPlate", fn := fun _ => fun
  | [d] => { results := [.lit (.bool true)], args := [d] }
  | _ => none }
def fnExactIsPlateRow : OpenClaim := { program := "ytdckgmeoepmboaa", sum := "eeb4d54e5a8b09589158a9e998521ae9939383219ffd2c1c3ec0cd305ea3105d", func := "loop.example/g03229/laws.FnExactIsPlate", spec := "fnExactIsPlate", apart := false }
def FnExactIsPlateSaid : Prop := fnExactIsPlateRow.holds Try.pinned (OpenSpec.ofChange fnExactIsPlateSpec)

/-- ITS FALSE NEIGHBOUR: 'it returns false'. Refute it at one input. -/
def fnExactIsPlateWrong : ChangeSpec := { name := "fnExactIsPlate", fn := fun _ => fun
  | [d] => { results := [.lit (.bool false)], args := [d] }
  | _ => none }
def FnExactIsPlateWrongFalsely : Prop := fnExactIsPlateRow.holds Try.pinned (OpenSpec.ofChange fnExactIsPlateWrong)

/-- 'laws.FnExactInkAt': WHATEVER THE INPUT: true; the input reads as it did. -/
def fnExactInkAtSpec : ChangeSpec := { name := "fnExactInkAt", fn := fun _ => fun
  | [d1, d2, d3] => { results := [.lit (.bool true)], args := [d1, d2, d3] }
  | _ => none }
def fnExactInkAtRow : OpenClaim := { program := "ytdckgmeoepmboaa", sum := "eeb4d54e5a8b09589158a9e998521ae9939383219ffd2c1c3ec0cd305ea3105d", func := "loop.example/g03229/laws.FnExactInkAt", spec := "fnExactInkAt", apart := false }
def FnExactInkAtSaid : Prop := fnExactInkAtRow.holds Try.pinned (OpenSpec.ofChange fnExactInkAtSpec)

/-- ITS FALSE NEIGHBOUR: 'it returns false'. Refute it at one input. -/
def fnExactInkAtWrong : ChangeSpec := { name := "fnExactInkAt", fn := fun _ => fun
  | [d1, d2, d3] => { results := [.lit (.bool false)], args := [d1, d2, d3] }
  | _ => none }
def FnExactInkAtWrongFalsely : Prop := fnExactInkAtRow.holds Try.pinned (OpenSpec.ofChange fnExactInkAtWrong)

/-- 'laws.FnExactFlatPicture': WHATEVER THE INPUT: true; the input reads as it did. -/
def fnExactFlatPictureSpec : ChangeSpec := { name := "fnExactFlatPicture", fn := fun _ => fun
  | [d1, d2, d3] => { results := [.lit (.bool true)], args := [d1, d2, d3] }
  | _ => none }
def fnExactFlatPictureRow : OpenClaim := { program := "ytdckgmeoepmboaa", sum := "eeb4d54e5a8b09589158a9e998521ae9939383219ffd2c1c3ec0cd305ea3105d", func := "loop.example/g03229/laws.FnExactFlatPicture", spec := "fnExactFlatPicture", apart := false }
def FnExactFlatPictureSaid : Prop := fnExactFlatPictureRow.holds Try.pinned (OpenSpec.ofChange fnExactFlatPictureSpec)

/-- ITS FALSE NEIGHBOUR: 'it returns false'. Refute it at one input. -/
def fnExactFlatPictureWrong : ChangeSpec := { name := "fnExactFlatPicture", fn := fun _ => fun
  | [d1, d2, d3] => { results := [.lit (.bool false)], args := [d1, d2, d3] }
  | _ => none }
def FnExactFlatPictureWrongFalsely : Prop := fnExactFlatPictureRow.holds Try.pinned (OpenSpec.ofChange fnExactFlatPictureWrong)

/-- 'laws.FnExactRampPicture': WHATEVER THE INPUT: true; the input reads as it did. -/
def fnExactRampPictureSpec : ChangeSpec := { name := "fnExactRampPicture", fn := fun _ => fun
  | [d1, d2] => { results := [.lit (.bool true)], args := [d1, d2] }
  | _ => none }
def fnExactRampPictureRow : OpenClaim := { program := "ytdckgmeoepmboaa", sum := "eeb4d54e5a8b09589158a9e998521ae9939383219ffd2c1c3ec0cd305ea3105d", func := "loop.example/g03229/laws.FnExactRampPicture", spec := "fnExactRampPicture", apart := false }
def FnExactRampPictureSaid : Prop := fnExactRampPictureRow.holds Try.pinned (OpenSpec.ofChange fnExactRampPictureSpec)

/-- ITS FALSE NEIGHBOUR: 'it returns false'. Refute it at one input. -/
def fnExactRampPictureWrong : ChangeSpec := { name := "fnExactRampPicture", fn := fun _ => fun
  | [d1, d2] => { results := [.lit (.bool false)], args := [d1, d2] }
  | _ => none }
def FnExactRampPictureWrongFalsely : Prop := fnExactRampPictureRow.holds Try.pinned (OpenSpec.ofChange fnExactRampPictureWrong)

/-- 'laws.FnExactSumInk': WHATEVER THE INPUT: true; the input reads as it did. -/
def fnExactSumInkSpec : ChangeSpec := { name := "fnExactSumInk", fn := fun _ => fun
  | [d] => { results := [.lit (.bool true)], args := [d] }
  | _ => none }
def fnExactSumInkRow : OpenClaim := { program := "ytdckgmeoepmboaa", sum := "eeb4d54e5a8b09589158a9e998521ae9939383219ffd2c1c3ec0cd305ea3105d", func := "loop.example/g03229/laws.FnExactSumInk", spec := "fnExactSumInk", apart := false }
def FnExactSumInkSaid : Prop := fnExactSumInkRow.holds Try.pinned (OpenSpec.ofChange fnExactSumInkSpec)

/-- ITS FALSE NEIGHBOUR: 'it returns false'. Refute it at one input. -/
def fnExactSumInkWrong : ChangeSpec := { name := "fnExactSumInk", fn := fun _ => fun
  | [d] => { results := [.lit (.bool false)], args := [d] }
  | _ => none }
def FnExactSumInkWrongFalsely : Prop := fnExactSumInkRow.holds Try.pinned (OpenSpec.ofChange fnExactSumInkWrong)

/-- 'laws.FnExactCountInk': WHATEVER THE INPUT: true; the input reads as it did. -/
def fnExactCountInkSpec : ChangeSpec := { name := "fnExactCountInk", fn := fun _ => fun
  | [d1, d2] => { results := [.lit (.bool true)], args := [d1, d2] }
  | _ => none }
def fnExactCountInkRow : OpenClaim := { program := "ytdckgmeoepmboaa", sum := "eeb4d54e5a8b09589158a9e998521ae9939383219ffd2c1c3ec0cd305ea3105d", func := "loop.example/g03229/laws.FnExactCountInk", spec := "fnExactCountInk", apart := false }
def FnExactCountInkSaid : Prop := fnExactCountInkRow.holds Try.pinned (OpenSpec.ofChange fnExactCountInkSpec)

/-- ITS FALSE NEIGHBOUR: 'it returns false'. Refute it at one input. -/
def fnExactCountInkWrong : ChangeSpec := { name := "fnExactCountInk", fn := fun _ => fun
  | [d1, d2] => { results := [.lit (.bool false)], args := [d1, d2] }
  | _ => none }
def FnExactCountInkWrongFalsely : Prop := fnExactCountInkRow.holds Try.pinned (OpenSpec.ofChange fnExactCountInkWrong)

/-- 'laws.FnExactMirrorPicture': WHATEVER THE INPUT: true; the input reads as it did. -/
def fnExactMirrorPictureSpec : ChangeSpec := { name := "fnExactMirrorPicture", fn := fun _ => fun
  | [d] => { results := [.lit (.bool true)], args := [d] }
  | _ => none }
def fnExactMirrorPictureRow : OpenClaim := { program := "ytdckgmeoepmboaa", sum := "eeb4d54e5a8b09589158a9e998521ae9939383219ffd2c1c3ec0cd305ea3105d", func := "loop.example/g03229/laws.FnExactMirrorPicture", spec := "fnExactMirrorPicture", apart := false }
def FnExactMirrorPictureSaid : Prop := fnExactMirrorPictureRow.holds Try.pinned (OpenSpec.ofChange fnExactMirrorPictureSpec)

/-- ITS FALSE NEIGHBOUR: 'it returns false'. Refute it at one input. -/
def fnExactMirrorPictureWrong : ChangeSpec := { name := "fnExactMirrorPicture", fn := fun _ => fun
  | [d] => { results := [.lit (.bool false)], args := [d] }
  | _ => none }
def FnExactMirrorPictureWrongFalsely : Prop := fnExactMirrorPictureRow.holds Try.pinned (OpenSpec.ofChange fnExactMirrorPictureWrong)

/- THE SECOND FORM. 'bulk': how many values and letters a reading holds, each counted each time it is reached (what is shared counts as often as it is met; a slice's spare places count too). A statement '..UptoSaid' is the law's where the arguments, and the package variables that the reading takes, are together of bulk at most 1048576: NARROWER than '..Said'. Prove '..Said' where nothing that the law and all that it calls make is longer than what came in: it says more and counts as full. Else prove '..UptoSaid'. A law counts once. -/
mutual
def uptoBulk {H : Type} : DataW H → Nat
  | .lit (.string bytes) => bytes.length + 1
  | .lit _ => 1
  | .nil => 1
  | .ptr d => uptoBulk d + 1
  | .slice elems spare => uptoBulkAll elems + uptoBulkAll spare + 1
  | .agg parts => uptoBulkAll parts + 1
  | .iface _ d => uptoBulk d + 1
  | .map entries => uptoBulkEntries entries + 1
  | .held _ => 1
def uptoBulkAll {H : Type} : List (DataW H) → Nat
  | [] => 0
  | d :: r => uptoBulk d + uptoBulkAll r
def uptoBulkEntries {H : Type} : List (Lit × DataW H) → Nat
  | [] => 0
  | x :: r => uptoBulkEntry x + uptoBulkEntries r
def uptoBulkEntry {H : Type} : Lit × DataW H → Nat
  | (.string bytes, d) => bytes.length + uptoBulk d + 1
  | (_, d) => uptoBulk d + 1
 end
def uptoSmall : (H : Type) → List (DataW H) → Bool := fun _ ds => decide (uptoBulkAll ds ≤ 1048576)
def OpenSpec.upto (s : _root_.Go.ChangeSpec) : _root_.Go.OpenSpec := { _root_.Go.OpenSpec.ofChange s with cond := some uptoSmall }

/-- 'laws.FnTurned', WHERE WHAT IT READS IS OF BULK AT MOST 1048576: true; the input reads as it did. -/
def fnTurnedUptoRow : OpenClaim := { program := "ytdckgmeoepmboaa", sum := "eeb4d54e5a8b09589158a9e998521ae9939383219ffd2c1c3ec0cd305ea3105d", func := "loop.example/g03229/laws.FnTurned", spec := "fnTurned", apart := false, narrowed := true }
def FnTurnedUptoSaid : Prop := fnTurnedUptoRow.holds Try.pinned (OpenSpec.upto fnTurnedSpec)

/-- 'laws.FnNegative', WHERE WHAT IT READS IS OF BULK AT MOST 1048576: true; the input reads as it did. -/
def fnNegativeUptoRow : OpenClaim := { program := "ytdckgmeoepmboaa", sum := "eeb4d54e5a8b09589158a9e998521ae9939383219ffd2c1c3ec0cd305ea3105d", func := "loop.example/g03229/laws.FnNegative", spec := "fnNegative", apart := false, narrowed := true }
def FnNegativeUptoSaid : Prop := fnNegativeUptoRow.holds Try.pinned (OpenSpec.upto fnNegativeSpec)

/-- 'laws.FnTiled', WHERE WHAT IT READS IS OF BULK AT MOST 1048576: true; the input reads as it did. -/
def fnTiledUptoRow : OpenClaim := { program := "ytdckgmeoepmboaa", sum := "eeb4d54e5a8b09589158a9e998521ae9939383219ffd2c1c3ec0cd305ea3105d", func := "loop.example/g03229/laws.FnTiled", spec := "fnTiled", apart := false, narrowed := true }
def FnTiledUptoSaid : Prop := fnTiledUptoRow.holds Try.pinned (OpenSpec.upto fnTiledSpec)

/-- 'laws.FnCovered', WHERE WHAT IT READS IS OF BULK AT MOST 1048576: true; the input reads as it did. -/
def fnCoveredUptoRow : OpenClaim := { program := "ytdckgmeoepmboaa", sum := "eeb4d54e5a8b09589158a9e998521ae9939383219ffd2c1c3ec0cd305ea3105d", func := "loop.example/g03229/laws.FnCovered", spec := "fnCovered", apart := false, narrowed := true }
def FnCoveredUptoSaid : Prop := fnCoveredUptoRow.holds Try.pinned (OpenSpec.upto fnCoveredSpec)

/-- 'laws.FnExactIsPicture', WHERE WHAT IT READS IS OF BULK AT MOST 1048576: true; the input reads as it did. -/
def fnExactIsPictureUptoRow : OpenClaim := { program := "ytdckgmeoepmboaa", sum := "eeb4d54e5a8b09589158a9e998521ae9939383219ffd2c1c3ec0cd305ea3105d", func := "loop.example/g03229/laws.FnExactIsPicture", spec := "fnExactIsPicture", apart := false, narrowed := true }
def FnExactIsPictureUptoSaid : Prop := fnExactIsPictureUptoRow.holds Try.pinned (OpenSpec.upto fnExactIsPictureSpec)

/-- 'laws.FnExactIsPlate', WHERE WHAT IT READS IS OF BULK AT MOST 1048576: true; the input reads as it did. -/
def fnExactIsPlateUptoRow : OpenClaim := { program := "ytdckgmeoepmboaa", sum := "eeb4d54e5a8b09589158a9e998521ae9939383219ffd2c1c3ec0cd305ea3105d", func := "loop.example/g03229/laws.FnExactIsPlate", spec := "fnExactIsPlate", apart := false, narrowed := true }
def FnExactIsPlateUptoSaid : Prop := fnExactIsPlateUptoRow.holds Try.pinned (OpenSpec.upto fnExactIsPlateSpec)

/-- 'laws.FnExactInkAt', WHERE WHAT IT READS IS OF BULK AT MOST 1048576: true; the input reads as it did. -/
def fnExactInkAtUptoRow : OpenClaim := { program := "ytdckgmeoepmboaa", sum := "eeb4d54e5a8b09589158a9e998521ae9939383219ffd2c1c3ec0cd305ea3105d", func := "loop.example/g03229/laws.FnExactInkAt", spec := "fnExactInkAt", apart := false, narrowed := true }
def FnExactInkAtUptoSaid : Prop := fnExactInkAtUptoRow.holds Try.pinned (OpenSpec.upto fnExactInkAtSpec)

/-- 'laws.FnExactFlatPicture', WHERE WHAT IT READS IS OF BULK AT MOST 1048576: true; the input reads as it did. -/
def fnExactFlatPictureUptoRow : OpenClaim := { program := "ytdckgmeoepmboaa", sum := "eeb4d54e5a8b09589158a9e998521ae9939383219ffd2c1c3ec0cd305ea3105d", func := "loop.example/g03229/laws.FnExactFlatPicture", spec := "fnExactFlatPicture", apart := false, narrowed := true }
def FnExactFlatPictureUptoSaid : Prop := fnExactFlatPictureUptoRow.holds Try.pinned (OpenSpec.upto fnExactFlatPictureSpec)

/-- 'laws.FnExactRampPicture', WHERE WHAT IT READS IS OF BULK AT MOST 1048576: true; the input reads as it did. -/
def fnExactRampPictureUptoRow : OpenClaim := { program := "ytdckgmeoepmboaa", sum := "eeb4d54e5a8b09589158a9e998521ae9939383219ffd2c1c3ec0cd305ea3105d", func := "loop.example/g03229/laws.FnExactRampPicture", spec := "fnExactRampPicture", apart := false, narrowed := true }
def FnExactRampPictureUptoSaid : Prop := fnExactRampPictureUptoRow.holds Try.pinned (OpenSpec.upto fnExactRampPictureSpec)

/-- 'laws.FnExactSumInk', WHERE WHAT IT READS IS OF BULK AT MOST 1048576: true; the input reads as it did. -/
def fnExactSumInkUptoRow : OpenClaim := { program := "ytdckgmeoepmboaa", sum := "eeb4d54e5a8b09589158a9e998521ae9939383219ffd2c1c3ec0cd305ea3105d", func := "loop.example/g03229/laws.FnExactSumInk", spec := "fnExactSumInk", apart := false, narrowed := true }
def FnExactSumInkUptoSaid : Prop := fnExactSumInkUptoRow.holds Try.pinned (OpenSpec.upto fnExactSumInkSpec)

/-- 'laws.FnExactCountInk', WHERE WHAT IT READS IS OF BULK AT MOST 1048576: true; the input reads as it did. -/
def fnExactCountInkUptoRow : OpenClaim := { program := "ytdckgmeoepmboaa", sum := "eeb4d54e5a8b09589158a9e998521ae9939383219ffd2c1c3ec0cd305ea3105d", func := "loop.example/g03229/laws.FnExactCountInk", spec := "fnExactCountInk", apart := false, narrowed := true }
def FnExactCountInkUptoSaid : Prop := fnExactCountInkUptoRow.holds Try.pinned (OpenSpec.upto fnExactCountInkSpec)

/-- 'laws.FnExactMirrorPicture', WHERE WHAT IT READS IS OF BULK AT MOST 1048576: true; the input reads as it did. -/
def fnExactMirrorPictureUptoRow : OpenClaim := { program := "ytdckgmeoepmboaa", sum := "eeb4d54e5a8b09589158a9e998521ae9939383219ffd2c1c3ec0cd305ea3105d", func := "loop.example/g03229/laws.FnExactMirrorPicture", spec := "fnExactMirrorPicture", apart := false, narrowed := true }
def FnExactMirrorPictureUptoSaid : Prop := fnExactMirrorPictureUptoRow.holds Try.pinned (OpenSpec.upto fnExactMirrorPictureSpec)

end Rows
end Go.Proofs.Ytdckgmeoepmboaa
