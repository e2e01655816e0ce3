/-
  No cell of these rows narrows 'for every input' (looked for: loops, veiled, ifaces, maps, wideKeys, modest, calm, conditions, laid).
  DERIVED. THE GIVEN ROWS OF THIS SEAT. 12 by the template 'for every input the law returns true; each argument reads behind the call as it read before'; 0 by the template 'total and deterministic' (their statements: YticlkjlfnkmjcaaTotals.lean).
  GIVEN WITH THE SEED: the statements are not yours to turn. If you find one false, say at which input.
  Laid BY PROGRAM, IN A SANDBOX (cutbox-rows.mjs): the forced cells as the released guide's own fill.sh prints them over the translation ddc21916ce7b12d9… (all of the seat's roots in one cut). By AI agents, Wed Nov 11 2026. No macro, syntax, notation, axiom, sorry.
-/
import Derived.Test.YticlkjlfnkmjcaaChecked
import GoSem.Claim
import GoSem.ClaimJoined
import GoSem.ClaimMapViews
import Derived.JoinedTies
import Derived.KernelRfl
namespace Go.Proofs.Yticlkjlfnkmjcaa
/- THE CELL 'sum', in the pinned program and in every row, IS THE sha256 OF THE DUMP (.gsa) THAT YticlkjlfnkmjcaaProg.lean LOADS. Nothing in Lean hashes anything: it is a label: what it is worth is what the hold of that sum in a sandbox is worth. -/
noncomputable def Try.pinned : Pinned := { name := "yticlkjlfnkmjcaa", sum := "ddc21916ce7b12d91ed058e0374a4b88fb6beca21e947235cb6302102e9adb4a", checked := Try.checked }
namespace Rows
def none {H : Type} : Left H := { results := [], args := [] }

/-- 'laws.FnExactIsMatrix': WHATEVER THE INPUT: true; the input reads as it did. -/
def fnExactIsMatrixSpec : ChangeSpec := { name := "fnExactIsMatrix", fn := fun _ => fun
  | [d] => { results := [.lit (.bool true)], args := [d] }
  | _ => none }
def fnExactIsMatrixRow : OpenClaim := { program := "yticlkjlfnkmjcaa", sum := "ddc21916ce7b12d91ed058e0374a4b88fb6beca21e947235cb6302102e9adb4a", func := "loop.example/g03229/laws.FnExactIsMatrix", spec := "fnExactIsMatrix", plainKeys := false, apart := false }
def FnExactIsMatrixSaid : Prop := fnExactIsMatrixRow.holds Try.pinned (OpenSpec.ofChange fnExactIsMatrixSpec)

/-- ITS FALSE NEIGHBOUR: 'it returns false'. Refute it at one input. -/
def fnExactIsMatrixWrong : ChangeSpec := { name := "fnExactIsMatrix", fn := fun _ => fun
  | [d] => { results := [.lit (.bool false)], args := [d] }
  | _ => none }
def FnExactIsMatrixWrongFalsely : Prop := fnExactIsMatrixRow.holds Try.pinned (OpenSpec.ofChange fnExactIsMatrixWrong)

/-- 'laws.FnExactRankAt': WHATEVER THE INPUT: true; the input reads as it did. -/
def fnExactRankAtSpec : ChangeSpec := { name := "fnExactRankAt", fn := fun _ => fun
  | [d1, d2, d3] => { results := [.lit (.bool true)], args := [d1, d2, d3] }
  | _ => none }
def fnExactRankAtRow : OpenClaim := { program := "yticlkjlfnkmjcaa", sum := "ddc21916ce7b12d91ed058e0374a4b88fb6beca21e947235cb6302102e9adb4a", func := "loop.example/g03229/laws.FnExactRankAt", spec := "fnExactRankAt", plainKeys := false, apart := false }
def FnExactRankAtSaid : Prop := fnExactRankAtRow.holds Try.pinned (OpenSpec.ofChange fnExactRankAtSpec)

/-- ITS FALSE NEIGHBOUR: 'it returns false'. Refute it at one input. -/
def fnExactRankAtWrong : ChangeSpec := { name := "fnExactRankAt", fn := fun _ => fun
  | [d1, d2, d3] => { results := [.lit (.bool false)], args := [d1, d2, d3] }
  | _ => none }
def FnExactRankAtWrongFalsely : Prop := fnExactRankAtRow.holds Try.pinned (OpenSpec.ofChange fnExactRankAtWrong)

/-- 'laws.FnExactBayerMatrix': WHATEVER THE INPUT: true; the input reads as it did. -/
def fnExactBayerMatrixSpec : ChangeSpec := { name := "fnExactBayerMatrix", fn := fun _ => fun
  | [d] => { results := [.lit (.bool true)], args := [d] }
  | _ => none }
def fnExactBayerMatrixRow : OpenClaim := { program := "yticlkjlfnkmjcaa", sum := "ddc21916ce7b12d91ed058e0374a4b88fb6beca21e947235cb6302102e9adb4a", func := "loop.example/g03229/laws.FnExactBayerMatrix", spec := "fnExactBayerMatrix", plainKeys := false, apart := false }
def FnExactBayerMatrixSaid : Prop := fnExactBayerMatrixRow.holds Try.pinned (OpenSpec.ofChange fnExactBayerMatrixSpec)

/-- ITS FALSE NEIGHBOUR: 'it returns false'. Refute it at one input. -/
def fnExactBayerMatrixWrong : ChangeSpec := { name := "fnExactBayerMatrix", fn := fun _ => fun
  | [d] => { results := [.lit (.bool false)], args := [d] }
  | _ => none }
def FnExactBayerMatrixWrongFalsely : Prop := fnExactBayerMatrixRow.holds Try.pinned (OpenSpec.ofChange fnExactBayerMatrixWrong)

/-- 'laws.FnExactDoubleMatrix': WHATEVER THE INPUT: true; the input reads as it did. -/
def fnExactDoubleMatrixSpec : ChangeSpec := { name := "fnExactDoubleMatrix", fn := fun _ => fun
  | [d] => { results := [.lit (.bool true)], args := [d] }
  | _ => none }
def fnExactDoubleMatrixRow : OpenClaim := { program := "yticlkjlfnkmjcaa", sum := "ddc21916ce7b12d91ed058e0374a4b88fb6beca21e947235cb6302102e9adb4a", func := "loop.example/g03229/laws.FnExactDoubleMatrix", spec := "fnExactDoubleMatrix", plainKeys := false, apart := false }
def FnExactDoubleMatrixSaid : Prop := fnExactDoubleMatrixRow.holds Try.pinned (OpenSpec.ofChange fnExactDoubleMatrixSpec)

/-- ITS FALSE NEIGHBOUR: 'it returns false'. Refute it at one input. -/
def fnExactDoubleMatrixWrong : ChangeSpec := { name := "fnExactDoubleMatrix", fn := fun _ => fun
  | [d] => { results := [.lit (.bool false)], args := [d] }
  | _ => none }
def FnExactDoubleMatrixWrongFalsely : Prop := fnExactDoubleMatrixRow.holds Try.pinned (OpenSpec.ofChange fnExactDoubleMatrixWrong)

/-- 'laws.FnExactBayerRank': WHATEVER THE INPUT: true; the input reads as it did. -/
def fnExactBayerRankSpec : ChangeSpec := { name := "fnExactBayerRank", fn := fun _ => fun
  | [d1, d2, d3] => { results := [.lit (.bool true)], args := [d1, d2, d3] }
  | _ => none }
def fnExactBayerRankRow : OpenClaim := { program := "yticlkjlfnkmjcaa", sum := "ddc21916ce7b12d91ed058e0374a4b88fb6beca21e947235cb6302102e9adb4a", func := "loop.example/g03229/laws.FnExactBayerRank", spec := "fnExactBayerRank", plainKeys := false, apart := false }
def FnExactBayerRankSaid : Prop := fnExactBayerRankRow.holds Try.pinned (OpenSpec.ofChange fnExactBayerRankSpec)

/-- ITS FALSE NEIGHBOUR: 'it returns false'. Refute it at one input. -/
def fnExactBayerRankWrong : ChangeSpec := { name := "fnExactBayerRank", fn := fun _ => fun
  | [d1, d2, d3] => { results := [.lit (.bool false)], args := [d1, d2, d3] }
  | _ => none }
def FnExactBayerRankWrongFalsely : Prop := fnExactBayerRankRow.holds Try.pinned (OpenSpec.ofChange fnExactBayerRankWrong)

/-- 'laws.FnExactRowMatrix': WHATEVER THE INPUT: true; the input reads as it did. -/
def fnExactRowMatrixSpec : ChangeSpec := { name := "fnExactRowMatrix", fn := fun _ => fun
  | [d1, d2] => { results := [.lit (.bool true)], args := [d1, d2] }
  | _ => none }
def fnExactRowMatrixRow : OpenClaim := { program := "yticlkjlfnkmjcaa", sum := "ddc21916ce7b12d91ed058e0374a4b88fb6beca21e947235cb6302102e9adb4a", func := "loop.example/g03229/laws.FnExactRowMatrix", spec := "fnExactRowMatrix", plainKeys := false, apart := false }
def FnExactRowMatrixSaid : Prop := fnExactRowMatrixRow.holds Try.pinned (OpenSpec.ofChange fnExactRowMatrixSpec)

/-- ITS FALSE NEIGHBOUR: 'it returns false'. Refute it at one input. -/
def fnExactRowMatrixWrong : ChangeSpec := { name := "fnExactRowMatrix", fn := fun _ => fun
  | [d1, d2] => { results := [.lit (.bool false)], args := [d1, d2] }
  | _ => none }
def FnExactRowMatrixWrongFalsely : Prop := fnExactRowMatrixRow.holds Try.pinned (OpenSpec.ofChange fnExactRowMatrixWrong)

/-- 'laws.FnExactSpiralMatrix': WHATEVER THE INPUT: true; the input reads as it did. -/
def fnExactSpiralMatrixSpec : ChangeSpec := { name := "fnExactSpiralMatrix", fn := fun _ => fun
  | [d] => { results := [.lit (.bool true)], args := [d] }
  | _ => none }
def fnExactSpiralMatrixRow : OpenClaim := { program := "yticlkjlfnkmjcaa", sum := "ddc21916ce7b12d91ed058e0374a4b88fb6beca21e947235cb6302102e9adb4a", func := "loop.example/g03229/laws.FnExactSpiralMatrix", spec := "fnExactSpiralMatrix", plainKeys := false, apart := false }
def FnExactSpiralMatrixSaid : Prop := fnExactSpiralMatrixRow.holds Try.pinned (OpenSpec.ofChange fnExactSpiralMatrixSpec)

/-- ITS FALSE NEIGHBOUR: 'it returns false'. Refute it at one input. -/
def fnExactSpiralMatrixWrong : ChangeSpec := { name := "fnExactSpiralMatrix", fn := fun _ => fun
  | [d] => { results := [.lit (.bool false)], args := [d] }
  | _ => none }
def FnExactSpiralMatrixWrongFalsely : Prop := fnExactSpiralMatrixRow.holds Try.pinned (OpenSpec.ofChange fnExactSpiralMatrixWrong)

/-- 'laws.FnExactReverseMatrix': WHATEVER THE INPUT: true; the input reads as it did. -/
def fnExactReverseMatrixSpec : ChangeSpec := { name := "fnExactReverseMatrix", fn := fun _ => fun
  | [d] => { results := [.lit (.bool true)], args := [d] }
  | _ => none }
def fnExactReverseMatrixRow : OpenClaim := { program := "yticlkjlfnkmjcaa", sum := "ddc21916ce7b12d91ed058e0374a4b88fb6beca21e947235cb6302102e9adb4a", func := "loop.example/g03229/laws.FnExactReverseMatrix", spec := "fnExactReverseMatrix", plainKeys := false, apart := false }
def FnExactReverseMatrixSaid : Prop := fnExactReverseMatrixRow.holds Try.pinned (OpenSpec.ofChange fnExactReverseMatrixSpec)

/-- ITS FALSE NEIGHBOUR: 'it returns false'. Refute it at one input. -/
def fnExactReverseMatrixWrong : ChangeSpec := { name := "fnExactReverseMatrix", fn := fun _ => fun
  | [d] => { results := [.lit (.bool false)], args := [d] }
  | _ => none }
def FnExactReverseMatrixWrongFalsely : Prop := fnExactReverseMatrixRow.holds Try.pinned (OpenSpec.ofChange fnExactReverseMatrixWrong)

/-- 'laws.FnExactShiftMatrix': WHATEVER THE INPUT: true; the input reads as it did. -/
def fnExactShiftMatrixSpec : ChangeSpec := { name := "fnExactShiftMatrix", fn := fun _ => fun
  | [d1, d2, d3] => { results := [.lit (.bool true)], args := [d1, d2, d3] }
  | _ => none }
def fnExactShiftMatrixRow : OpenClaim := { program := "yticlkjlfnkmjcaa", sum := "ddc21916ce7b12d91ed058e0374a4b88fb6beca21e947235cb6302102e9adb4a", func := "loop.example/g03229/laws.FnExactShiftMatrix", spec := "fnExactShiftMatrix", plainKeys := false, apart := false }
def FnExactShiftMatrixSaid : Prop := fnExactShiftMatrixRow.holds Try.pinned (OpenSpec.ofChange fnExactShiftMatrixSpec)

/-- ITS FALSE NEIGHBOUR: 'it returns false'. Refute it at one input. -/
def fnExactShiftMatrixWrong : ChangeSpec := { name := "fnExactShiftMatrix", fn := fun _ => fun
  | [d1, d2, d3] => { results := [.lit (.bool false)], args := [d1, d2, d3] }
  | _ => none }
def FnExactShiftMatrixWrongFalsely : Prop := fnExactShiftMatrixRow.holds Try.pinned (OpenSpec.ofChange fnExactShiftMatrixWrong)

/-- 'laws.FnExactCellsBelow': WHATEVER THE INPUT: true; the input reads as it did. -/
def fnExactCellsBelowSpec : ChangeSpec := { name := "fnExactCellsBelow", fn := fun _ => fun
  | [d1, d2] => { results := [.lit (.bool true)], args := [d1, d2] }
  | _ => none }
def fnExactCellsBelowRow : OpenClaim := { program := "yticlkjlfnkmjcaa", sum := "ddc21916ce7b12d91ed058e0374a4b88fb6beca21e947235cb6302102e9adb4a", func := "loop.example/g03229/laws.FnExactCellsBelow", spec := "fnExactCellsBelow", plainKeys := false, apart := false }
def FnExactCellsBelowSaid : Prop := fnExactCellsBelowRow.holds Try.pinned (OpenSpec.ofChange fnExactCellsBelowSpec)

/-- ITS FALSE NEIGHBOUR: 'it returns false'. Refute it at one input. -/
def fnExactCellsBelowWrong : ChangeSpec := { name := "fnExactCellsBelow", fn := fun _ => fun
  | [d1, d2] => { results := [.lit (.bool false)], args := [d1, d2] }
  | _ => none }
def FnExactCellsBelowWrongFalsely : Prop := fnExactCellsBelowRow.holds Try.pinned (OpenSpec.ofChange fnExactCellsBelowWrong)

/-- 'laws.FnExactSpreadOf': WHATEVER THE INPUT: true; the input reads as it did. -/
def fnExactSpreadOfSpec : ChangeSpec := { name := "fnExactSpreadOf", fn := fun _ => fun
  | [d1, d2] => { results := [.lit (.bool true)], args := [d1, d2] }
  | _ => none }
def fnExactSpreadOfRow : OpenClaim := { program := "yticlkjlfnkmjcaa", sum := "ddc21916ce7b12d91ed058e0374a4b88fb6beca21e947235cb6302102e9adb4a", func := "loop.example/g03229/laws.FnExactSpreadOf", spec := "fnExactSpreadOf", plainKeys := false, apart := false }
def FnExactSpreadOfSaid : Prop := fnExactSpreadOfRow.holds Try.pinned (OpenSpec.ofChange fnExactSpreadOfSpec)

/-- ITS FALSE NEIGHBOUR: 'it returns false'. Refute it at one input. -/
def fnExactSpreadOfWrong : ChangeSpec := { name := "fnExactSpreadOf", fn := fun _ => fun
  | [d1, d2] => { results := [.lit (.bool false)], args := [d1, d2] }
  | _ => none }
def FnExactSpreadOfWrongFalsely : Prop := fnExactSpreadOfRow.holds Try.pinned (OpenSpec.ofChange fnExactSpreadOfWrong)

/-- 'laws.FnExactAddPictures': WHATEVER THE INPUT: true; the input reads as it did. -/
def fnExactAddPicturesSpec : ChangeSpec := { name := "fnExactAddPictures", fn := fun _ => fun
  | [d1, d2] => { results := [.lit (.bool true)], args := [d1, d2] }
  | _ => none }
def fnExactAddPicturesRow : OpenClaim := { program := "yticlkjlfnkmjcaa", sum := "ddc21916ce7b12d91ed058e0374a4b88fb6beca21e947235cb6302102e9adb4a", func := "loop.example/g03229/laws.FnExactAddPictures", spec := "fnExactAddPictures", plainKeys := false, apart := false }
def FnExactAddPicturesSaid : Prop := fnExactAddPicturesRow.holds Try.pinned (OpenSpec.ofChange fnExactAddPicturesSpec)

/-- ITS FALSE NEIGHBOUR: 'it returns false'. Refute it at one input. -/
def fnExactAddPicturesWrong : ChangeSpec := { name := "fnExactAddPictures", fn := fun _ => fun
  | [d1, d2] => { results := [.lit (.bool false)], args := [d1, d2] }
  | _ => none }
def FnExactAddPicturesWrongFalsely : Prop := fnExactAddPicturesRow.holds Try.pinned (OpenSpec.ofChange fnExactAddPicturesWrong)

/- THE SECOND FORM. 'bulk': how many values and letters a reading holds, each counted each time it is reached (what is shared counts as often as it is met; a slice's spare places count too). A statement '..UptoSaid' is the law's where the arguments, and the package variables that the reading takes, are together of bulk at most 1048576: NARROWER than '..Said'. Prove '..Said' where nothing that the law and all that it calls make is longer than what came in: it says more and counts as full. Else prove '..UptoSaid'. A law counts once. -/
mutual
def uptoBulk {H : Type} : DataW H → Nat
  | .lit (.string bytes) => bytes.length + 1
  | .lit _ => 1
  | .nil => 1
  | .ptr d => uptoBulk d + 1
  | .slice elems spare => uptoBulkAll elems + uptoBulkAll spare + 1
  | .agg parts => uptoBulkAll parts + 1
  | .iface _ d => uptoBulk d + 1
  | .map entries => uptoBulkEntries entries + 1
  | .held _ => 1
def uptoBulkAll {H : Type} : List (DataW H) → Nat
  | [] => 0
  | d :: r => uptoBulk d + uptoBulkAll r
def uptoBulkEntries {H : Type} : List (Lit × DataW H) → Nat
  | [] => 0
  | x :: r => uptoBulkEntry x + uptoBulkEntries r
def uptoBulkEntry {H : Type} : Lit × DataW H → Nat
  | (.string bytes, d) => bytes.length + uptoBulk d + 1
  | (_, d) => uptoBulk d + 1
 end
def uptoSmall : (H : Type) → List (DataW H) → Bool := fun _ ds => decide (uptoBulkAll ds ≤ 1048576)
def OpenSpec.upto (s : _root_.Go.ChangeSpec) : _root_.Go.OpenSpec := { _root_.Go.OpenSpec.ofChange s with cond := some uptoSmall }

/-- 'laws.FnExactIsMatrix', WHERE WHAT IT READS IS OF BULK AT MOST 1048576: true; the input reads as it did. -/
def fnExactIsMatrixUptoRow : OpenClaim := { program := "yticlkjlfnkmjcaa", sum := "ddc21916ce7b12d91ed058e0374a4b88fb6beca21e947235cb6302102e9adb4a", func := "loop.example/g03229/laws.FnExactIsMatrix", spec := "fnExactIsMatrix", plainKeys := false, apart := false, narrowed := true }
def FnExactIsMatrixUptoSaid : Prop := fnExactIsMatrixUptoRow.holds Try.pinned (OpenSpec.upto fnExactIsMatrixSpec)

/-- 'laws.FnExactRankAt', WHERE WHAT IT READS IS OF BULK AT MOST 1048576: true; the input reads as it did. -/
def fnExactRankAtUptoRow : OpenClaim := { program := "yticlkjlfnkmjcaa", sum := "ddc21916ce7b12d91ed058e0374a4b88fb6beca21e947235cb6302102e9adb4a", func := "loop.example/g03229/laws.FnExactRankAt", spec := "fnExactRankAt", plainKeys := false, apart := false, narrowed := true }
def FnExactRankAtUptoSaid : Prop := fnExactRankAtUptoRow.holds Try.pinned (OpenSpec.upto fnExactRankAtSpec)

/-- 'laws.FnExactBayerMatrix', WHERE WHAT IT READS IS OF BULK AT MOST 1048576: true; the input reads as it did. -/
def fnExactBayerMatrixUptoRow : OpenClaim := { program := "yticlkjlfnkmjcaa", sum := "ddc21916ce7b12d91ed058e0374a4b88fb6beca21e947235cb6302102e9adb4a", func := "loop.example/g03229/laws.FnExactBayerMatrix", spec := "fnExactBayerMatrix", plainKeys := false, apart := false, narrowed := true }
def FnExactBayerMatrixUptoSaid : Prop := fnExactBayerMatrixUptoRow.holds Try.pinned (OpenSpec.upto fnExactBayerMatrixSpec)

/-- 'laws.FnExactDoubleMatrix', WHERE WHAT IT READS IS OF BULK AT MOST 1048576: true; the input reads as it did. -/
def fnExactDoubleMatrixUptoRow : OpenClaim := { program := "yticlkjlfnkmjcaa", sum := "ddc21916ce7b12d91ed058e0374a4b88fb6beca21e947235cb6302102e9adb4a", func := "loop.example/g03229/laws.FnExactDoubleMatrix", spec := "fnExactDoubleMatrix", plainKeys := false, apart := false, narrowed := true }
def FnExactDoubleMatrixUptoSaid : Prop := fnExactDoubleMatrixUptoRow.holds Try.pinned (OpenSpec.upto fnExactDoubleMatrixSpec)

/-- 'laws.FnExactBayerRank', WHERE WHAT IT READS IS OF BULK AT MOST 1048576: true; the input reads as it did. -/
def fnExactBayerRankUptoRow : OpenClaim := { program := "yticlkjlfnkmjcaa", sum := "ddc21916ce7b12d91ed058e0374a4b88fb6beca21e947235cb6302102e9adb4a", func := "loop.example/g03229/laws.FnExactBayerRank", spec := "fnExactBayerRank", plainKeys := false, apart := false, narrowed := true }
def FnExactBayerRankUptoSaid : Prop := fnExactBayerRankUptoRow.holds Try.pinned (OpenSpec.upto fnExactBayerRankSpec)

/-- 'laws.FnExactRowMatrix', WHERE WHAT IT READS IS OF BULK AT MOST 1048576: true; the input reads as it did. -/
def fnExactRowMatrixUptoRow : OpenClaim := { program := "yticlkjlfnkmjcaa", sum := "ddc21916ce7b12d91ed058e0374a4b88fb6beca21e947235cb6302102e9adb4a", func := "loop.example/g03229/laws.FnExactRowMatrix", spec := "fnExactRowMatrix", plainKeys := false, apart := false, narrowed := true }
def FnExactRowMatrixUptoSaid : Prop := fnExactRowMatrixUptoRow.holds Try.pinned (OpenSpec.upto fnExactRowMatrixSpec)

/-- 'laws.FnExactSpiralMatrix', WHERE WHAT IT READS IS OF BULK AT MOST 1048576: true; the input reads as it did. -/
def fnExactSpiralMatrixUptoRow : OpenClaim := { program := "yticlkjlfnkmjcaa", sum := "ddc21916ce7b12d91ed058e0374a4b88fb6beca21e947235cb6302102e9adb4a", func := "loop.example/g03229/laws.FnExactSpiralMatrix", spec := "fnExactSpiralMatrix", plainKeys := false, apart := false, narrowed := true }
def FnExactSpiralMatrixUptoSaid : Prop := fnExactSpiralMatrixUptoRow.holds Try.pinned (OpenSpec.upto fnExactSpiralMatrixSpec)

/-- 'laws.FnExactReverseMatrix', WHERE WHAT IT READS IS OF BULK AT MOST 1048576: true; the input reads as it did. -/
def fnExactReverseMatrixUptoRow : OpenClaim := { program := "yticlkjlfnkmjcaa", sum := "ddc21916ce7b12d91ed058e0374a4b88fb6beca21e947235cb6302102e9adb4a", func := "loop.example/g03229/laws.FnExactReverseMatrix", spec := "fnExactReverseMatrix", plainKeys := false, apart := false, narrowed := true }
def FnExactReverseMatrixUptoSaid : Prop := fnExactReverseMatrixUptoRow.holds Try.pinned (OpenSpec.upto fnExactReverseMatrixSpec)

/-- 'laws.FnExactShiftMatrix', WHERE WHAT IT READS IS OF BULK AT MOST 1048576: true; the input reads as it did. -/
def fnExactShiftMatrixUptoRow : OpenClaim := { program := "yticlkjlfnkmjcaa", sum := "ddc21916ce7b12d91ed058e0374a4b88fb6beca21e947235cb6302102e9adb4a", func := "loop.example/g03229/laws.FnExactShiftMatrix", spec := "fnExactShiftMatrix", plainKeys := false, apart := false, narrowed := true }
def FnExactShiftMatrixUptoSaid : Prop := fnExactShiftMatrixUptoRow.holds Try.pinned (OpenSpec.upto fnExactShiftMatrixSpec)

/-- 'laws.FnExactCellsBelow', WHERE WHAT IT READS IS OF BULK AT MOST 1048576: true; the input reads as it did. -/
def fnExactCellsBelowUptoRow : OpenClaim := { program := "yticlkjlfnkmjcaa", sum := "ddc21916ce7b12d91ed058e0374a4b88fb6beca21e947235cb6302102e9adb4a", func := "loop.example/g03229/laws.FnExactCellsBelow", spec := "fnExactCellsBelow", plainKeys := false, apart := false, narrowed := true }
def FnExactCellsBelowUptoSaid : Prop := fnExactCellsBelowUptoRow.holds Try.pinned (OpenSpec.upto fnExactCellsBelowSpec)

/-- 'laws.FnExactSpreadOf', WHERE WHAT IT READS IS OF BULK AT MOST 1048576: true; the input reads as it did. -/
def fnExactSpreadOfUptoRow : OpenClaim := { program := "yticlkjlfnkmjcaa", sum := "ddc21916ce7b12d91ed058e0374a4b88fb6beca21e947235cb6302102e9adb4a", func := "loop.example/g03229/laws.FnExactSpreadOf", spec := "fnExactSpreadOf", plainKeys := false, apart := false, narrowed := true }
def FnExactSpreadOfUptoSaid : Prop := fnExactSpreadOfUptoRow.holds Try.pinned (OpenSpec.upto fnExactSpreadOfSpec)

/-- 'laws.FnExactAddPictures', WHERE WHAT IT READS IS OF BULK AT MOST 1048576: true; the input reads as it did. -/
def fnExactAddPicturesUptoRow : OpenClaim := { program := "yticlkjlfnkmjcaa", sum := "ddc21916ce7b12d91ed058e0374a4b88fb6beca21e947235cb6302102e9adb4a", func := "loop.example/g03229/laws.FnExactAddPictures", spec := "fnExactAddPictures", plainKeys := false, apart := false, narrowed := true }
def FnExactAddPicturesUptoSaid : Prop := fnExactAddPicturesUptoRow.holds Try.pinned (OpenSpec.upto fnExactAddPicturesSpec)

end Rows
end Go.Proofs.Yticlkjlfnkmjcaa
