/-
  No cell of these rows narrows 'for every input' (looked for: loops, veiled, ifaces, maps, wideKeys, modest, calm, conditions, laid).
  DERIVED. THE GIVEN ROWS OF THIS SEAT. 12 by the template 'for every input the law returns true; each argument reads behind the call as it read before'; 0 by the template 'total and deterministic' (their statements: YthokmanjiebimaaTotals.lean).
  GIVEN WITH THE SEED: the statements are not yours to turn. If you find one false, say at which input.
  Laid BY PROGRAM, IN A SANDBOX (cutbox-rows.mjs): the forced cells as the released guide's own fill.sh prints them over the translation 0655d39ee4bece38… (all of the seat's roots in one cut). By AI agents, Wed Nov 11 2026. No macro, syntax, notation, axiom, sorry.
-/
import Derived.Test.YthokmanjiebimaaChecked
import GoSem.Claim
import GoSem.ClaimJoined
import GoSem.ClaimMapViews
import Derived.JoinedTies
import Derived.KernelRfl
namespace Go.Proofs.Ythokmanjiebimaa
/- THE CELL 'sum', in the pinned program and in every row, IS THE sha256 OF THE DUMP (.gsa) THAT YthokmanjiebimaaProg.lean LOADS. Nothing in Lean hashes anything: it is a label: what it is worth is what the hold of that sum in a sandbox is worth. -/
noncomputable def Try.pinned : Pinned := { name := "ythokmanjiebimaa", sum := "0655d39ee4bece38f50572737d96162d23e68ca7bf09ff3f01a7e9a5466a0c23", checked := Try.checked }
namespace Rows
def none {H : Type} : Left H := { results := [], args := [] }

/-- 'laws.FnExactIsStack': WHATEVER THE INPUT: true; the input reads as it did. -/
def fnExactIsStackSpec : ChangeSpec := { name := "fnExactIsStack", fn := fun _ => fun
  | [d] => { results := [.lit (.bool true)], args := [d] }
  | _ => none }
def fnExactIsStackRow : OpenClaim := { program := "ythokmanjiebimaa", sum := "0655d39ee4bece38f50572737d96162d23e68ca7bf09ff3f01a7e9a5466a0c23", func := "loop.example/g03229/laws.FnExactIsStack", spec := "fnExactIsStack", apart := false }
def FnExactIsStackSaid : Prop := fnExactIsStackRow.holds Try.pinned (OpenSpec.ofChange fnExactIsStackSpec)

/-- ITS FALSE NEIGHBOUR: 'it returns false'. Refute it at one input. -/
def fnExactIsStackWrong : ChangeSpec := { name := "fnExactIsStack", fn := fun _ => fun
  | [d] => { results := [.lit (.bool false)], args := [d] }
  | _ => none }
def FnExactIsStackWrongFalsely : Prop := fnExactIsStackRow.holds Try.pinned (OpenSpec.ofChange fnExactIsStackWrong)

/-- 'laws.FnExactMarkAt': WHATEVER THE INPUT: true; the input reads as it did. -/
def fnExactMarkAtSpec : ChangeSpec := { name := "fnExactMarkAt", fn := fun _ => fun
  | [d1, d2, d3] => { results := [.lit (.bool true)], args := [d1, d2, d3] }
  | _ => none }
def fnExactMarkAtRow : OpenClaim := { program := "ythokmanjiebimaa", sum := "0655d39ee4bece38f50572737d96162d23e68ca7bf09ff3f01a7e9a5466a0c23", func := "loop.example/g03229/laws.FnExactMarkAt", spec := "fnExactMarkAt", apart := false }
def FnExactMarkAtSaid : Prop := fnExactMarkAtRow.holds Try.pinned (OpenSpec.ofChange fnExactMarkAtSpec)

/-- ITS FALSE NEIGHBOUR: 'it returns false'. Refute it at one input. -/
def fnExactMarkAtWrong : ChangeSpec := { name := "fnExactMarkAt", fn := fun _ => fun
  | [d1, d2, d3] => { results := [.lit (.bool false)], args := [d1, d2, d3] }
  | _ => none }
def FnExactMarkAtWrongFalsely : Prop := fnExactMarkAtRow.holds Try.pinned (OpenSpec.ofChange fnExactMarkAtWrong)

/-- 'laws.FnExactMarkCounts': WHATEVER THE INPUT: true; the input reads as it did. -/
def fnExactMarkCountsSpec : ChangeSpec := { name := "fnExactMarkCounts", fn := fun _ => fun
  | [d] => { results := [.lit (.bool true)], args := [d] }
  | _ => none }
def fnExactMarkCountsRow : OpenClaim := { program := "ythokmanjiebimaa", sum := "0655d39ee4bece38f50572737d96162d23e68ca7bf09ff3f01a7e9a5466a0c23", func := "loop.example/g03229/laws.FnExactMarkCounts", spec := "fnExactMarkCounts", apart := false }
def FnExactMarkCountsSaid : Prop := fnExactMarkCountsRow.holds Try.pinned (OpenSpec.ofChange fnExactMarkCountsSpec)

/-- ITS FALSE NEIGHBOUR: 'it returns false'. Refute it at one input. -/
def fnExactMarkCountsWrong : ChangeSpec := { name := "fnExactMarkCounts", fn := fun _ => fun
  | [d] => { results := [.lit (.bool false)], args := [d] }
  | _ => none }
def FnExactMarkCountsWrongFalsely : Prop := fnExactMarkCountsRow.holds Try.pinned (OpenSpec.ofChange fnExactMarkCountsWrong)

/-- 'laws.FnExactBlendOf': WHATEVER THE INPUT: true; the input reads as it did. -/
def fnExactBlendOfSpec : ChangeSpec := { name := "fnExactBlendOf", fn := fun _ => fun
  | [d1, d2] => { results := [.lit (.bool true)], args := [d1, d2] }
  | _ => none }
def fnExactBlendOfRow : OpenClaim := { program := "ythokmanjiebimaa", sum := "0655d39ee4bece38f50572737d96162d23e68ca7bf09ff3f01a7e9a5466a0c23", func := "loop.example/g03229/laws.FnExactBlendOf", spec := "fnExactBlendOf", apart := false }
def FnExactBlendOfSaid : Prop := fnExactBlendOfRow.holds Try.pinned (OpenSpec.ofChange fnExactBlendOfSpec)

/-- ITS FALSE NEIGHBOUR: 'it returns false'. Refute it at one input. -/
def fnExactBlendOfWrong : ChangeSpec := { name := "fnExactBlendOf", fn := fun _ => fun
  | [d1, d2] => { results := [.lit (.bool false)], args := [d1, d2] }
  | _ => none }
def FnExactBlendOfWrongFalsely : Prop := fnExactBlendOfRow.holds Try.pinned (OpenSpec.ofChange fnExactBlendOfWrong)

/-- 'laws.FnExactSharesMultiply': WHATEVER THE INPUT: true; the input reads as it did. -/
def fnExactSharesMultiplySpec : ChangeSpec := { name := "fnExactSharesMultiply", fn := fun _ => fun
  | [d1, d2] => { results := [.lit (.bool true)], args := [d1, d2] }
  | _ => none }
def fnExactSharesMultiplyRow : OpenClaim := { program := "ythokmanjiebimaa", sum := "0655d39ee4bece38f50572737d96162d23e68ca7bf09ff3f01a7e9a5466a0c23", func := "loop.example/g03229/laws.FnExactSharesMultiply", spec := "fnExactSharesMultiply", apart := false }
def FnExactSharesMultiplySaid : Prop := fnExactSharesMultiplyRow.holds Try.pinned (OpenSpec.ofChange fnExactSharesMultiplySpec)

/-- ITS FALSE NEIGHBOUR: 'it returns false'. Refute it at one input. -/
def fnExactSharesMultiplyWrong : ChangeSpec := { name := "fnExactSharesMultiply", fn := fun _ => fun
  | [d1, d2] => { results := [.lit (.bool false)], args := [d1, d2] }
  | _ => none }
def FnExactSharesMultiplyWrongFalsely : Prop := fnExactSharesMultiplyRow.holds Try.pinned (OpenSpec.ofChange fnExactSharesMultiplyWrong)

/-- 'laws.FnExactCrossPlates': WHATEVER THE INPUT: true; the input reads as it did. -/
def fnExactCrossPlatesSpec : ChangeSpec := { name := "fnExactCrossPlates", fn := fun _ => fun
  | [d1, d2] => { results := [.lit (.bool true)], args := [d1, d2] }
  | _ => none }
def fnExactCrossPlatesRow : OpenClaim := { program := "ythokmanjiebimaa", sum := "0655d39ee4bece38f50572737d96162d23e68ca7bf09ff3f01a7e9a5466a0c23", func := "loop.example/g03229/laws.FnExactCrossPlates", spec := "fnExactCrossPlates", apart := false }
def FnExactCrossPlatesSaid : Prop := fnExactCrossPlatesRow.holds Try.pinned (OpenSpec.ofChange fnExactCrossPlatesSpec)

/-- ITS FALSE NEIGHBOUR: 'it returns false'. Refute it at one input. -/
def fnExactCrossPlatesWrong : ChangeSpec := { name := "fnExactCrossPlates", fn := fun _ => fun
  | [d1, d2] => { results := [.lit (.bool false)], args := [d1, d2] }
  | _ => none }
def FnExactCrossPlatesWrongFalsely : Prop := fnExactCrossPlatesRow.holds Try.pinned (OpenSpec.ofChange fnExactCrossPlatesWrong)

/-- 'laws.FnExactGrowPlate': WHATEVER THE INPUT: true; the input reads as it did. -/
def fnExactGrowPlateSpec : ChangeSpec := { name := "fnExactGrowPlate", fn := fun _ => fun
  | [d] => { results := [.lit (.bool true)], args := [d] }
  | _ => none }
def fnExactGrowPlateRow : OpenClaim := { program := "ythokmanjiebimaa", sum := "0655d39ee4bece38f50572737d96162d23e68ca7bf09ff3f01a7e9a5466a0c23", func := "loop.example/g03229/laws.FnExactGrowPlate", spec := "fnExactGrowPlate", apart := false }
def FnExactGrowPlateSaid : Prop := fnExactGrowPlateRow.holds Try.pinned (OpenSpec.ofChange fnExactGrowPlateSpec)

/-- ITS FALSE NEIGHBOUR: 'it returns false'. Refute it at one input. -/
def fnExactGrowPlateWrong : ChangeSpec := { name := "fnExactGrowPlate", fn := fun _ => fun
  | [d] => { results := [.lit (.bool false)], args := [d] }
  | _ => none }
def FnExactGrowPlateWrongFalsely : Prop := fnExactGrowPlateRow.holds Try.pinned (OpenSpec.ofChange fnExactGrowPlateWrong)

/-- 'laws.FnExactShrinkPlate': WHATEVER THE INPUT: true; the input reads as it did. -/
def fnExactShrinkPlateSpec : ChangeSpec := { name := "fnExactShrinkPlate", fn := fun _ => fun
  | [d] => { results := [.lit (.bool true)], args := [d] }
  | _ => none }
def fnExactShrinkPlateRow : OpenClaim := { program := "ythokmanjiebimaa", sum := "0655d39ee4bece38f50572737d96162d23e68ca7bf09ff3f01a7e9a5466a0c23", func := "loop.example/g03229/laws.FnExactShrinkPlate", spec := "fnExactShrinkPlate", apart := false }
def FnExactShrinkPlateSaid : Prop := fnExactShrinkPlateRow.holds Try.pinned (OpenSpec.ofChange fnExactShrinkPlateSpec)

/-- ITS FALSE NEIGHBOUR: 'it returns false'. Refute it at one input. -/
def fnExactShrinkPlateWrong : ChangeSpec := { name := "fnExactShrinkPlate", fn := fun _ => fun
  | [d] => { results := [.lit (.bool false)], args := [d] }
  | _ => none }
def FnExactShrinkPlateWrongFalsely : Prop := fnExactShrinkPlateRow.holds Try.pinned (OpenSpec.ofChange fnExactShrinkPlateWrong)

/-- 'laws.FnExactGainOf': WHATEVER THE INPUT: true; the input reads as it did. -/
def fnExactGainOfSpec : ChangeSpec := { name := "fnExactGainOf", fn := fun _ => fun
  | [d] => { results := [.lit (.bool true)], args := [d] }
  | _ => none }
def fnExactGainOfRow : OpenClaim := { program := "ythokmanjiebimaa", sum := "0655d39ee4bece38f50572737d96162d23e68ca7bf09ff3f01a7e9a5466a0c23", func := "loop.example/g03229/laws.FnExactGainOf", spec := "fnExactGainOf", apart := false }
def FnExactGainOfSaid : Prop := fnExactGainOfRow.holds Try.pinned (OpenSpec.ofChange fnExactGainOfSpec)

/-- ITS FALSE NEIGHBOUR: 'it returns false'. Refute it at one input. -/
def fnExactGainOfWrong : ChangeSpec := { name := "fnExactGainOf", fn := fun _ => fun
  | [d] => { results := [.lit (.bool false)], args := [d] }
  | _ => none }
def FnExactGainOfWrongFalsely : Prop := fnExactGainOfRow.holds Try.pinned (OpenSpec.ofChange fnExactGainOfWrong)

/-- 'laws.FnExactRunsOf': WHATEVER THE INPUT: true; the input reads as it did. -/
def fnExactRunsOfSpec : ChangeSpec := { name := "fnExactRunsOf", fn := fun _ => fun
  | [d] => { results := [.lit (.bool true)], args := [d] }
  | _ => none }
def fnExactRunsOfRow : OpenClaim := { program := "ythokmanjiebimaa", sum := "0655d39ee4bece38f50572737d96162d23e68ca7bf09ff3f01a7e9a5466a0c23", func := "loop.example/g03229/laws.FnExactRunsOf", spec := "fnExactRunsOf", apart := false }
def FnExactRunsOfSaid : Prop := fnExactRunsOfRow.holds Try.pinned (OpenSpec.ofChange fnExactRunsOfSpec)

/-- ITS FALSE NEIGHBOUR: 'it returns false'. Refute it at one input. -/
def fnExactRunsOfWrong : ChangeSpec := { name := "fnExactRunsOf", fn := fun _ => fun
  | [d] => { results := [.lit (.bool false)], args := [d] }
  | _ => none }
def FnExactRunsOfWrongFalsely : Prop := fnExactRunsOfRow.holds Try.pinned (OpenSpec.ofChange fnExactRunsOfWrong)

/-- 'laws.FnExactPlateOfRuns': WHATEVER THE INPUT: true; the input reads as it did. -/
def fnExactPlateOfRunsSpec : ChangeSpec := { name := "fnExactPlateOfRuns", fn := fun _ => fun
  | [d1, d2, d3] => { results := [.lit (.bool true)], args := [d1, d2, d3] }
  | _ => none }
def fnExactPlateOfRunsRow : OpenClaim := { program := "ythokmanjiebimaa", sum := "0655d39ee4bece38f50572737d96162d23e68ca7bf09ff3f01a7e9a5466a0c23", func := "loop.example/g03229/laws.FnExactPlateOfRuns", spec := "fnExactPlateOfRuns", apart := false }
def FnExactPlateOfRunsSaid : Prop := fnExactPlateOfRunsRow.holds Try.pinned (OpenSpec.ofChange fnExactPlateOfRunsSpec)

/-- ITS FALSE NEIGHBOUR: 'it returns false'. Refute it at one input. -/
def fnExactPlateOfRunsWrong : ChangeSpec := { name := "fnExactPlateOfRuns", fn := fun _ => fun
  | [d1, d2, d3] => { results := [.lit (.bool false)], args := [d1, d2, d3] }
  | _ => none }
def FnExactPlateOfRunsWrongFalsely : Prop := fnExactPlateOfRunsRow.holds Try.pinned (OpenSpec.ofChange fnExactPlateOfRunsWrong)

/-- 'laws.FnExactToneOf': WHATEVER THE INPUT: true; the input reads as it did. -/
def fnExactToneOfSpec : ChangeSpec := { name := "fnExactToneOf", fn := fun _ => fun
  | [d] => { results := [.lit (.bool true)], args := [d] }
  | _ => none }
def fnExactToneOfRow : OpenClaim := { program := "ythokmanjiebimaa", sum := "0655d39ee4bece38f50572737d96162d23e68ca7bf09ff3f01a7e9a5466a0c23", func := "loop.example/g03229/laws.FnExactToneOf", spec := "fnExactToneOf", apart := false }
def FnExactToneOfSaid : Prop := fnExactToneOfRow.holds Try.pinned (OpenSpec.ofChange fnExactToneOfSpec)

/-- ITS FALSE NEIGHBOUR: 'it returns false'. Refute it at one input. -/
def fnExactToneOfWrong : ChangeSpec := { name := "fnExactToneOf", fn := fun _ => fun
  | [d] => { results := [.lit (.bool false)], args := [d] }
  | _ => none }
def FnExactToneOfWrongFalsely : Prop := fnExactToneOfRow.holds Try.pinned (OpenSpec.ofChange fnExactToneOfWrong)

/- THE SECOND FORM. 'bulk': how many values and letters a reading holds, each counted each time it is reached (what is shared counts as often as it is met; a slice's spare places count too). A statement '..UptoSaid' is the law's where the arguments, and the package variables that the reading takes, are together of bulk at most 1048576: NARROWER than '..Said'. Prove '..Said' where nothing that the law and all that it calls make is longer than what came in: it says more and counts as full. Else prove '..UptoSaid'. A law counts once. -/
mutual
def uptoBulk {H : Type} : DataW H → Nat
  | .lit (.string bytes) => bytes.length + 1
  | .lit _ => 1
  | .nil => 1
  | .ptr d => uptoBulk d + 1
  | .slice elems spare => uptoBulkAll elems + uptoBulkAll spare + 1
  | .agg parts => uptoBulkAll parts + 1
  | .iface _ d => uptoBulk d + 1
  | .map entries => uptoBulkEntries entries + 1
  | .held _ => 1
def uptoBulkAll {H : Type} : List (DataW H) → Nat
  | [] => 0
  | d :: r => uptoBulk d + uptoBulkAll r
def uptoBulkEntries {H : Type} : List (Lit × DataW H) → Nat
  | [] => 0
  | x :: r => uptoBulkEntry x + uptoBulkEntries r
def uptoBulkEntry {H : Type} : Lit × DataW H → Nat
  | (.string bytes, d) => bytes.length + uptoBulk d + 1
  | (_, d) => uptoBulk d + 1
 end
def uptoSmall : (H : Type) → List (DataW H) → Bool := fun _ ds => decide (uptoBulkAll ds ≤ 1048576)
def OpenSpec.upto (s : _root_.Go.ChangeSpec) : _root_.Go.OpenSpec := { _root_.Go.OpenSpec.ofChange s with cond := some uptoSmall }

/-- 'laws.FnExactIsStack', WHERE WHAT IT READS IS OF BULK AT MOST 1048576: true; the input reads as it did. -/
def fnExactIsStackUptoRow : OpenClaim := { program := "ythokmanjiebimaa", sum := "0655d39ee4bece38f50572737d96162d23e68ca7bf09ff3f01a7e9a5466a0c23", func := "loop.example/g03229/laws.FnExactIsStack", spec := "fnExactIsStack", apart := false, narrowed := true }
def FnExactIsStackUptoSaid : Prop := fnExactIsStackUptoRow.holds Try.pinned (OpenSpec.upto fnExactIsStackSpec)

/-- 'laws.FnExactMarkAt', WHERE WHAT IT READS IS OF BULK AT MOST 1048576: true; the input reads as it did. -/
def fnExactMarkAtUptoRow : OpenClaim := { program := "ythokmanjiebimaa", sum := "0655d39ee4bece38f50572737d96162d23e68ca7bf09ff3f01a7e9a5466a0c23", func := "loop.example/g03229/laws.FnExactMarkAt", spec := "fnExactMarkAt", apart := false, narrowed := true }
def FnExactMarkAtUptoSaid : Prop := fnExactMarkAtUptoRow.holds Try.pinned (OpenSpec.upto fnExactMarkAtSpec)

/-- 'laws.FnExactMarkCounts', WHERE WHAT IT READS IS OF BULK AT MOST 1048576: true; the input reads as it did. -/
def fnExactMarkCountsUptoRow : OpenClaim := { program := "ythokmanjiebimaa", sum := "0655d39ee4bece38f50572737d96162d23e68ca7bf09ff3f01a7e9a5466a0c23", func := "loop.example/g03229/laws.FnExactMarkCounts", spec := "fnExactMarkCounts", apart := false, narrowed := true }
def FnExactMarkCountsUptoSaid : Prop := fnExactMarkCountsUptoRow.holds Try.pinned (OpenSpec.upto fnExactMarkCountsSpec)

/-- 'laws.FnExactBlendOf', WHERE WHAT IT READS IS OF BULK AT MOST 1048576: true; the input reads as it did. -/
def fnExactBlendOfUptoRow : OpenClaim := { program := "ythokmanjiebimaa", sum := "0655d39ee4bece38f50572737d96162d23e68ca7bf09ff3f01a7e9a5466a0c23", func := "loop.example/g03229/laws.FnExactBlendOf", spec := "fnExactBlendOf", apart := false, narrowed := true }
def FnExactBlendOfUptoSaid : Prop := fnExactBlendOfUptoRow.holds Try.pinned (OpenSpec.upto fnExactBlendOfSpec)

/-- 'laws.FnExactSharesMultiply', WHERE WHAT IT READS IS OF BULK AT MOST 1048576: true; the input reads as it did. -/
def fnExactSharesMultiplyUptoRow : OpenClaim := { program := "ythokmanjiebimaa", sum := "0655d39ee4bece38f50572737d96162d23e68ca7bf09ff3f01a7e9a5466a0c23", func := "loop.example/g03229/laws.FnExactSharesMultiply", spec := "fnExactSharesMultiply", apart := false, narrowed := true }
def FnExactSharesMultiplyUptoSaid : Prop := fnExactSharesMultiplyUptoRow.holds Try.pinned (OpenSpec.upto fnExactSharesMultiplySpec)

/-- 'laws.FnExactCrossPlates', WHERE WHAT IT READS IS OF BULK AT MOST 1048576: true; the input reads as it did. -/
def fnExactCrossPlatesUptoRow : OpenClaim := { program := "ythokmanjiebimaa", sum := "0655d39ee4bece38f50572737d96162d23e68ca7bf09ff3f01a7e9a5466a0c23", func := "loop.example/g03229/laws.FnExactCrossPlates", spec := "fnExactCrossPlates", apart := false, narrowed := true }
def FnExactCrossPlatesUptoSaid : Prop := fnExactCrossPlatesUptoRow.holds Try.pinned (OpenSpec.upto fnExactCrossPlatesSpec)

/-- 'laws.FnExactGrowPlate', WHERE WHAT IT READS IS OF BULK AT MOST 1048576: true; the input reads as it did. -/
def fnExactGrowPlateUptoRow : OpenClaim := { program := "ythokmanjiebimaa", sum := "0655d39ee4bece38f50572737d96162d23e68ca7bf09ff3f01a7e9a5466a0c23", func := "loop.example/g03229/laws.FnExactGrowPlate", spec := "fnExactGrowPlate", apart := false, narrowed := true }
def FnExactGrowPlateUptoSaid : Prop := fnExactGrowPlateUptoRow.holds Try.pinned (OpenSpec.upto fnExactGrowPlateSpec)

/-- 'laws.FnExactShrinkPlate', WHERE WHAT IT READS IS OF BULK AT MOST 1048576: true; the input reads as it did. -/
def fnExactShrinkPlateUptoRow : OpenClaim := { program := "ythokmanjiebimaa", sum := "0655d39ee4bece38f50572737d96162d23e68ca7bf09ff3f01a7e9a5466a0c23", func := "loop.example/g03229/laws.FnExactShrinkPlate", spec := "fnExactShrinkPlate", apart := false, narrowed := true }
def FnExactShrinkPlateUptoSaid : Prop := fnExactShrinkPlateUptoRow.holds Try.pinned (OpenSpec.upto fnExactShrinkPlateSpec)

/-- 'laws.FnExactGainOf', WHERE WHAT IT READS IS OF BULK AT MOST 1048576: true; the input reads as it did. -/
def fnExactGainOfUptoRow : OpenClaim := { program := "ythokmanjiebimaa", sum := "0655d39ee4bece38f50572737d96162d23e68ca7bf09ff3f01a7e9a5466a0c23", func := "loop.example/g03229/laws.FnExactGainOf", spec := "fnExactGainOf", apart := false, narrowed := true }
def FnExactGainOfUptoSaid : Prop := fnExactGainOfUptoRow.holds Try.pinned (OpenSpec.upto fnExactGainOfSpec)

/-- 'laws.FnExactRunsOf', WHERE WHAT IT READS IS OF BULK AT MOST 1048576: true; the input reads as it did. -/
def fnExactRunsOfUptoRow : OpenClaim := { program := "ythokmanjiebimaa", sum := "0655d39ee4bece38f50572737d96162d23e68ca7bf09ff3f01a7e9a5466a0c23", func := "loop.example/g03229/laws.FnExactRunsOf", spec := "fnExactRunsOf", apart := false, narrowed := true }
def FnExactRunsOfUptoSaid : Prop := fnExactRunsOfUptoRow.holds Try.pinned (OpenSpec.upto fnExactRunsOfSpec)

/-- 'laws.FnExactPlateOfRuns', WHERE WHAT IT READS IS OF BULK AT MOST 1048576: true; the input reads as it did. -/
def fnExactPlateOfRunsUptoRow : OpenClaim := { program := "ythokmanjiebimaa", sum := "0655d39ee4bece38f50572737d96162d23e68ca7bf09ff3f01a7e9a5466a0c23", func := "loop.example/g03229/laws.FnExactPlateOfRuns", spec := "fnExactPlateOfRuns", apart := false, narrowed := true }
def FnExactPlateOfRunsUptoSaid : Prop := fnExactPlateOfRunsUptoRow.holds Try.pinned (OpenSpec.upto fnExactPlateOfRunsSpec)

/-- 'laws.FnExactToneOf', WHERE WHAT IT READS IS OF BULK AT MOST 1048576: true; the input reads as it did. -/
def fnExactToneOfUptoRow : OpenClaim := { program := "ythokmanjiebimaa", sum := "0655d39ee4bece38f50572737d96162d23e68ca7bf09ff3f01a7e9a5466a0c23", func := "loop.example/g03229/laws.FnExactToneOf", spec := "fnExactToneOf", apart := false, narrowed := true }
def FnExactToneOfUptoSaid : Prop := fnExactToneOfUptoRow.holds Try.pinned (OpenSpec.upto fnExactToneOfSpec)

end Rows
end Go.Proofs.Ythokmanjiebimaa
