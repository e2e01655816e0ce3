/-
  No cell of these rows narrows 'for every input' (looked for: loops, veiled, ifaces, maps, wideKeys, modest, calm, conditions, laid).
  DERIVED. THE GIVEN ROWS OF THIS SEAT. 11 by the template 'for every input the law returns true; each argument reads behind the call as it read before'; 0 by the template 'total and deterministic' (their statements: YtdcengccdoohbaaTotals.lean).
  GIVEN WITH THE SEED: the statements are not yours to turn. If you find one false, say at which input.
  Laid BY PROGRAM, IN A SANDBOX (cutbox-rows.mjs): the forced cells as the released guide's own fill.sh prints them over the translation a6608322ae1d2c0d… (all of the seat's roots in one cut). By AI agents, Wed Nov 11 2026. No macro, syntax, notation, axiom, sorry.
-/
import Derived.Test.YtdcengccdoohbaaChecked
import GoSem.Claim
import GoSem.ClaimJoined
import GoSem.ClaimMapViews
import Derived.JoinedTies
import Derived.KernelRfl
namespace Go.Proofs.Ytdcengccdoohbaa
/- THE CELL 'sum', in the pinned program and in every row, IS THE sha256 OF THE DUMP (.gsa) THAT YtdcengccdoohbaaProg.lean LOADS. Nothing in Lean hashes anything: it is a label: what it is worth is what the hold of that sum in a sandbox is worth. -/
noncomputable def Try.pinned : Pinned := { name := "ytdcengccdoohbaa", sum := "a6608322ae1d2c0d94c7ace084950453cde1564c17a44e296adda7bc216aac18", checked := Try.checked }
namespace Rows
def none {H : Type} : Left H := { results := [], args := [] }

/-- 'laws.FnTiled': WHATEVER THE INPUT: true; the input reads as it did. -/
def fnTiledSpec : ChangeSpec := { name := "fnTiled", fn := fun _ => fun
  | [d] => { results := [.lit (.bool true)], args := [d] }
  | _ => none }
def fnTiledRow : OpenClaim := { program := "ytdcengccdoohbaa", sum := "a6608322ae1d2c0d94c7ace084950453cde1564c17a44e296adda7bc216aac18", func := "loop.example/g03229/laws.FnTiled", spec := "fnTiled", plainKeys := false, apart := false }
def FnTiledSaid : Prop := fnTiledRow.holds Try.pinned (OpenSpec.ofChange fnTiledSpec)

/-- ITS FALSE NEIGHBOUR: 'it returns false'. Refute it at one input. -/
def fnTiledWrong : ChangeSpec := { name := "fnTiled", fn := fun _ => fun
  | [d] => { results := [.lit (.bool false)], args := [d] }
  | _ => none }
def FnTiledWrongFalsely : Prop := fnTiledRow.holds Try.pinned (OpenSpec.ofChange fnTiledWrong)

/-- 'laws.FnTurned': WHATEVER THE INPUT: true; the input reads as it did. -/
def fnTurnedSpec : ChangeSpec := { name := "fnTurned", fn := fun _ => fun
  | [d] => { results := [.lit (.bool true)], args := [d] }
  | _ => none }
def fnTurnedRow : OpenClaim := { program := "ytdcengccdoohbaa", sum := "a6608322ae1d2c0d94c7ace084950453cde1564c17a44e296adda7bc216aac18", func := "loop.example/g03229/laws.FnTurned", spec := "fnTurned", plainKeys := false, apart := false }
def FnTurnedSaid : Prop := fnTurnedRow.holds Try.pinned (OpenSpec.ofChange fnTurnedSpec)

/-- ITS FALSE NEIGHBOUR: 'it returns false'. Refute it at one input. -/
def fnTurnedWrong : ChangeSpec := { name := "fnTurned", fn := fun _ => fun
  | [d] => { results := [.lit (.bool false)], args := [d] }
  | _ => none }
def FnTurnedWrongFalsely : Prop := fnTurnedRow.holds Try.pinned (OpenSpec.ofChange fnTurnedWrong)

/-- 'laws.FnNegative': WHATEVER THE INPUT: true; the input reads as it did. -/
def fnNegativeSpec : ChangeSpec := { name := "fnNegative", fn := fun _ => fun
  | [d] => { results := [.lit (.bool true)], args := [d] }
  | _ => none }
def fnNegativeRow : OpenClaim := { program := "ytdcengccdoohbaa", sum := "a6608322ae1d2c0d94c7ace084950453cde1564c17a44e296adda7bc216aac18", func := "loop.example/g03229/laws.FnNegative", spec := "fnNegative", plainKeys := false, apart := false }
def FnNegativeSaid : Prop := fnNegativeRow.holds Try.pinned (OpenSpec.ofChange fnNegativeSpec)

/-- ITS FALSE NEIGHBOUR: 'it returns false'. Refute it at one input. -/
def fnNegativeWrong : ChangeSpec := { name := "fnNegative", fn := fun _ => fun
  | [d] => { results := [.lit (.bool false)], args := [d] }
  | _ => none }
def FnNegativeWrongFalsely : Prop := fnNegativeRow.holds Try.pinned (OpenSpec.ofChange fnNegativeWrong)

/-- 'laws.FnCovered': WHATEVER THE INPUT: true; the input reads as it did. -/
def fnCoveredSpec : ChangeSpec := { name := "fnCovered", fn := fun _ => fun
  | [d] => { results := [.lit (.bool true)], args := [d] }
  | _ => none }
def fnCoveredRow : OpenClaim := { program := "ytdcengccdoohbaa", sum := "a6608322ae1d2c0d94c7ace084950453cde1564c17a44e296adda7bc216aac18", func := "loop.example/g03229/laws.FnCovered", spec := "fnCovered", plainKeys := false, apart := false }
def FnCoveredSaid : Prop := fnCoveredRow.holds Try.pinned (OpenSpec.ofChange fnCoveredSpec)

/-- ITS FALSE NEIGHBOUR: 'it returns false'. Refute it at one input. -/
def fnCoveredWrong : ChangeSpec := { name := "fnCovered", fn := fun _ => fun
  | [d] => { results := [.lit (.bool false)], args := [d] }
  | _ => none }
def FnCoveredWrongFalsely : Prop := fnCoveredRow.holds Try.pinned (OpenSpec.ofChange fnCoveredWrong)

/-- 'laws.FnBayer': WHATEVER THE INPUT: true; the input reads as it did. -/
def fnBayerSpec : ChangeSpec := { name := "fnBayer", fn := fun _ => fun
  | [d] => { results := [.lit (.bool true)], args := [d] }
  | _ => none }
def fnBayerRow : OpenClaim := { program := "ytdcengccdoohbaa", sum := "a6608322ae1d2c0d94c7ace084950453cde1564c17a44e296adda7bc216aac18", func := "loop.example/g03229/laws.FnBayer", spec := "fnBayer", plainKeys := false, apart := false }
def FnBayerSaid : Prop := fnBayerRow.holds Try.pinned (OpenSpec.ofChange fnBayerSpec)

/-- ITS FALSE NEIGHBOUR: 'it returns false'. Refute it at one input. -/
def fnBayerWrong : ChangeSpec := { name := "fnBayer", fn := fun _ => fun
  | [d] => { results := [.lit (.bool false)], args := [d] }
  | _ => none }
def FnBayerWrongFalsely : Prop := fnBayerRow.holds Try.pinned (OpenSpec.ofChange fnBayerWrong)

/-- 'laws.FnDoubled': WHATEVER THE INPUT: true; the input reads as it did. -/
def fnDoubledSpec : ChangeSpec := { name := "fnDoubled", fn := fun _ => fun
  | [d] => { results := [.lit (.bool true)], args := [d] }
  | _ => none }
def fnDoubledRow : OpenClaim := { program := "ytdcengccdoohbaa", sum := "a6608322ae1d2c0d94c7ace084950453cde1564c17a44e296adda7bc216aac18", func := "loop.example/g03229/laws.FnDoubled", spec := "fnDoubled", plainKeys := false, apart := false }
def FnDoubledSaid : Prop := fnDoubledRow.holds Try.pinned (OpenSpec.ofChange fnDoubledSpec)

/-- ITS FALSE NEIGHBOUR: 'it returns false'. Refute it at one input. -/
def fnDoubledWrong : ChangeSpec := { name := "fnDoubled", fn := fun _ => fun
  | [d] => { results := [.lit (.bool false)], args := [d] }
  | _ => none }
def FnDoubledWrongFalsely : Prop := fnDoubledRow.holds Try.pinned (OpenSpec.ofChange fnDoubledWrong)

/-- 'laws.FnReversed': WHATEVER THE INPUT: true; the input reads as it did. -/
def fnReversedSpec : ChangeSpec := { name := "fnReversed", fn := fun _ => fun
  | [d] => { results := [.lit (.bool true)], args := [d] }
  | _ => none }
def fnReversedRow : OpenClaim := { program := "ytdcengccdoohbaa", sum := "a6608322ae1d2c0d94c7ace084950453cde1564c17a44e296adda7bc216aac18", func := "loop.example/g03229/laws.FnReversed", spec := "fnReversed", plainKeys := false, apart := false }
def FnReversedSaid : Prop := fnReversedRow.holds Try.pinned (OpenSpec.ofChange fnReversedSpec)

/-- ITS FALSE NEIGHBOUR: 'it returns false'. Refute it at one input. -/
def fnReversedWrong : ChangeSpec := { name := "fnReversed", fn := fun _ => fun
  | [d] => { results := [.lit (.bool false)], args := [d] }
  | _ => none }
def FnReversedWrongFalsely : Prop := fnReversedRow.holds Try.pinned (OpenSpec.ofChange fnReversedWrong)

/-- 'laws.FnShifted': WHATEVER THE INPUT: true; the input reads as it did. -/
def fnShiftedSpec : ChangeSpec := { name := "fnShifted", fn := fun _ => fun
  | [d] => { results := [.lit (.bool true)], args := [d] }
  | _ => none }
def fnShiftedRow : OpenClaim := { program := "ytdcengccdoohbaa", sum := "a6608322ae1d2c0d94c7ace084950453cde1564c17a44e296adda7bc216aac18", func := "loop.example/g03229/laws.FnShifted", spec := "fnShifted", plainKeys := false, apart := false }
def FnShiftedSaid : Prop := fnShiftedRow.holds Try.pinned (OpenSpec.ofChange fnShiftedSpec)

/-- ITS FALSE NEIGHBOUR: 'it returns false'. Refute it at one input. -/
def fnShiftedWrong : ChangeSpec := { name := "fnShifted", fn := fun _ => fun
  | [d] => { results := [.lit (.bool false)], args := [d] }
  | _ => none }
def FnShiftedWrongFalsely : Prop := fnShiftedRow.holds Try.pinned (OpenSpec.ofChange fnShiftedWrong)

/-- 'laws.FnSpiral': WHATEVER THE INPUT: true; the input reads as it did. -/
def fnSpiralSpec : ChangeSpec := { name := "fnSpiral", fn := fun _ => fun
  | [d] => { results := [.lit (.bool true)], args := [d] }
  | _ => none }
def fnSpiralRow : OpenClaim := { program := "ytdcengccdoohbaa", sum := "a6608322ae1d2c0d94c7ace084950453cde1564c17a44e296adda7bc216aac18", func := "loop.example/g03229/laws.FnSpiral", spec := "fnSpiral", plainKeys := false, apart := false }
def FnSpiralSaid : Prop := fnSpiralRow.holds Try.pinned (OpenSpec.ofChange fnSpiralSpec)

/-- ITS FALSE NEIGHBOUR: 'it returns false'. Refute it at one input. -/
def fnSpiralWrong : ChangeSpec := { name := "fnSpiral", fn := fun _ => fun
  | [d] => { results := [.lit (.bool false)], args := [d] }
  | _ => none }
def FnSpiralWrongFalsely : Prop := fnSpiralRow.holds Try.pinned (OpenSpec.ofChange fnSpiralWrong)

/-- 'laws.FnNested': WHATEVER THE INPUT: true; the input reads as it did. -/
def fnNestedSpec : ChangeSpec := { name := "fnNested", fn := fun _ => fun
  | [d] => { results := [.lit (.bool true)], args := [d] }
  | _ => none }
def fnNestedRow : OpenClaim := { program := "ytdcengccdoohbaa", sum := "a6608322ae1d2c0d94c7ace084950453cde1564c17a44e296adda7bc216aac18", func := "loop.example/g03229/laws.FnNested", spec := "fnNested", plainKeys := false, apart := false }
def FnNestedSaid : Prop := fnNestedRow.holds Try.pinned (OpenSpec.ofChange fnNestedSpec)

/-- ITS FALSE NEIGHBOUR: 'it returns false'. Refute it at one input. -/
def fnNestedWrong : ChangeSpec := { name := "fnNested", fn := fun _ => fun
  | [d] => { results := [.lit (.bool false)], args := [d] }
  | _ => none }
def FnNestedWrongFalsely : Prop := fnNestedRow.holds Try.pinned (OpenSpec.ofChange fnNestedWrong)

/-- 'laws.FnSpread': WHATEVER THE INPUT: true; the input reads as it did. -/
def fnSpreadSpec : ChangeSpec := { name := "fnSpread", fn := fun _ => fun
  | [d] => { results := [.lit (.bool true)], args := [d] }
  | _ => none }
def fnSpreadRow : OpenClaim := { program := "ytdcengccdoohbaa", sum := "a6608322ae1d2c0d94c7ace084950453cde1564c17a44e296adda7bc216aac18", func := "loop.example/g03229/laws.FnSpread", spec := "fnSpread", plainKeys := false, apart := false }
def FnSpreadSaid : Prop := fnSpreadRow.holds Try.pinned (OpenSpec.ofChange fnSpreadSpec)

/-- ITS FALSE NEIGHBOUR: 'it returns false'. Refute it at one input. -/
def fnSpreadWrong : ChangeSpec := { name := "fnSpread", fn := fun _ => fun
  | [d] => { results := [.lit (.bool false)], args := [d] }
  | _ => none }
def FnSpreadWrongFalsely : Prop := fnSpreadRow.holds Try.pinned (OpenSpec.ofChange fnSpreadWrong)

/- THE SECOND FORM. 'bulk': how many values and letters a reading holds, each counted each time it is reached (what is shared counts as often as it is met; a slice's spare places count too). A statement '..UptoSaid' is the law's where the arguments, and the package variables that the reading takes, are together of bulk at most 1048576: NARROWER than '..Said'. Prove '..Said' where nothing that the law and all that it calls make is longer than what came in: it says more and counts as full. Else prove '..UptoSaid'. A law counts once. -/
mutual
def uptoBulk {H : Type} : DataW H → Nat
  | .lit (.string bytes) => bytes.length + 1
  | .lit _ => 1
  | .nil => 1
  | .ptr d => uptoBulk d + 1
  | .slice elems spare => uptoBulkAll elems + uptoBulkAll spare + 1
  | .agg parts => uptoBulkAll parts + 1
  | .iface _ d => uptoBulk d + 1
  | .map entries => uptoBulkEntries entries + 1
  | .held _ => 1
def uptoBulkAll {H : Type} : List (DataW H) → Nat
  | [] => 0
  | d :: r => uptoBulk d + uptoBulkAll r
def uptoBulkEntries {H : Type} : List (Lit × DataW H) → Nat
  | [] => 0
  | x :: r => uptoBulkEntry x + uptoBulkEntries r
def uptoBulkEntry {H : Type} : Lit × DataW H → Nat
  | (.string bytes, d) => bytes.length + uptoBulk d + 1
  | (_, d) => uptoBulk d + 1
 end
def uptoSmall : (H : Type) → List (DataW H) → Bool := fun _ ds => decide (uptoBulkAll ds ≤ 1048576)
def OpenSpec.upto (s : _root_.Go.ChangeSpec) : _root_.Go.OpenSpec := { _root_.Go.OpenSpec.ofChange s with cond := some uptoSmall }

/-- 'laws.FnTiled', WHERE WHAT IT READS IS OF BULK AT MOST 1048576: true; the input reads as it did. -/
def fnTiledUptoRow : OpenClaim := { program := "ytdcengccdoohbaa", sum := "a6608322ae1d2c0d94c7ace084950453cde1564c17a44e296adda7bc216aac18", func := "loop.example/g03229/laws.FnTiled", spec := "fnTiled", plainKeys := false, apart := false, narrowed := true }
def FnTiledUptoSaid : Prop := fnTiledUptoRow.holds Try.pinned (OpenSpec.upto fnTiledSpec)

/-- 'laws.FnTurned', WHERE WHAT IT READS IS OF BULK AT MOST 1048576: true; the input reads as it did. -/
def fnTurnedUptoRow : OpenClaim := { program := "ytdcengccdoohbaa", sum := "a6608322ae1d2c0d94c7ace084950453cde1564c17a44e296adda7bc216aac18", func := "loop.example/g03229/laws.FnTurned", spec := "fnTurned", plainKeys := false, apart := false, narrowed := true }
def FnTurnedUptoSaid : Prop := fnTurnedUptoRow.holds Try.pinned (OpenSpec.upto fnTurnedSpec)

/-- 'laws.FnNegative', WHERE WHAT IT READS IS OF BULK AT MOST 1048576: true; the input reads as it did. -/
def fnNegativeUptoRow : OpenClaim := { program := "ytdcengccdoohbaa", sum := "a6608322ae1d2c0d94c7ace084950453cde1564c17a44e296adda7bc216aac18", func := "loop.example/g03229/laws.FnNegative", spec := "fnNegative", plainKeys := false, apart := false, narrowed := true }
def FnNegativeUptoSaid : Prop := fnNegativeUptoRow.holds Try.pinned (OpenSpec.upto fnNegativeSpec)

/-- 'laws.FnCovered', WHERE WHAT IT READS IS OF BULK AT MOST 1048576: true; the input reads as it did. -/
def fnCoveredUptoRow : OpenClaim := { program := "ytdcengccdoohbaa", sum := "a6608322ae1d2c0d94c7ace084950453cde1564c17a44e296adda7bc216aac18", func := "loop.example/g03229/laws.FnCovered", spec := "fnCovered", plainKeys := false, apart := false, narrowed := true }
def FnCoveredUptoSaid : Prop := fnCoveredUptoRow.holds Try.pinned (OpenSpec.upto fnCoveredSpec)

/-- 'laws.FnBayer', WHERE WHAT IT READS IS OF BULK AT MOST 1048576: true; the input reads as it did. -/
def fnBayerUptoRow : OpenClaim := { program := "ytdcengccdoohbaa", sum := "a6608322ae1d2c0d94c7ace084950453cde1564c17a44e296adda7bc216aac18", func := "loop.example/g03229/laws.FnBayer", spec := "fnBayer", plainKeys := false, apart := false, narrowed := true }
def FnBayerUptoSaid : Prop := fnBayerUptoRow.holds Try.pinned (OpenSpec.upto fnBayerSpec)

/-- 'laws.FnDoubled', WHERE WHAT IT READS IS OF BULK AT MOST 1048576: true; the input reads as it did. -/
def fnDoubledUptoRow : OpenClaim := { program := "ytdcengccdoohbaa", sum := "a6608322ae1d2c0d94c7ace084950453cde1564c17a44e296adda7bc216aac18", func := "loop.example/g03229/laws.FnDoubled", spec := "fnDoubled", plainKeys := false, apart := false, narrowed := true }
def FnDoubledUptoSaid : Prop := fnDoubledUptoRow.holds Try.pinned (OpenSpec.upto fnDoubledSpec)

/-- 'laws.FnReversed', WHERE WHAT IT READS IS OF BULK AT MOST 1048576: true; the input reads as it did. -/
def fnReversedUptoRow : OpenClaim := { program := "ytdcengccdoohbaa", sum := "a6608322ae1d2c0d94c7ace084950453cde1564c17a44e296adda7bc216aac18", func := "loop.example/g03229/laws.FnReversed", spec := "fnReversed", plainKeys := false, apart := false, narrowed := true }
def FnReversedUptoSaid : Prop := fnReversedUptoRow.holds Try.pinned (OpenSpec.upto fnReversedSpec)

/-- 'laws.FnShifted', WHERE WHAT IT READS IS OF BULK AT MOST 1048576: true; the input reads as it did. -/
def fnShiftedUptoRow : OpenClaim := { program := "ytdcengccdoohbaa", sum := "a6608322ae1d2c0d94c7ace084950453cde1564c17a44e296adda7bc216aac18", func := "loop.example/g03229/laws.FnShifted", spec := "fnShifted", plainKeys := false, apart := false, narrowed := true }
def FnShiftedUptoSaid : Prop := fnShiftedUptoRow.holds Try.pinned (OpenSpec.upto fnShiftedSpec)

/-- 'laws.FnSpiral', WHERE WHAT IT READS IS OF BULK AT MOST 1048576: true; the input reads as it did. -/
def fnSpiralUptoRow : OpenClaim := { program := "ytdcengccdoohbaa", sum := "a6608322ae1d2c0d94c7ace084950453cde1564c17a44e296adda7bc216aac18", func := "loop.example/g03229/laws.FnSpiral", spec := "fnSpiral", plainKeys := false, apart := false, narrowed := true }
def FnSpiralUptoSaid : Prop := fnSpiralUptoRow.holds Try.pinned (OpenSpec.upto fnSpiralSpec)

/-- 'laws.FnNested', WHERE WHAT IT READS IS OF BULK AT MOST 1048576: true; the input reads as it did. -/
def fnNestedUptoRow : OpenClaim := { program := "ytdcengccdoohbaa", sum := "a6608322ae1d2c0d94c7ace084950453cde1564c17a44e296adda7bc216aac18", func := "loop.example/g03229/laws.FnNested", spec := "fnNested", plainKeys := false, apart := false, narrowed := true }
def FnNestedUptoSaid : Prop := fnNestedUptoRow.holds Try.pinned (OpenSpec.upto fnNestedSpec)

/-- 'laws.FnSpread', WHERE WHAT IT READS IS OF BULK AT MOST 1048576: true; the input reads as it did. -/
def fnSpreadUptoRow : OpenClaim := { program := "ytdcengccdoohbaa", sum := "a6608322ae1d2c0d94c7ace084950453cde1564c17a44e296adda7bc216aac18", func := "loop.example/g03229/laws.FnSpread", spec := "fnSpread", plainKeys := false, apart := false, narrowed := true }
def FnSpreadUptoSaid : Prop := fnSpreadUptoRow.holds Try.pinned (OpenSpec.upto fnSpreadSpec)

end Rows
end Go.Proofs.Ytdcengccdoohbaa
