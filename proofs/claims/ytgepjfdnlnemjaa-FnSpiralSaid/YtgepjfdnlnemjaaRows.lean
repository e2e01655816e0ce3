/-
  No cell of these rows narrows 'for every input' (looked for: loops, veiled, ifaces, maps, wideKeys, modest, calm, conditions, laid).
  DERIVED. THE GIVEN ROWS OF THIS SEAT. 8 by the template 'for every input the law returns true; each argument reads behind the call as it read before'; 0 by the template 'total and deterministic' (their statements: YtgepjfdnlnemjaaTotals.lean).
  GIVEN WITH THE SEED: the statements are not yours to turn. If you find one false, say at which input.
  Laid BY PROGRAM, IN A SANDBOX (cutbox-rows.mjs): the forced cells as the released guide's own fill.sh prints them over the translation 8515609979863891… (all of the seat's roots in one cut). By AI agents, Wed Nov 11 2026. No macro, syntax, notation, axiom, sorry.
-/
import Derived.Test.YtgepjfdnlnemjaaChecked
import GoSem.Claim
import GoSem.ClaimJoined
import GoSem.ClaimMapViews
import Derived.JoinedTies
import Derived.KernelRfl
namespace Go.Proofs.Ytgepjfdnlnemjaa
/- THE CELL 'sum', in the pinned program and in every row, IS THE sha256 OF THE DUMP (.gsa) THAT YtgepjfdnlnemjaaProg.lean LOADS. Nothing in Lean hashes anything: it is a label: what it is worth is what the hold of that sum in a sandbox is worth. -/
noncomputable def Try.pinned : Pinned := { name := "ytgepjfdnlnemjaa", sum := "851560997986389114f71a64ddffdfd92def0443394dd1400af519acb248e452", checked := Try.checked }
namespace Rows
def none {H : Type} : Left H := { results := [], args := [] }

/-- 'laws.FnTiles': WHATEVER THE INPUT: true; the input reads as it did. -/
def fnTilesSpec : ChangeSpec := { name := "fnTiles", fn := fun _ => fun
  | [d] => { results := [.lit (.bool true)], args := [d] }
  | _ => none }
def fnTilesRow : OpenClaim := { program := "ytgepjfdnlnemjaa", sum := "851560997986389114f71a64ddffdfd92def0443394dd1400af519acb248e452", func := "loop.example/g03229/laws.FnTiles", spec := "fnTiles", plainKeys := false, apart := false }
def FnTilesSaid : Prop := fnTilesRow.holds Try.pinned (OpenSpec.ofChange fnTilesSpec)

/-- ITS FALSE NEIGHBOUR: 'it returns false'. Refute it at one input. -/
def fnTilesWrong : ChangeSpec := { name := "fnTiles", fn := fun _ => fun
  | [d] => { results := [.lit (.bool false)], args := [d] }
  | _ => none }
def FnTilesWrongFalsely : Prop := fnTilesRow.holds Try.pinned (OpenSpec.ofChange fnTilesWrong)

/-- 'laws.FnStacked': WHATEVER THE INPUT: true; the input reads as it did. -/
def fnStackedSpec : ChangeSpec := { name := "fnStacked", fn := fun _ => fun
  | [d] => { results := [.lit (.bool true)], args := [d] }
  | _ => none }
def fnStackedRow : OpenClaim := { program := "ytgepjfdnlnemjaa", sum := "851560997986389114f71a64ddffdfd92def0443394dd1400af519acb248e452", func := "loop.example/g03229/laws.FnStacked", spec := "fnStacked", plainKeys := false, apart := false }
def FnStackedSaid : Prop := fnStackedRow.holds Try.pinned (OpenSpec.ofChange fnStackedSpec)

/-- ITS FALSE NEIGHBOUR: 'it returns false'. Refute it at one input. -/
def fnStackedWrong : ChangeSpec := { name := "fnStacked", fn := fun _ => fun
  | [d] => { results := [.lit (.bool false)], args := [d] }
  | _ => none }
def FnStackedWrongFalsely : Prop := fnStackedRow.holds Try.pinned (OpenSpec.ofChange fnStackedWrong)

/-- 'laws.FnLevels': WHATEVER THE INPUT: true; the input reads as it did. -/
def fnLevelsSpec : ChangeSpec := { name := "fnLevels", fn := fun _ => fun
  | [d] => { results := [.lit (.bool true)], args := [d] }
  | _ => none }
def fnLevelsRow : OpenClaim := { program := "ytgepjfdnlnemjaa", sum := "851560997986389114f71a64ddffdfd92def0443394dd1400af519acb248e452", func := "loop.example/g03229/laws.FnLevels", spec := "fnLevels", plainKeys := false, apart := false }
def FnLevelsSaid : Prop := fnLevelsRow.holds Try.pinned (OpenSpec.ofChange fnLevelsSpec)

/-- ITS FALSE NEIGHBOUR: 'it returns false'. Refute it at one input. -/
def fnLevelsWrong : ChangeSpec := { name := "fnLevels", fn := fun _ => fun
  | [d] => { results := [.lit (.bool false)], args := [d] }
  | _ => none }
def FnLevelsWrongFalsely : Prop := fnLevelsRow.holds Try.pinned (OpenSpec.ofChange fnLevelsWrong)

/-- 'laws.FnNearest': WHATEVER THE INPUT: true; the input reads as it did. -/
def fnNearestSpec : ChangeSpec := { name := "fnNearest", fn := fun _ => fun
  | [d] => { results := [.lit (.bool true)], args := [d] }
  | _ => none }
def fnNearestRow : OpenClaim := { program := "ytgepjfdnlnemjaa", sum := "851560997986389114f71a64ddffdfd92def0443394dd1400af519acb248e452", func := "loop.example/g03229/laws.FnNearest", spec := "fnNearest", plainKeys := false, apart := false }
def FnNearestSaid : Prop := fnNearestRow.holds Try.pinned (OpenSpec.ofChange fnNearestSpec)

/-- ITS FALSE NEIGHBOUR: 'it returns false'. Refute it at one input. -/
def fnNearestWrong : ChangeSpec := { name := "fnNearest", fn := fun _ => fun
  | [d] => { results := [.lit (.bool false)], args := [d] }
  | _ => none }
def FnNearestWrongFalsely : Prop := fnNearestRow.holds Try.pinned (OpenSpec.ofChange fnNearestWrong)

/-- 'laws.FnNegative': WHATEVER THE INPUT: true; the input reads as it did. -/
def fnNegativeSpec : ChangeSpec := { name := "fnNegative", fn := fun _ => fun
  | [d] => { results := [.lit (.bool true)], args := [d] }
  | _ => none }
def fnNegativeRow : OpenClaim := { program := "ytgepjfdnlnemjaa", sum := "851560997986389114f71a64ddffdfd92def0443394dd1400af519acb248e452", func := "loop.example/g03229/laws.FnNegative", spec := "fnNegative", plainKeys := false, apart := false }
def FnNegativeSaid : Prop := fnNegativeRow.holds Try.pinned (OpenSpec.ofChange fnNegativeSpec)

/-- ITS FALSE NEIGHBOUR: 'it returns false'. Refute it at one input. -/
def fnNegativeWrong : ChangeSpec := { name := "fnNegative", fn := fun _ => fun
  | [d] => { results := [.lit (.bool false)], args := [d] }
  | _ => none }
def FnNegativeWrongFalsely : Prop := fnNegativeRow.holds Try.pinned (OpenSpec.ofChange fnNegativeWrong)

/-- 'laws.FnCovered': WHATEVER THE INPUT: true; the input reads as it did. -/
def fnCoveredSpec : ChangeSpec := { name := "fnCovered", fn := fun _ => fun
  | [d] => { results := [.lit (.bool true)], args := [d] }
  | _ => none }
def fnCoveredRow : OpenClaim := { program := "ytgepjfdnlnemjaa", sum := "851560997986389114f71a64ddffdfd92def0443394dd1400af519acb248e452", func := "loop.example/g03229/laws.FnCovered", spec := "fnCovered", plainKeys := false, apart := false }
def FnCoveredSaid : Prop := fnCoveredRow.holds Try.pinned (OpenSpec.ofChange fnCoveredSpec)

/-- ITS FALSE NEIGHBOUR: 'it returns false'. Refute it at one input. -/
def fnCoveredWrong : ChangeSpec := { name := "fnCovered", fn := fun _ => fun
  | [d] => { results := [.lit (.bool false)], args := [d] }
  | _ => none }
def FnCoveredWrongFalsely : Prop := fnCoveredRow.holds Try.pinned (OpenSpec.ofChange fnCoveredWrong)

/-- 'laws.FnSpiral': WHATEVER THE INPUT: true; the input reads as it did. -/
def fnSpiralSpec : ChangeSpec := { name := "fnSpiral", fn := fun _ => fun
  | [d] => { results := [.lit (.bool true)], args := [d] }
  | _ => none }
def fnSpiralRow : OpenClaim := { program := "ytgepjfdnlnemjaa", sum := "851560997986389114f71a64ddffdfd92def0443394dd1400af519acb248e452", func := "loop.example/g03229/laws.FnSpiral", spec := "fnSpiral", plainKeys := false, apart := false }
def FnSpiralSaid : Prop := fnSpiralRow.holds Try.pinned (OpenSpec.ofChange fnSpiralSpec)

/-- ITS FALSE NEIGHBOUR: 'it returns false'. Refute it at one input. -/
def fnSpiralWrong : ChangeSpec := { name := "fnSpiral", fn := fun _ => fun
  | [d] => { results := [.lit (.bool false)], args := [d] }
  | _ => none }
def FnSpiralWrongFalsely : Prop := fnSpiralRow.holds Try.pinned (OpenSpec.ofChange fnSpiralWrong)

/-- 'laws.FnSpread': WHATEVER THE INPUT: true; the input reads as it did. -/
def fnSpreadSpec : ChangeSpec := { name := "fnSpread", fn := fun _ => fun
  | [d] => { results := [.lit (.bool true)], args := [d] }
  | _ => none }
def fnSpreadRow : OpenClaim := { program := "ytgepjfdnlnemjaa", sum := "851560997986389114f71a64ddffdfd92def0443394dd1400af519acb248e452", func := "loop.example/g03229/laws.FnSpread", spec := "fnSpread", plainKeys := false, apart := false }
def FnSpreadSaid : Prop := fnSpreadRow.holds Try.pinned (OpenSpec.ofChange fnSpreadSpec)

/-- ITS FALSE NEIGHBOUR: 'it returns false'. Refute it at one input. -/
def fnSpreadWrong : ChangeSpec := { name := "fnSpread", fn := fun _ => fun
  | [d] => { results := [.lit (.bool false)], args := [d] }
  | _ => none }
def FnSpreadWrongFalsely : Prop := fnSpreadRow.holds Try.pinned (OpenSpec.ofChange fnSpreadWrong)

/- THE SECOND FORM. 'bulk': how many values and letters a reading holds, each counted each time it is reached (what is shared counts as often as it is met; a slice's spare places count too). A statement '..UptoSaid' is the law's where the arguments, and the package variables that the reading takes, are together of bulk at most 1048576: NARROWER than '..Said'. Prove '..Said' where nothing that the law and all that it calls make is longer than what came in: it says more and counts as full. Else prove '..UptoSaid'. A law counts once. -/
mutual
def uptoBulk {H : Type} : DataW H → Nat
  | .lit (.string bytes) => bytes.length + 1
  | .lit _ => 1
  | .nil => 1
  | .ptr d => uptoBulk d + 1
  | .slice elems spare => uptoBulkAll elems + uptoBulkAll spare + 1
  | .agg parts => uptoBulkAll parts + 1
  | .iface _ d => uptoBulk d + 1
  | .map entries => uptoBulkEntries entries + 1
  | .held _ => 1
def uptoBulkAll {H : Type} : List (DataW H) → Nat
  | [] => 0
  | d :: r => uptoBulk d + uptoBulkAll r
def uptoBulkEntries {H : Type} : List (Lit × DataW H) → Nat
  | [] => 0
  | x :: r => uptoBulkEntry x + uptoBulkEntries r
def uptoBulkEntry {H : Type} : Lit × DataW H → Nat
  | (.string bytes, d) => bytes.length + uptoBulk d + 1
  | (_, d) => uptoBulk d + 1
 end
def uptoSmall : (H : Type) → List (DataW H) → Bool := fun _ ds => decide (uptoBulkAll ds ≤ 1048576)
def OpenSpec.upto (s : _root_.Go.ChangeSpec) : _root_.Go.OpenSpec := { _root_.Go.OpenSpec.ofChange s with cond := some uptoSmall }

/-- 'laws.FnTiles', WHERE WHAT IT READS IS OF BULK AT MOST 1048576: true; the input reads as it did. -/
def fnTilesUptoRow : OpenClaim := { program := "ytgepjfdnlnemjaa", sum := "851560997986389114f71a64ddffdfd92def0443394dd1400af519acb248e452", func := "loop.example/g03229/laws.FnTiles", spec := "fnTiles", plainKeys := false, apart := false, narrowed := true }
def FnTilesUptoSaid : Prop := fnTilesUptoRow.holds Try.pinned (OpenSpec.upto fnTilesSpec)

/-- 'laws.FnStacked', WHERE WHAT IT READS IS OF BULK AT MOST 1048576: true; the input reads as it did. -/
def fnStackedUptoRow : OpenClaim := { program := "ytgepjfdnlnemjaa", sum := "851560997986389114f71a64ddffdfd92def0443394dd1400af519acb248e452", func := "loop.example/g03229/laws.FnStacked", spec := "fnStacked", plainKeys := false, apart := false, narrowed := true }
def FnStackedUptoSaid : Prop := fnStackedUptoRow.holds Try.pinned (OpenSpec.upto fnStackedSpec)

/-- 'laws.FnLevels', WHERE WHAT IT READS IS OF BULK AT MOST 1048576: true; the input reads as it did. -/
def fnLevelsUptoRow : OpenClaim := { program := "ytgepjfdnlnemjaa", sum := "851560997986389114f71a64ddffdfd92def0443394dd1400af519acb248e452", func := "loop.example/g03229/laws.FnLevels", spec := "fnLevels", plainKeys := false, apart := false, narrowed := true }
def FnLevelsUptoSaid : Prop := fnLevelsUptoRow.holds Try.pinned (OpenSpec.upto fnLevelsSpec)

/-- 'laws.FnNearest', WHERE WHAT IT READS IS OF BULK AT MOST 1048576: true; the input reads as it did. -/
def fnNearestUptoRow : OpenClaim := { program := "ytgepjfdnlnemjaa", sum := "851560997986389114f71a64ddffdfd92def0443394dd1400af519acb248e452", func := "loop.example/g03229/laws.FnNearest", spec := "fnNearest", plainKeys := false, apart := false, narrowed := true }
def FnNearestUptoSaid : Prop := fnNearestUptoRow.holds Try.pinned (OpenSpec.upto fnNearestSpec)

/-- 'laws.FnNegative', WHERE WHAT IT READS IS OF BULK AT MOST 1048576: true; the input reads as it did. -/
def fnNegativeUptoRow : OpenClaim := { program := "ytgepjfdnlnemjaa", sum := "851560997986389114f71a64ddffdfd92def0443394dd1400af519acb248e452", func := "loop.example/g03229/laws.FnNegative", spec := "fnNegative", plainKeys := false, apart := false, narrowed := true }
def FnNegativeUptoSaid : Prop := fnNegativeUptoRow.holds Try.pinned (OpenSpec.upto fnNegativeSpec)

/-- 'laws.FnCovered', WHERE WHAT IT READS IS OF BULK AT MOST 1048576: true; the input reads as it did. -/
def fnCoveredUptoRow : OpenClaim := { program := "ytgepjfdnlnemjaa", sum := "851560997986389114f71a64ddffdfd92def0443394dd1400af519acb248e452", func := "loop.example/g03229/laws.FnCovered", spec := "fnCovered", plainKeys := false, apart := false, narrowed := true }
def FnCoveredUptoSaid : Prop := fnCoveredUptoRow.holds Try.pinned (OpenSpec.upto fnCoveredSpec)

/-- 'laws.FnSpiral', WHERE WHAT IT READS IS OF BULK AT MOST 1048576: true; the input reads as it did. -/
def fnSpiralUptoRow : OpenClaim := { program := "ytgepjfdnlnemjaa", sum := "851560997986389114f71a64ddffdfd92def0443394dd1400af519acb248e452", func := "loop.example/g03229/laws.FnSpiral", spec := "fnSpiral", plainKeys := false, apart := false, narrowed := true }
def FnSpiralUptoSaid : Prop := fnSpiralUptoRow.holds Try.pinned (OpenSpec.upto fnSpiralSpec)

/-- 'laws.FnSpread', WHERE WHAT IT READS IS OF BULK AT MOST 1048576: true; the input reads as it did. -/
def fnSpreadUptoRow : OpenClaim := { program := "ytgepjfdnlnemjaa", sum := "851560997986389114f71a64ddffdfd92def0443394dd1400af519acb248e452", func := "loop.example/g03229/laws.FnSpread", spec := "fnSpread", plainKeys := false, apart := false, narrowed := true }
def FnSpreadUptoSaid : Prop := fnSpreadUptoRow.holds Try.pinned (OpenSpec.upto fnSpreadSpec)

end Rows
end Go.Proofs.Ytgepjfdnlnemjaa
