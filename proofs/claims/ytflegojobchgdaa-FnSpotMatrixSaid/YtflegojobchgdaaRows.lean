/-
  No cell of these rows narrows 'for every input' (looked for: loops, veiled, ifaces, maps, wideKeys, modest, calm, conditions, laid).
  DERIVED. THE GIVEN ROWS OF THIS SEAT. 6 by the template 'for every input the law returns true; each argument reads behind the call as it read before'; 0 by the template 'total and deterministic' (their statements: YtflegojobchgdaaTotals.lean).
  GIVEN WITH THE SEED: the statements are not yours to turn. If you find one false, say at which input.
  Laid BY PROGRAM, IN A SANDBOX (cutbox-rows.mjs): the forced cells as the released guide's own fill.sh prints them over the translation 5e3206c579cbf81f… (all of the seat's roots in one cut). By AI agents, Wed Nov 11 2026. No macro, syntax, notation, axiom, sorry.
-/
import Derived.Test.YtflegojobchgdaaChecked
import GoSem.Claim
import GoSem.ClaimJoined
import GoSem.ClaimMapViews
import Derived.JoinedTies
import Derived.KernelRfl
namespace Go.Proofs.Ytflegojobchgdaa
/- THE CELL 'sum', in the pinned program and in every row, IS THE sha256 OF THE DUMP (.gsa) THAT YtflegojobchgdaaProg.lean LOADS. Nothing in Lean hashes anything: it is a label: what it is worth is what the hold of that sum in a sandbox is worth. -/
noncomputable def Try.pinned : Pinned := { name := "ytflegojobchgdaa", sum := "5e3206c579cbf81f8f18f46e05757fac81329a96876f7bdf230ba4c8d7e44e09", checked := Try.checked }
namespace Rows
def none {H : Type} : Left H := { results := [], args := [] }

/-- 'laws.FnLattice': WHATEVER THE INPUT: true; the input reads as it did. -/
def fnLatticeSpec : ChangeSpec := { name := "fnLattice", fn := fun _ => fun
  | [d] => { results := [.lit (.bool true)], args := [d] }
  | _ => none }
def fnLatticeRow : OpenClaim := { program := "ytflegojobchgdaa", sum := "5e3206c579cbf81f8f18f46e05757fac81329a96876f7bdf230ba4c8d7e44e09", func := "loop.example/g03229/laws.FnLattice", spec := "fnLattice", apart := false }
def FnLatticeSaid : Prop := fnLatticeRow.holds Try.pinned (OpenSpec.ofChange fnLatticeSpec)

/-- ITS FALSE NEIGHBOUR: 'it returns false'. Refute it at one input. -/
def fnLatticeWrong : ChangeSpec := { name := "fnLattice", fn := fun _ => fun
  | [d] => { results := [.lit (.bool false)], args := [d] }
  | _ => none }
def FnLatticeWrongFalsely : Prop := fnLatticeRow.holds Try.pinned (OpenSpec.ofChange fnLatticeWrong)

/-- 'laws.FnNames': WHATEVER THE INPUT: true; the input reads as it did. -/
def fnNamesSpec : ChangeSpec := { name := "fnNames", fn := fun _ => fun
  | [d] => { results := [.lit (.bool true)], args := [d] }
  | _ => none }
def fnNamesRow : OpenClaim := { program := "ytflegojobchgdaa", sum := "5e3206c579cbf81f8f18f46e05757fac81329a96876f7bdf230ba4c8d7e44e09", func := "loop.example/g03229/laws.FnNames", spec := "fnNames", apart := false }
def FnNamesSaid : Prop := fnNamesRow.holds Try.pinned (OpenSpec.ofChange fnNamesSpec)

/-- ITS FALSE NEIGHBOUR: 'it returns false'. Refute it at one input. -/
def fnNamesWrong : ChangeSpec := { name := "fnNames", fn := fun _ => fun
  | [d] => { results := [.lit (.bool false)], args := [d] }
  | _ => none }
def FnNamesWrongFalsely : Prop := fnNamesRow.holds Try.pinned (OpenSpec.ofChange fnNamesWrong)

/-- 'laws.FnSpots': WHATEVER THE INPUT: true; the input reads as it did. -/
def fnSpotsSpec : ChangeSpec := { name := "fnSpots", fn := fun _ => fun
  | [d] => { results := [.lit (.bool true)], args := [d] }
  | _ => none }
def fnSpotsRow : OpenClaim := { program := "ytflegojobchgdaa", sum := "5e3206c579cbf81f8f18f46e05757fac81329a96876f7bdf230ba4c8d7e44e09", func := "loop.example/g03229/laws.FnSpots", spec := "fnSpots", unfollowed := true, recurses := true, apart := false }
def FnSpotsSaid : Prop := fnSpotsRow.holds Try.pinned (OpenSpec.ofChange fnSpotsSpec)

/-- ITS FALSE NEIGHBOUR: 'it returns false'. Refute it at one input. -/
def fnSpotsWrong : ChangeSpec := { name := "fnSpots", fn := fun _ => fun
  | [d] => { results := [.lit (.bool false)], args := [d] }
  | _ => none }
def FnSpotsWrongFalsely : Prop := fnSpotsRow.holds Try.pinned (OpenSpec.ofChange fnSpotsWrong)

/-- 'laws.FnTurnedSpots': WHATEVER THE INPUT: true; the input reads as it did. -/
def fnTurnedSpotsSpec : ChangeSpec := { name := "fnTurnedSpots", fn := fun _ => fun
  | [d] => { results := [.lit (.bool true)], args := [d] }
  | _ => none }
def fnTurnedSpotsRow : OpenClaim := { program := "ytflegojobchgdaa", sum := "5e3206c579cbf81f8f18f46e05757fac81329a96876f7bdf230ba4c8d7e44e09", func := "loop.example/g03229/laws.FnTurnedSpots", spec := "fnTurnedSpots", apart := false }
def FnTurnedSpotsSaid : Prop := fnTurnedSpotsRow.holds Try.pinned (OpenSpec.ofChange fnTurnedSpotsSpec)

/-- ITS FALSE NEIGHBOUR: 'it returns false'. Refute it at one input. -/
def fnTurnedSpotsWrong : ChangeSpec := { name := "fnTurnedSpots", fn := fun _ => fun
  | [d] => { results := [.lit (.bool false)], args := [d] }
  | _ => none }
def FnTurnedSpotsWrongFalsely : Prop := fnTurnedSpotsRow.holds Try.pinned (OpenSpec.ofChange fnTurnedSpotsWrong)

/-- 'laws.FnSpotMatrix': WHATEVER THE INPUT: true; the input reads as it did. -/
def fnSpotMatrixSpec : ChangeSpec := { name := "fnSpotMatrix", fn := fun _ => fun
  | [d] => { results := [.lit (.bool true)], args := [d] }
  | _ => none }
def fnSpotMatrixRow : OpenClaim := { program := "ytflegojobchgdaa", sum := "5e3206c579cbf81f8f18f46e05757fac81329a96876f7bdf230ba4c8d7e44e09", func := "loop.example/g03229/laws.FnSpotMatrix", spec := "fnSpotMatrix", unfollowed := true, recurses := true, apart := false }
def FnSpotMatrixSaid : Prop := fnSpotMatrixRow.holds Try.pinned (OpenSpec.ofChange fnSpotMatrixSpec)

/-- ITS FALSE NEIGHBOUR: 'it returns false'. Refute it at one input. -/
def fnSpotMatrixWrong : ChangeSpec := { name := "fnSpotMatrix", fn := fun _ => fun
  | [d] => { results := [.lit (.bool false)], args := [d] }
  | _ => none }
def FnSpotMatrixWrongFalsely : Prop := fnSpotMatrixRow.holds Try.pinned (OpenSpec.ofChange fnSpotMatrixWrong)

/-- 'laws.FnExchanged': WHATEVER THE INPUT: true; the input reads as it did. -/
def fnExchangedSpec : ChangeSpec := { name := "fnExchanged", fn := fun _ => fun
  | [d] => { results := [.lit (.bool true)], args := [d] }
  | _ => none }
def fnExchangedRow : OpenClaim := { program := "ytflegojobchgdaa", sum := "5e3206c579cbf81f8f18f46e05757fac81329a96876f7bdf230ba4c8d7e44e09", func := "loop.example/g03229/laws.FnExchanged", spec := "fnExchanged", apart := false }
def FnExchangedSaid : Prop := fnExchangedRow.holds Try.pinned (OpenSpec.ofChange fnExchangedSpec)

/-- ITS FALSE NEIGHBOUR: 'it returns false'. Refute it at one input. -/
def fnExchangedWrong : ChangeSpec := { name := "fnExchanged", fn := fun _ => fun
  | [d] => { results := [.lit (.bool false)], args := [d] }
  | _ => none }
def FnExchangedWrongFalsely : Prop := fnExchangedRow.holds Try.pinned (OpenSpec.ofChange fnExchangedWrong)

/- THE SECOND FORM. 'bulk': how many values and letters a reading holds, each counted each time it is reached (what is shared counts as often as it is met; a slice's spare places count too). A statement '..UptoSaid' is the law's where the arguments, and the package variables that the reading takes, are together of bulk at most 1048576: NARROWER than '..Said'. Prove '..Said' where nothing that the law and all that it calls make is longer than what came in: it says more and counts as full. Else prove '..UptoSaid'. A law counts once. -/
mutual
def uptoBulk {H : Type} : DataW H → Nat
  | .lit (.string bytes) => bytes.length + 1
  | .lit _ => 1
  | .nil => 1
  | .ptr d => uptoBulk d + 1
  | .slice elems spare => uptoBulkAll elems + uptoBulkAll spare + 1
  | .agg parts => uptoBulkAll parts + 1
  | .iface _ d => uptoBulk d + 1
  | .map entries => uptoBulkEntries entries + 1
  | .held _ => 1
def uptoBulkAll {H : Type} : List (DataW H) → Nat
  | [] => 0
  | d :: r => uptoBulk d + uptoBulkAll r
def uptoBulkEntries {H : Type} : List (Lit × DataW H) → Nat
  | [] => 0
  | x :: r => uptoBulkEntry x + uptoBulkEntries r
def uptoBulkEntry {H : Type} : Lit × DataW H → Nat
  | (.string bytes, d) => bytes.length + uptoBulk d + 1
  | (_, d) => uptoBulk d + 1
 end
def uptoSmall : (H : Type) → List (DataW H) → Bool := fun _ ds => decide (uptoBulkAll ds ≤ 1048576)
def OpenSpec.upto (s : _root_.Go.ChangeSpec) : _root_.Go.OpenSpec := { _root_.Go.OpenSpec.ofChange s with cond := some uptoSmall }

/-- 'laws.FnLattice', WHERE WHAT IT READS IS OF BULK AT MOST 1048576: true; the input reads as it did. -/
def fnLatticeUptoRow : OpenClaim := { program := "ytflegojobchgdaa", sum := "5e3206c579cbf81f8f18f46e05757fac81329a96876f7bdf230ba4c8d7e44e09", func := "loop.example/g03229/laws.FnLattice", spec := "fnLattice", apart := false, narrowed := true }
def FnLatticeUptoSaid : Prop := fnLatticeUptoRow.holds Try.pinned (OpenSpec.upto fnLatticeSpec)

/-- 'laws.FnNames', WHERE WHAT IT READS IS OF BULK AT MOST 1048576: true; the input reads as it did. -/
def fnNamesUptoRow : OpenClaim := { program := "ytflegojobchgdaa", sum := "5e3206c579cbf81f8f18f46e05757fac81329a96876f7bdf230ba4c8d7e44e09", func := "loop.example/g03229/laws.FnNames", spec := "fnNames", apart := false, narrowed := true }
def FnNamesUptoSaid : Prop := fnNamesUptoRow.holds Try.pinned (OpenSpec.upto fnNamesSpec)

/-- 'laws.FnSpots', WHERE WHAT IT READS IS OF BULK AT MOST 1048576: true; the input reads as it did. -/
def fnSpotsUptoRow : OpenClaim := { program := "ytflegojobchgdaa", sum := "5e3206c579cbf81f8f18f46e05757fac81329a96876f7bdf230ba4c8d7e44e09", func := "loop.example/g03229/laws.FnSpots", spec := "fnSpots", unfollowed := true, recurses := true, apart := false, narrowed := true }
def FnSpotsUptoSaid : Prop := fnSpotsUptoRow.holds Try.pinned (OpenSpec.upto fnSpotsSpec)

/-- 'laws.FnTurnedSpots', WHERE WHAT IT READS IS OF BULK AT MOST 1048576: true; the input reads as it did. -/
def fnTurnedSpotsUptoRow : OpenClaim := { program := "ytflegojobchgdaa", sum := "5e3206c579cbf81f8f18f46e05757fac81329a96876f7bdf230ba4c8d7e44e09", func := "loop.example/g03229/laws.FnTurnedSpots", spec := "fnTurnedSpots", apart := false, narrowed := true }
def FnTurnedSpotsUptoSaid : Prop := fnTurnedSpotsUptoRow.holds Try.pinned (OpenSpec.upto fnTurnedSpotsSpec)

/-- 'laws.FnSpotMatrix', WHERE WHAT IT READS IS OF BULK AT MOST 1048576: true; the input reads as it did. -/
def fnSpotMatrixUptoRow : OpenClaim := { program := "ytflegojobchgdaa", sum := "5e3206c579cbf81f8f18f46e05757fac81329a96876f7bdf230ba4c8d7e44e09", func := "loop.example/g03229/laws.FnSpotMatrix", spec := "fnSpotMatrix", unfollowed := true, recurses := true, apart := false, narrowed := true }
def FnSpotMatrixUptoSaid : Prop := fnSpotMatrixUptoRow.holds Try.pinned (OpenSpec.upto fnSpotMatrixSpec)

/-- 'laws.FnExchanged', WHERE WHAT IT READS IS OF BULK AT MOST 1048576: true; the input reads as it did. -/
def fnExchangedUptoRow : OpenClaim := { program := "ytflegojobchgdaa", sum := "5e3206c579cbf81f8f18f46e05757fac81329a96876f7bdf230ba4c8d7e44e09", func := "loop.example/g03229/laws.FnExchanged", spec := "fnExchanged", apart := false, narrowed := true }
def FnExchangedUptoSaid : Prop := fnExchangedUptoRow.holds Try.pinned (OpenSpec.upto fnExchangedSpec)

end Rows
end Go.Proofs.Ytflegojobchgdaa
