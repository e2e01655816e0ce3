/-
  No cell of these rows narrows 'for every input' (looked for: loops, veiled, ifaces, maps, wideKeys, modest, calm, conditions, laid).
  DERIVED. THE GIVEN ROWS OF THIS SEAT. 4 by the template 'for every input the law returns true; each argument reads behind the call as it read before'; 0 by the template 'total and deterministic' (their statements: YtnhjdmdnicnmmaaTotals.lean).
  GIVEN WITH THE SEED: the statements are not yours to turn. If you find one false, say at which input.
  Laid BY PROGRAM, IN A SANDBOX (cutbox-rows.mjs): the forced cells as the released guide's own fill.sh prints them over the translation f8b6a258654645f3… (all of the seat's roots in one cut). By AI agents, Wed Nov 11 2026. No macro, syntax, notation, axiom, sorry.
-/
import Derived.Test.YtnhjdmdnicnmmaaChecked
import GoSem.Claim
import GoSem.ClaimJoined
import GoSem.ClaimMapViews
import Derived.JoinedTies
import Derived.KernelRfl
namespace Go.Proofs.Ytnhjdmdnicnmmaa
/- THE CELL 'sum', in the pinned program and in every row, IS THE sha256 OF THE DUMP (.gsa) THAT YtnhjdmdnicnmmaaProg.lean LOADS. Nothing in Lean hashes anything: it is a label: what it is worth is what the hold of that sum in a sandbox is worth. -/
noncomputable def Try.pinned : Pinned := { name := "ytnhjdmdnicnmmaa", sum := "f8b6a258654645f353f7a843a675ef39f2924ace689d5001ca94533de5ba4632", checked := Try.checked }
namespace Rows
def none {H : Type} : Left H := { results := [], args := [] }

/-- 'laws.FnRanked': WHATEVER THE INPUT: true; the input reads as it did. -/
def fnRankedSpec : ChangeSpec := { name := "fnRanked", fn := fun _ => fun
  | [d] => { results := [.lit (.bool true)], args := [d] }
  | _ => none }
def fnRankedRow : OpenClaim := { program := "ytnhjdmdnicnmmaa", sum := "f8b6a258654645f353f7a843a675ef39f2924ace689d5001ca94533de5ba4632", func := "loop.example/g03229/laws.FnRanked", spec := "fnRanked", unfollowed := true, recurses := true, apart := false }
def FnRankedSaid : Prop := fnRankedRow.holds Try.pinned (OpenSpec.ofChange fnRankedSpec)

/-- ITS FALSE NEIGHBOUR: 'it returns false'. Refute it at one input. -/
def fnRankedWrong : ChangeSpec := { name := "fnRanked", fn := fun _ => fun
  | [d] => { results := [.lit (.bool false)], args := [d] }
  | _ => none }
def FnRankedWrongFalsely : Prop := fnRankedRow.holds Try.pinned (OpenSpec.ofChange fnRankedWrong)

/-- 'laws.FnPlaced': WHATEVER THE INPUT: true; the input reads as it did. -/
def fnPlacedSpec : ChangeSpec := { name := "fnPlaced", fn := fun _ => fun
  | [d] => { results := [.lit (.bool true)], args := [d] }
  | _ => none }
def fnPlacedRow : OpenClaim := { program := "ytnhjdmdnicnmmaa", sum := "f8b6a258654645f353f7a843a675ef39f2924ace689d5001ca94533de5ba4632", func := "loop.example/g03229/laws.FnPlaced", spec := "fnPlaced", unfollowed := true, recurses := true, apart := false }
def FnPlacedSaid : Prop := fnPlacedRow.holds Try.pinned (OpenSpec.ofChange fnPlacedSpec)

/-- ITS FALSE NEIGHBOUR: 'it returns false'. Refute it at one input. -/
def fnPlacedWrong : ChangeSpec := { name := "fnPlaced", fn := fun _ => fun
  | [d] => { results := [.lit (.bool false)], args := [d] }
  | _ => none }
def FnPlacedWrongFalsely : Prop := fnPlacedRow.holds Try.pinned (OpenSpec.ofChange fnPlacedWrong)

/-- 'laws.FnEvened': WHATEVER THE INPUT: true; the input reads as it did. -/
def fnEvenedSpec : ChangeSpec := { name := "fnEvened", fn := fun _ => fun
  | [d] => { results := [.lit (.bool true)], args := [d] }
  | _ => none }
def fnEvenedRow : OpenClaim := { program := "ytnhjdmdnicnmmaa", sum := "f8b6a258654645f353f7a843a675ef39f2924ace689d5001ca94533de5ba4632", func := "loop.example/g03229/laws.FnEvened", spec := "fnEvened", unfollowed := true, recurses := true, apart := false }
def FnEvenedSaid : Prop := fnEvenedRow.holds Try.pinned (OpenSpec.ofChange fnEvenedSpec)

/-- ITS FALSE NEIGHBOUR: 'it returns false'. Refute it at one input. -/
def fnEvenedWrong : ChangeSpec := { name := "fnEvened", fn := fun _ => fun
  | [d] => { results := [.lit (.bool false)], args := [d] }
  | _ => none }
def FnEvenedWrongFalsely : Prop := fnEvenedRow.holds Try.pinned (OpenSpec.ofChange fnEvenedWrong)

/-- 'laws.FnCrowds': WHATEVER THE INPUT: true; the input reads as it did. -/
def fnCrowdsSpec : ChangeSpec := { name := "fnCrowds", fn := fun _ => fun
  | [d] => { results := [.lit (.bool true)], args := [d] }
  | _ => none }
def fnCrowdsRow : OpenClaim := { program := "ytnhjdmdnicnmmaa", sum := "f8b6a258654645f353f7a843a675ef39f2924ace689d5001ca94533de5ba4632", func := "loop.example/g03229/laws.FnCrowds", spec := "fnCrowds", apart := false }
def FnCrowdsSaid : Prop := fnCrowdsRow.holds Try.pinned (OpenSpec.ofChange fnCrowdsSpec)

/-- ITS FALSE NEIGHBOUR: 'it returns false'. Refute it at one input. -/
def fnCrowdsWrong : ChangeSpec := { name := "fnCrowds", fn := fun _ => fun
  | [d] => { results := [.lit (.bool false)], args := [d] }
  | _ => none }
def FnCrowdsWrongFalsely : Prop := fnCrowdsRow.holds Try.pinned (OpenSpec.ofChange fnCrowdsWrong)

/- THE SECOND FORM. 'bulk': how many values and letters a reading holds, each counted each time it is reached (what is shared counts as often as it is met; a slice's spare places count too). A statement '..UptoSaid' is the law's where the arguments, and the package variables that the reading takes, are together of bulk at most 1048576: NARROWER than '..Said'. Prove '..Said' where nothing that the law and all that it calls make is longer than what came in: it says more and counts as full. Else prove '..UptoSaid'. A law counts once. -/
mutual
def uptoBulk {H : Type} : DataW H → Nat
  | .lit (.string bytes) => bytes.length + 1
  | .lit _ => 1
  | .nil => 1
  | .ptr d => uptoBulk d + 1
  | .slice elems spare => uptoBulkAll elems + uptoBulkAll spare + 1
  | .agg parts => uptoBulkAll parts + 1
  | .iface _ d => uptoBulk d + 1
  | .map entries => uptoBulkEntries entries + 1
  | .held _ => 1
def uptoBulkAll {H : Type} : List (DataW H) → Nat
  | [] => 0
  | d :: r => uptoBulk d + uptoBulkAll r
def uptoBulkEntries {H : Type} : List (Lit × DataW H) → Nat
  | [] => 0
  | x :: r => uptoBulkEntry x + uptoBulkEntries r
def uptoBulkEntry {H : Type} : Lit × DataW H → Nat
  | (.string bytes, d) => bytes.length + uptoBulk d + 1
  | (_, d) => uptoBulk d + 1
 end
def uptoSmall : (H : Type) → List (DataW H) → Bool := fun _ ds => decide (uptoBulkAll ds ≤ 1048576)
def OpenSpec.upto (s : _root_.Go.ChangeSpec) : _root_.Go.OpenSpec := { _root_.Go.OpenSpec.ofChange s with cond := some uptoSmall }

/-- 'laws.FnRanked', WHERE WHAT IT READS IS OF BULK AT MOST 1048576: true; the input reads as it did. -/
def fnRankedUptoRow : OpenClaim := { program := "ytnhjdmdnicnmmaa", sum := "f8b6a258654645f353f7a843a675ef39f2924ace689d5001ca94533de5ba4632", func := "loop.example/g03229/laws.FnRanked", spec := "fnRanked", unfollowed := true, recurses := true, apart := false, narrowed := true }
def FnRankedUptoSaid : Prop := fnRankedUptoRow.holds Try.pinned (OpenSpec.upto fnRankedSpec)

/-- 'laws.FnPlaced', WHERE WHAT IT READS IS OF BULK AT MOST 1048576: true; the input reads as it did. -/
def fnPlacedUptoRow : OpenClaim := { program := "ytnhjdmdnicnmmaa", sum := "f8b6a258654645f353f7a843a675ef39f2924ace689d5001ca94533de5ba4632", func := "loop.example/g03229/laws.FnPlaced", spec := "fnPlaced", unfollowed := true, recurses := true, apart := false, narrowed := true }
def FnPlacedUptoSaid : Prop := fnPlacedUptoRow.holds Try.pinned (OpenSpec.upto fnPlacedSpec)

/-- 'laws.FnEvened', WHERE WHAT IT READS IS OF BULK AT MOST 1048576: true; the input reads as it did. -/
def fnEvenedUptoRow : OpenClaim := { program := "ytnhjdmdnicnmmaa", sum := "f8b6a258654645f353f7a843a675ef39f2924ace689d5001ca94533de5ba4632", func := "loop.example/g03229/laws.FnEvened", spec := "fnEvened", unfollowed := true, recurses := true, apart := false, narrowed := true }
def FnEvenedUptoSaid : Prop := fnEvenedUptoRow.holds Try.pinned (OpenSpec.upto fnEvenedSpec)

/-- 'laws.FnCrowds', WHERE WHAT IT READS IS OF BULK AT MOST 1048576: true; the input reads as it did. -/
def fnCrowdsUptoRow : OpenClaim := { program := "ytnhjdmdnicnmmaa", sum := "f8b6a258654645f353f7a843a675ef39f2924ace689d5001ca94533de5ba4632", func := "loop.example/g03229/laws.FnCrowds", spec := "fnCrowds", apart := false, narrowed := true }
def FnCrowdsUptoSaid : Prop := fnCrowdsUptoRow.holds Try.pinned (OpenSpec.upto fnCrowdsSpec)

end Rows
end Go.Proofs.Ytnhjdmdnicnmmaa
