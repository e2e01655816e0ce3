/-
  No cell of these rows narrows 'for every input' (looked for: loops, veiled, ifaces, maps, wideKeys, modest, calm, conditions, laid).
  DERIVED. THE GIVEN ROWS OF THIS SEAT. 11 by the template 'for every input the law returns true; each argument reads behind the call as it read before'; 0 by the template 'total and deterministic' (their statements: YtbopeibommnjgaaTotals.lean).
  GIVEN WITH THE SEED: the statements are not yours to turn. If you find one false, say at which input.
  Laid BY PROGRAM, IN A SANDBOX (cutbox-rows.mjs): the forced cells as the released guide's own fill.sh prints them over the translation e3c3e357649e5678… (all of the seat's roots in one cut). By AI agents, Wed Nov 11 2026. No macro, syntax, notation, axiom, sorry.
-/
import Derived.Test.YtbopeibommnjgaaChecked
import GoSem.Claim
import GoSem.ClaimJoined
import GoSem.ClaimMapViews
import Derived.JoinedTies
import Derived.KernelRfl
namespace Go.Proofs.Ytbopeibommnjgaa
/- THE CELL 'sum', in the pinned program and in every row, IS THE sha256 OF THE DUMP (.gsa) THAT YtbopeibommnjgaaProg.lean LOADS. Nothing in Lean hashes anything: it is a label: what it is worth is what the hold of that sum in a sandbox is worth. -/
noncomputable def Try.pinned : Pinned := { name := "ytbopeibommnjgaa", sum := "e3c3e357649e5678253c1d860614217384baa105b1c40b16169250ff5e8d7e86", checked := Try.checked }
namespace Rows
def none {H : Type} : Left H := { results := [], args := [] }

/-- 'laws.FnExactIsKernel': WHATEVER THE INPUT: true; the input reads as it did. -/
def fnExactIsKernelSpec : ChangeSpec := { name := "fnExactIsKernel", fn := fun _ => fun
  | [d] => { results := [.lit (.bool true)], args := [d] }
  | _ => none }
def fnExactIsKernelRow : OpenClaim := { program := "ytbopeibommnjgaa", sum := "e3c3e357649e5678253c1d860614217384baa105b1c40b16169250ff5e8d7e86", func := "loop.example/g03229/laws.FnExactIsKernel", spec := "fnExactIsKernel", apart := false }
def FnExactIsKernelSaid : Prop := fnExactIsKernelRow.holds Try.pinned (OpenSpec.ofChange fnExactIsKernelSpec)

/-- ITS FALSE NEIGHBOUR: 'it returns false'. Refute it at one input. -/
def fnExactIsKernelWrong : ChangeSpec := { name := "fnExactIsKernel", fn := fun _ => fun
  | [d] => { results := [.lit (.bool false)], args := [d] }
  | _ => none }
def FnExactIsKernelWrongFalsely : Prop := fnExactIsKernelRow.holds Try.pinned (OpenSpec.ofChange fnExactIsKernelWrong)

/-- 'laws.FnExactWeightOf': WHATEVER THE INPUT: true; the input reads as it did. -/
def fnExactWeightOfSpec : ChangeSpec := { name := "fnExactWeightOf", fn := fun _ => fun
  | [d] => { results := [.lit (.bool true)], args := [d] }
  | _ => none }
def fnExactWeightOfRow : OpenClaim := { program := "ytbopeibommnjgaa", sum := "e3c3e357649e5678253c1d860614217384baa105b1c40b16169250ff5e8d7e86", func := "loop.example/g03229/laws.FnExactWeightOf", spec := "fnExactWeightOf", apart := false }
def FnExactWeightOfSaid : Prop := fnExactWeightOfRow.holds Try.pinned (OpenSpec.ofChange fnExactWeightOfSpec)

/-- ITS FALSE NEIGHBOUR: 'it returns false'. Refute it at one input. -/
def fnExactWeightOfWrong : ChangeSpec := { name := "fnExactWeightOf", fn := fun _ => fun
  | [d] => { results := [.lit (.bool false)], args := [d] }
  | _ => none }
def FnExactWeightOfWrongFalsely : Prop := fnExactWeightOfRow.holds Try.pinned (OpenSpec.ofChange fnExactWeightOfWrong)

/-- 'laws.FnExactSteinKernel': WHATEVER THE INPUT: true; the input reads as it did. -/
def fnExactSteinKernelSpec : ChangeSpec := { name := "fnExactSteinKernel", fn := fun _ => fun
  | [] => { results := [.lit (.bool true)], args := [] }
  | _ => none }
def fnExactSteinKernelRow : OpenClaim := { program := "ytbopeibommnjgaa", sum := "e3c3e357649e5678253c1d860614217384baa105b1c40b16169250ff5e8d7e86", func := "loop.example/g03229/laws.FnExactSteinKernel", spec := "fnExactSteinKernel", apart := false }
def FnExactSteinKernelSaid : Prop := fnExactSteinKernelRow.holds Try.pinned (OpenSpec.ofChange fnExactSteinKernelSpec)

/-- ITS FALSE NEIGHBOUR: 'it returns false'. Refute it at one input. -/
def fnExactSteinKernelWrong : ChangeSpec := { name := "fnExactSteinKernel", fn := fun _ => fun
  | [] => { results := [.lit (.bool false)], args := [] }
  | _ => none }
def FnExactSteinKernelWrongFalsely : Prop := fnExactSteinKernelRow.holds Try.pinned (OpenSpec.ofChange fnExactSteinKernelWrong)

/-- 'laws.FnExactPlainKernel': WHATEVER THE INPUT: true; the input reads as it did. -/
def fnExactPlainKernelSpec : ChangeSpec := { name := "fnExactPlainKernel", fn := fun _ => fun
  | [] => { results := [.lit (.bool true)], args := [] }
  | _ => none }
def fnExactPlainKernelRow : OpenClaim := { program := "ytbopeibommnjgaa", sum := "e3c3e357649e5678253c1d860614217384baa105b1c40b16169250ff5e8d7e86", func := "loop.example/g03229/laws.FnExactPlainKernel", spec := "fnExactPlainKernel", apart := false }
def FnExactPlainKernelSaid : Prop := fnExactPlainKernelRow.holds Try.pinned (OpenSpec.ofChange fnExactPlainKernelSpec)

/-- ITS FALSE NEIGHBOUR: 'it returns false'. Refute it at one input. -/
def fnExactPlainKernelWrong : ChangeSpec := { name := "fnExactPlainKernel", fn := fun _ => fun
  | [] => { results := [.lit (.bool false)], args := [] }
  | _ => none }
def FnExactPlainKernelWrongFalsely : Prop := fnExactPlainKernelRow.holds Try.pinned (OpenSpec.ofChange fnExactPlainKernelWrong)

/-- 'laws.FnExactSharesOf': WHATEVER THE INPUT: true; the input reads as it did. -/
def fnExactSharesOfSpec : ChangeSpec := { name := "fnExactSharesOf", fn := fun _ => fun
  | [d1, d2] => { results := [.lit (.bool true)], args := [d1, d2] }
  | _ => none }
def fnExactSharesOfRow : OpenClaim := { program := "ytbopeibommnjgaa", sum := "e3c3e357649e5678253c1d860614217384baa105b1c40b16169250ff5e8d7e86", func := "loop.example/g03229/laws.FnExactSharesOf", spec := "fnExactSharesOf", apart := false }
def FnExactSharesOfSaid : Prop := fnExactSharesOfRow.holds Try.pinned (OpenSpec.ofChange fnExactSharesOfSpec)

/-- ITS FALSE NEIGHBOUR: 'it returns false'. Refute it at one input. -/
def fnExactSharesOfWrong : ChangeSpec := { name := "fnExactSharesOf", fn := fun _ => fun
  | [d1, d2] => { results := [.lit (.bool false)], args := [d1, d2] }
  | _ => none }
def FnExactSharesOfWrongFalsely : Prop := fnExactSharesOfRow.holds Try.pinned (OpenSpec.ofChange fnExactSharesOfWrong)

/-- 'laws.FnExactDiffusePicture': WHATEVER THE INPUT: true; the input reads as it did. -/
def fnExactDiffusePictureSpec : ChangeSpec := { name := "fnExactDiffusePicture", fn := fun _ => fun
  | [d1, d2, d3] => { results := [.lit (.bool true)], args := [d1, d2, d3] }
  | _ => none }
def fnExactDiffusePictureRow : OpenClaim := { program := "ytbopeibommnjgaa", sum := "e3c3e357649e5678253c1d860614217384baa105b1c40b16169250ff5e8d7e86", func := "loop.example/g03229/laws.FnExactDiffusePicture", spec := "fnExactDiffusePicture", apart := false }
def FnExactDiffusePictureSaid : Prop := fnExactDiffusePictureRow.holds Try.pinned (OpenSpec.ofChange fnExactDiffusePictureSpec)

/-- ITS FALSE NEIGHBOUR: 'it returns false'. Refute it at one input. -/
def fnExactDiffusePictureWrong : ChangeSpec := { name := "fnExactDiffusePicture", fn := fun _ => fun
  | [d1, d2, d3] => { results := [.lit (.bool false)], args := [d1, d2, d3] }
  | _ => none }
def FnExactDiffusePictureWrongFalsely : Prop := fnExactDiffusePictureRow.holds Try.pinned (OpenSpec.ofChange fnExactDiffusePictureWrong)

/-- 'laws.FnExactErrorsOf': WHATEVER THE INPUT: true; the input reads as it did. -/
def fnExactErrorsOfSpec : ChangeSpec := { name := "fnExactErrorsOf", fn := fun _ => fun
  | [d1, d2, d3] => { results := [.lit (.bool true)], args := [d1, d2, d3] }
  | _ => none }
def fnExactErrorsOfRow : OpenClaim := { program := "ytbopeibommnjgaa", sum := "e3c3e357649e5678253c1d860614217384baa105b1c40b16169250ff5e8d7e86", func := "loop.example/g03229/laws.FnExactErrorsOf", spec := "fnExactErrorsOf", apart := false }
def FnExactErrorsOfSaid : Prop := fnExactErrorsOfRow.holds Try.pinned (OpenSpec.ofChange fnExactErrorsOfSpec)

/-- ITS FALSE NEIGHBOUR: 'it returns false'. Refute it at one input. -/
def fnExactErrorsOfWrong : ChangeSpec := { name := "fnExactErrorsOf", fn := fun _ => fun
  | [d1, d2, d3] => { results := [.lit (.bool false)], args := [d1, d2, d3] }
  | _ => none }
def FnExactErrorsOfWrongFalsely : Prop := fnExactErrorsOfRow.holds Try.pinned (OpenSpec.ofChange fnExactErrorsOfWrong)

/-- 'laws.FnExactMirrorKernel': WHATEVER THE INPUT: true; the input reads as it did. -/
def fnExactMirrorKernelSpec : ChangeSpec := { name := "fnExactMirrorKernel", fn := fun _ => fun
  | [d] => { results := [.lit (.bool true)], args := [d] }
  | _ => none }
def fnExactMirrorKernelRow : OpenClaim := { program := "ytbopeibommnjgaa", sum := "e3c3e357649e5678253c1d860614217384baa105b1c40b16169250ff5e8d7e86", func := "loop.example/g03229/laws.FnExactMirrorKernel", spec := "fnExactMirrorKernel", apart := false }
def FnExactMirrorKernelSaid : Prop := fnExactMirrorKernelRow.holds Try.pinned (OpenSpec.ofChange fnExactMirrorKernelSpec)

/-- ITS FALSE NEIGHBOUR: 'it returns false'. Refute it at one input. -/
def fnExactMirrorKernelWrong : ChangeSpec := { name := "fnExactMirrorKernel", fn := fun _ => fun
  | [d] => { results := [.lit (.bool false)], args := [d] }
  | _ => none }
def FnExactMirrorKernelWrongFalsely : Prop := fnExactMirrorKernelRow.holds Try.pinned (OpenSpec.ofChange fnExactMirrorKernelWrong)

/-- 'laws.FnExactRowDots': WHATEVER THE INPUT: true; the input reads as it did. -/
def fnExactRowDotsSpec : ChangeSpec := { name := "fnExactRowDots", fn := fun _ => fun
  | [d] => { results := [.lit (.bool true)], args := [d] }
  | _ => none }
def fnExactRowDotsRow : OpenClaim := { program := "ytbopeibommnjgaa", sum := "e3c3e357649e5678253c1d860614217384baa105b1c40b16169250ff5e8d7e86", func := "loop.example/g03229/laws.FnExactRowDots", spec := "fnExactRowDots", apart := false }
def FnExactRowDotsSaid : Prop := fnExactRowDotsRow.holds Try.pinned (OpenSpec.ofChange fnExactRowDotsSpec)

/-- ITS FALSE NEIGHBOUR: 'it returns false'. Refute it at one input. -/
def fnExactRowDotsWrong : ChangeSpec := { name := "fnExactRowDots", fn := fun _ => fun
  | [d] => { results := [.lit (.bool false)], args := [d] }
  | _ => none }
def FnExactRowDotsWrongFalsely : Prop := fnExactRowDotsRow.holds Try.pinned (OpenSpec.ofChange fnExactRowDotsWrong)

/-- 'laws.FnExactMeanOf': WHATEVER THE INPUT: true; the input reads as it did. -/
def fnExactMeanOfSpec : ChangeSpec := { name := "fnExactMeanOf", fn := fun _ => fun
  | [d] => { results := [.lit (.bool true)], args := [d] }
  | _ => none }
def fnExactMeanOfRow : OpenClaim := { program := "ytbopeibommnjgaa", sum := "e3c3e357649e5678253c1d860614217384baa105b1c40b16169250ff5e8d7e86", func := "loop.example/g03229/laws.FnExactMeanOf", spec := "fnExactMeanOf", apart := false }
def FnExactMeanOfSaid : Prop := fnExactMeanOfRow.holds Try.pinned (OpenSpec.ofChange fnExactMeanOfSpec)

/-- ITS FALSE NEIGHBOUR: 'it returns false'. Refute it at one input. -/
def fnExactMeanOfWrong : ChangeSpec := { name := "fnExactMeanOf", fn := fun _ => fun
  | [d] => { results := [.lit (.bool false)], args := [d] }
  | _ => none }
def FnExactMeanOfWrongFalsely : Prop := fnExactMeanOfRow.holds Try.pinned (OpenSpec.ofChange fnExactMeanOfWrong)

/-- 'laws.FnExactSpreadOf': WHATEVER THE INPUT: true; the input reads as it did. -/
def fnExactSpreadOfSpec : ChangeSpec := { name := "fnExactSpreadOf", fn := fun _ => fun
  | [d1, d2] => { results := [.lit (.bool true)], args := [d1, d2] }
  | _ => none }
def fnExactSpreadOfRow : OpenClaim := { program := "ytbopeibommnjgaa", sum := "e3c3e357649e5678253c1d860614217384baa105b1c40b16169250ff5e8d7e86", func := "loop.example/g03229/laws.FnExactSpreadOf", spec := "fnExactSpreadOf", apart := false }
def FnExactSpreadOfSaid : Prop := fnExactSpreadOfRow.holds Try.pinned (OpenSpec.ofChange fnExactSpreadOfSpec)

/-- ITS FALSE NEIGHBOUR: 'it returns false'. Refute it at one input. -/
def fnExactSpreadOfWrong : ChangeSpec := { name := "fnExactSpreadOf", fn := fun _ => fun
  | [d1, d2] => { results := [.lit (.bool false)], args := [d1, d2] }
  | _ => none }
def FnExactSpreadOfWrongFalsely : Prop := fnExactSpreadOfRow.holds Try.pinned (OpenSpec.ofChange fnExactSpreadOfWrong)

/- THE SECOND FORM. 'bulk': how many values and letters a reading holds, each counted each time it is reached (what is shared counts as often as it is met; a slice's spare places count too). A statement '..UptoSaid' is the law's where the arguments, and the package variables that the reading takes, are together of bulk at most 1048576: NARROWER than '..Said'. Prove '..Said' where nothing that the law and all that it calls make is longer than what came in: it says more and counts as full. Else prove '..UptoSaid'. A law counts once. -/
mutual
def uptoBulk {H : Type} : DataW H → Nat
  | .lit (.string bytes) => bytes.length + 1
  | .lit _ => 1
  | .nil => 1
  | .ptr d => uptoBulk d + 1
  | .slice elems spare => uptoBulkAll elems + uptoBulkAll spare + 1
  | .agg parts => uptoBulkAll parts + 1
  | .iface _ d => uptoBulk d + 1
  | .map entries => uptoBulkEntries entries + 1
  | .held _ => 1
def uptoBulkAll {H : Type} : List (DataW H) → Nat
  | [] => 0
  | d :: r => uptoBulk d + uptoBulkAll r
def uptoBulkEntries {H : Type} : List (Lit × DataW H) → Nat
  | [] => 0
  | x :: r => uptoBulkEntry x + uptoBulkEntries r
def uptoBulkEntry {H : Type} : Lit × DataW H → Nat
  | (.string bytes, d) => bytes.length + uptoBulk d + 1
  | (_, d) => uptoBulk d + 1
 end
def uptoSmall : (H : Type) → List (DataW H) → Bool := fun _ ds => decide (uptoBulkAll ds ≤ 1048576)
def OpenSpec.upto (s : _root_.Go.ChangeSpec) : _root_.Go.OpenSpec := { _root_.Go.OpenSpec.ofChange s with cond := some uptoSmall }

/-- 'laws.FnExactIsKernel', WHERE WHAT IT READS IS OF BULK AT MOST 1048576: true; the input reads as it did. -/
def fnExactIsKernelUptoRow : OpenClaim := { program := "ytbopeibommnjgaa", sum := "e3c3e357649e5678253c1d860614217384baa105b1c40b16169250ff5e8d7e86", func := "loop.example/g03229/laws.FnExactIsKernel", spec := "fnExactIsKernel", apart := false, narrowed := true }
def FnExactIsKernelUptoSaid : Prop := fnExactIsKernelUptoRow.holds Try.pinned (OpenSpec.upto fnExactIsKernelSpec)

/-- 'laws.FnExactWeightOf', WHERE WHAT IT READS IS OF BULK AT MOST 1048576: true; the input reads as it did. -/
def fnExactWeightOfUptoRow : OpenClaim := { program := "ytbopeibommnjgaa", sum := "e3c3e357649e5678253c1d860614217384baa105b1c40b16169250ff5e8d7e86", func := "loop.example/g03229/laws.FnExactWeightOf", spec := "fnExactWeightOf", apart := false, narrowed := true }
def FnExactWeightOfUptoSaid : Prop := fnExactWeightOfUptoRow.holds Try.pinned (OpenSpec.upto fnExactWeightOfSpec)

/-- 'laws.FnExactSteinKernel', WHERE WHAT IT READS IS OF BULK AT MOST 1048576: true; the input reads as it did. -/
def fnExactSteinKernelUptoRow : OpenClaim := { program := "ytbopeibommnjgaa", sum := "e3c3e357649e5678253c1d860614217384baa105b1c40b16169250ff5e8d7e86", func := "loop.example/g03229/laws.FnExactSteinKernel", spec := "fnExactSteinKernel", apart := false, narrowed := true }
def FnExactSteinKernelUptoSaid : Prop := fnExactSteinKernelUptoRow.holds Try.pinned (OpenSpec.upto fnExactSteinKernelSpec)

/-- 'laws.FnExactPlainKernel', WHERE WHAT IT READS IS OF BULK AT MOST 1048576: true; the input reads as it did. -/
def fnExactPlainKernelUptoRow : OpenClaim := { program := "ytbopeibommnjgaa", sum := "e3c3e357649e5678253c1d860614217384baa105b1c40b16169250ff5e8d7e86", func := "loop.example/g03229/laws.FnExactPlainKernel", spec := "fnExactPlainKernel", apart := false, narrowed := true }
def FnExactPlainKernelUptoSaid : Prop := fnExactPlainKernelUptoRow.holds Try.pinned (OpenSpec.upto fnExactPlainKernelSpec)

/-- 'laws.FnExactSharesOf', WHERE WHAT IT READS IS OF BULK AT MOST 1048576: true; the input reads as it did. -/
def fnExactSharesOfUptoRow : OpenClaim := { program := "ytbopeibommnjgaa", sum := "e3c3e357649e5678253c1d860614217384baa105b1c40b16169250ff5e8d7e86", func := "loop.example/g03229/laws.FnExactSharesOf", spec := "fnExactSharesOf", apart := false, narrowed := true }
def FnExactSharesOfUptoSaid : Prop := fnExactSharesOfUptoRow.holds Try.pinned (OpenSpec.upto fnExactSharesOfSpec)

/-- 'laws.FnExactDiffusePicture', WHERE WHAT IT READS IS OF BULK AT MOST 1048576: true; the input reads as it did. -/
def fnExactDiffusePictureUptoRow : OpenClaim := { program := "ytbopeibommnjgaa", sum := "e3c3e357649e5678253c1d860614217384baa105b1c40b16169250ff5e8d7e86", func := "loop.example/g03229/laws.FnExactDiffusePicture", spec := "fnExactDiffusePicture", apart := false, narrowed := true }
def FnExactDiffusePictureUptoSaid : Prop := fnExactDiffusePictureUptoRow.holds Try.pinned (OpenSpec.upto fnExactDiffusePictureSpec)

/-- 'laws.FnExactErrorsOf', WHERE WHAT IT READS IS OF BULK AT MOST 1048576: true; the input reads as it did. -/
def fnExactErrorsOfUptoRow : OpenClaim := { program := "ytbopeibommnjgaa", sum := "e3c3e357649e5678253c1d860614217384baa105b1c40b16169250ff5e8d7e86", func := "loop.example/g03229/laws.FnExactErrorsOf", spec := "fnExactErrorsOf", apart := false, narrowed := true }
def FnExactErrorsOfUptoSaid : Prop := fnExactErrorsOfUptoRow.holds Try.pinned (OpenSpec.upto fnExactErrorsOfSpec)

/-- 'laws.FnExactMirrorKernel', WHERE WHAT IT READS IS OF BULK AT MOST 1048576: true; the input reads as it did. -/
def fnExactMirrorKernelUptoRow : OpenClaim := { program := "ytbopeibommnjgaa", sum := "e3c3e357649e5678253c1d860614217384baa105b1c40b16169250ff5e8d7e86", func := "loop.example/g03229/laws.FnExactMirrorKernel", spec := "fnExactMirrorKernel", apart := false, narrowed := true }
def FnExactMirrorKernelUptoSaid : Prop := fnExactMirrorKernelUptoRow.holds Try.pinned (OpenSpec.upto fnExactMirrorKernelSpec)

/-- 'laws.FnExactRowDots', WHERE WHAT IT READS IS OF BULK AT MOST 1048576: true; the input reads as it did. -/
def fnExactRowDotsUptoRow : OpenClaim := { program := "ytbopeibommnjgaa", sum := "e3c3e357649e5678253c1d860614217384baa105b1c40b16169250ff5e8d7e86", func := "loop.example/g03229/laws.FnExactRowDots", spec := "fnExactRowDots", apart := false, narrowed := true }
def FnExactRowDotsUptoSaid : Prop := fnExactRowDotsUptoRow.holds Try.pinned (OpenSpec.upto fnExactRowDotsSpec)

/-- 'laws.FnExactMeanOf', WHERE WHAT IT READS IS OF BULK AT MOST 1048576: true; the input reads as it did. -/
def fnExactMeanOfUptoRow : OpenClaim := { program := "ytbopeibommnjgaa", sum := "e3c3e357649e5678253c1d860614217384baa105b1c40b16169250ff5e8d7e86", func := "loop.example/g03229/laws.FnExactMeanOf", spec := "fnExactMeanOf", apart := false, narrowed := true }
def FnExactMeanOfUptoSaid : Prop := fnExactMeanOfUptoRow.holds Try.pinned (OpenSpec.upto fnExactMeanOfSpec)

/-- 'laws.FnExactSpreadOf', WHERE WHAT IT READS IS OF BULK AT MOST 1048576: true; the input reads as it did. -/
def fnExactSpreadOfUptoRow : OpenClaim := { program := "ytbopeibommnjgaa", sum := "e3c3e357649e5678253c1d860614217384baa105b1c40b16169250ff5e8d7e86", func := "loop.example/g03229/laws.FnExactSpreadOf", spec := "fnExactSpreadOf", apart := false, narrowed := true }
def FnExactSpreadOfUptoSaid : Prop := fnExactSpreadOfUptoRow.holds Try.pinned (OpenSpec.upto fnExactSpreadOfSpec)

end Rows
end Go.Proofs.Ytbopeibommnjgaa
