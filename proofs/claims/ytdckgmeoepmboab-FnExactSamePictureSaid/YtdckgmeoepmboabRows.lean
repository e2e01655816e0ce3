/-
  No cell of these rows narrows 'for every input' (looked for: loops, veiled, ifaces, maps, wideKeys, modest, calm, conditions, laid).
  DERIVED. THE GIVEN ROWS OF THIS SEAT. 7 by the template 'for every input the law returns true; each argument reads behind the call as it read before'; 0 by the template 'total and deterministic' (their statements: YtdckgmeoepmboabTotals.lean).
  GIVEN WITH THE SEED: the statements are not yours to turn. If you find one false, say at which input.
  Laid BY PROGRAM, IN A SANDBOX (cutbox-rows.mjs): the forced cells as the released guide's own fill.sh prints them over the translation 655cc85c545e5b83… (all of the seat's roots in one cut). By AI agents, Wed Nov 11 2026. No macro, syntax, notation, axiom, sorry.
-/
import Derived.Test.YtdckgmeoepmboabChecked
import GoSem.Claim
import GoSem.ClaimJoined
import GoSem.ClaimMapViews
import Derived.JoinedTies
import Derived.KernelRfl
namespace Go.Proofs.Ytdckgmeoepmboab
/- THE CELL 'sum', in the pinned program and in every row, IS THE sha256 OF THE DUMP (.gsa) THAT YtdckgmeoepmboabProg.lean LOADS. Nothing in Lean hashes anything: it is a label: what it is worth is what the hold of that sum in a sandbox is worth. -/
noncomputable def Try.pinned : Pinned := { name := "ytdckgmeoepmboab", sum := "655cc85c545e5b83a80a078941d09664f030cd625dda99f386a8482fb0ddcc75", checked := Try.checked }
namespace Rows
def none {H : Type} : Left H := { results := [], args := [] }

/-- 'laws.FnExactTurnPicture': WHATEVER THE INPUT: true; the input reads as it did. -/
def fnExactTurnPictureSpec : ChangeSpec := { name := "fnExactTurnPicture", fn := fun _ => fun
  | [d] => { results := [.lit (.bool true)], args := [d] }
  | _ => none }
def fnExactTurnPictureRow : OpenClaim := { program := "ytdckgmeoepmboab", sum := "655cc85c545e5b83a80a078941d09664f030cd625dda99f386a8482fb0ddcc75", func := "loop.example/g03229/laws.FnExactTurnPicture", spec := "fnExactTurnPicture", apart := false }
def FnExactTurnPictureSaid : Prop := fnExactTurnPictureRow.holds Try.pinned (OpenSpec.ofChange fnExactTurnPictureSpec)

/-- ITS FALSE NEIGHBOUR: 'it returns false'. Refute it at one input. -/
def fnExactTurnPictureWrong : ChangeSpec := { name := "fnExactTurnPicture", fn := fun _ => fun
  | [d] => { results := [.lit (.bool false)], args := [d] }
  | _ => none }
def FnExactTurnPictureWrongFalsely : Prop := fnExactTurnPictureRow.holds Try.pinned (OpenSpec.ofChange fnExactTurnPictureWrong)

/-- 'laws.FnExactNegativePicture': WHATEVER THE INPUT: true; the input reads as it did. -/
def fnExactNegativePictureSpec : ChangeSpec := { name := "fnExactNegativePicture", fn := fun _ => fun
  | [d] => { results := [.lit (.bool true)], args := [d] }
  | _ => none }
def fnExactNegativePictureRow : OpenClaim := { program := "ytdckgmeoepmboab", sum := "655cc85c545e5b83a80a078941d09664f030cd625dda99f386a8482fb0ddcc75", func := "loop.example/g03229/laws.FnExactNegativePicture", spec := "fnExactNegativePicture", apart := false }
def FnExactNegativePictureSaid : Prop := fnExactNegativePictureRow.holds Try.pinned (OpenSpec.ofChange fnExactNegativePictureSpec)

/-- ITS FALSE NEIGHBOUR: 'it returns false'. Refute it at one input. -/
def fnExactNegativePictureWrong : ChangeSpec := { name := "fnExactNegativePicture", fn := fun _ => fun
  | [d] => { results := [.lit (.bool false)], args := [d] }
  | _ => none }
def FnExactNegativePictureWrongFalsely : Prop := fnExactNegativePictureRow.holds Try.pinned (OpenSpec.ofChange fnExactNegativePictureWrong)

/-- 'laws.FnExactCropPicture': WHATEVER THE INPUT: true; the input reads as it did. -/
def fnExactCropPictureSpec : ChangeSpec := { name := "fnExactCropPicture", fn := fun _ => fun
  | [d1, d2, d3, d4, d5] => { results := [.lit (.bool true)], args := [d1, d2, d3, d4, d5] }
  | _ => none }
def fnExactCropPictureRow : OpenClaim := { program := "ytdckgmeoepmboab", sum := "655cc85c545e5b83a80a078941d09664f030cd625dda99f386a8482fb0ddcc75", func := "loop.example/g03229/laws.FnExactCropPicture", spec := "fnExactCropPicture", apart := false }
def FnExactCropPictureSaid : Prop := fnExactCropPictureRow.holds Try.pinned (OpenSpec.ofChange fnExactCropPictureSpec)

/-- ITS FALSE NEIGHBOUR: 'it returns false'. Refute it at one input. -/
def fnExactCropPictureWrong : ChangeSpec := { name := "fnExactCropPicture", fn := fun _ => fun
  | [d1, d2, d3, d4, d5] => { results := [.lit (.bool false)], args := [d1, d2, d3, d4, d5] }
  | _ => none }
def FnExactCropPictureWrongFalsely : Prop := fnExactCropPictureRow.holds Try.pinned (OpenSpec.ofChange fnExactCropPictureWrong)

/-- 'laws.FnExactTilePicture': WHATEVER THE INPUT: true; the input reads as it did. -/
def fnExactTilePictureSpec : ChangeSpec := { name := "fnExactTilePicture", fn := fun _ => fun
  | [d1, d2, d3] => { results := [.lit (.bool true)], args := [d1, d2, d3] }
  | _ => none }
def fnExactTilePictureRow : OpenClaim := { program := "ytdckgmeoepmboab", sum := "655cc85c545e5b83a80a078941d09664f030cd625dda99f386a8482fb0ddcc75", func := "loop.example/g03229/laws.FnExactTilePicture", spec := "fnExactTilePicture", apart := false }
def FnExactTilePictureSaid : Prop := fnExactTilePictureRow.holds Try.pinned (OpenSpec.ofChange fnExactTilePictureSpec)

/-- ITS FALSE NEIGHBOUR: 'it returns false'. Refute it at one input. -/
def fnExactTilePictureWrong : ChangeSpec := { name := "fnExactTilePicture", fn := fun _ => fun
  | [d1, d2, d3] => { results := [.lit (.bool false)], args := [d1, d2, d3] }
  | _ => none }
def FnExactTilePictureWrongFalsely : Prop := fnExactTilePictureRow.holds Try.pinned (OpenSpec.ofChange fnExactTilePictureWrong)

/-- 'laws.FnExactSamePicture': WHATEVER THE INPUT: true; the input reads as it did. -/
def fnExactSamePictureSpec : ChangeSpec := { name := "fnExactSamePicture", fn := fun _ => fun
  | [d1, d2] => { results := [.lit (.bool true)], args := [d1, d2] }
  | _ => none }
def fnExactSamePictureRow : OpenClaim := { program := "ytdckgmeoepmboab", sum := "655cc85c545e5b83a80a078941d09664f030cd625dda99f386a8482fb0ddcc75", func := "loop.example/g03229/laws.FnExactSamePicture", spec := "fnExactSamePicture", apart := false }
def FnExactSamePictureSaid : Prop := fnExactSamePictureRow.holds Try.pinned (OpenSpec.ofChange fnExactSamePictureSpec)

/-- ITS FALSE NEIGHBOUR: 'it returns false'. Refute it at one input. -/
def fnExactSamePictureWrong : ChangeSpec := { name := "fnExactSamePicture", fn := fun _ => fun
  | [d1, d2] => { results := [.lit (.bool false)], args := [d1, d2] }
  | _ => none }
def FnExactSamePictureWrongFalsely : Prop := fnExactSamePictureRow.holds Try.pinned (OpenSpec.ofChange fnExactSamePictureWrong)

/-- 'laws.FnExactCoversPicture': WHATEVER THE INPUT: true; the input reads as it did. -/
def fnExactCoversPictureSpec : ChangeSpec := { name := "fnExactCoversPicture", fn := fun _ => fun
  | [d1, d2] => { results := [.lit (.bool true)], args := [d1, d2] }
  | _ => none }
def fnExactCoversPictureRow : OpenClaim := { program := "ytdckgmeoepmboab", sum := "655cc85c545e5b83a80a078941d09664f030cd625dda99f386a8482fb0ddcc75", func := "loop.example/g03229/laws.FnExactCoversPicture", spec := "fnExactCoversPicture", apart := false }
def FnExactCoversPictureSaid : Prop := fnExactCoversPictureRow.holds Try.pinned (OpenSpec.ofChange fnExactCoversPictureSpec)

/-- ITS FALSE NEIGHBOUR: 'it returns false'. Refute it at one input. -/
def fnExactCoversPictureWrong : ChangeSpec := { name := "fnExactCoversPicture", fn := fun _ => fun
  | [d1, d2] => { results := [.lit (.bool false)], args := [d1, d2] }
  | _ => none }
def FnExactCoversPictureWrongFalsely : Prop := fnExactCoversPictureRow.holds Try.pinned (OpenSpec.ofChange fnExactCoversPictureWrong)

/-- 'laws.FnExactAddPictures': WHATEVER THE INPUT: true; the input reads as it did. -/
def fnExactAddPicturesSpec : ChangeSpec := { name := "fnExactAddPictures", fn := fun _ => fun
  | [d1, d2] => { results := [.lit (.bool true)], args := [d1, d2] }
  | _ => none }
def fnExactAddPicturesRow : OpenClaim := { program := "ytdckgmeoepmboab", sum := "655cc85c545e5b83a80a078941d09664f030cd625dda99f386a8482fb0ddcc75", func := "loop.example/g03229/laws.FnExactAddPictures", spec := "fnExactAddPictures", apart := false }
def FnExactAddPicturesSaid : Prop := fnExactAddPicturesRow.holds Try.pinned (OpenSpec.ofChange fnExactAddPicturesSpec)

/-- ITS FALSE NEIGHBOUR: 'it returns false'. Refute it at one input. -/
def fnExactAddPicturesWrong : ChangeSpec := { name := "fnExactAddPictures", fn := fun _ => fun
  | [d1, d2] => { results := [.lit (.bool false)], args := [d1, d2] }
  | _ => none }
def FnExactAddPicturesWrongFalsely : Prop := fnExactAddPicturesRow.holds Try.pinned (OpenSpec.ofChange fnExactAddPicturesWrong)

/- THE SECOND FORM. 'bulk': how many values and letters a reading holds, each counted each time it is reached (what is shared counts as often as it is met; a slice's spare places count too). A statement '..UptoSaid' is the law's where the arguments, and the package variables that the reading takes, are together of bulk at most 1048576: NARROWER than '..Said'. Prove '..Said' where nothing that the law and all that it calls make is longer than what came in: it says more and counts as full. Else prove '..UptoSaid'. A law counts once. -/
mutual
def uptoBulk {H : Type} : DataW H → Nat
  | .lit (.string bytes) => bytes.length + 1
  | .lit _ => 1
  | .nil => 1
  | .ptr d => uptoBulk d + 1
  | .slice elems spare => uptoBulkAll elems + uptoBulkAll spare + 1
  | .agg parts => uptoBulkAll parts + 1
  | .iface _ d => uptoBulk d + 1
  | .map entries => uptoBulkEntries entries + 1
  | .held _ => 1
def uptoBulkAll {H : Type} : List (DataW H) → Nat
  | [] => 0
  | d :: r => uptoBulk d + uptoBulkAll r
def uptoBulkEntries {H : Type} : List (Lit × DataW H) → Nat
  | [] => 0
  | x :: r => uptoBulkEntry x + uptoBulkEntries r
def uptoBulkEntry {H : Type} : Lit × DataW H → Nat
  | (.string bytes, d) => bytes.length + uptoBulk d + 1
  | (_, d) => uptoBulk d + 1
 end
def uptoSmall : (H : Type) → List (DataW H) → Bool := fun _ ds => decide (uptoBulkAll ds ≤ 1048576)
def OpenSpec.upto (s : _root_.Go.ChangeSpec) : _root_.Go.OpenSpec := { _root_.Go.OpenSpec.ofChange s with cond := some uptoSmall }

/-- 'laws.FnExactTurnPicture', WHERE WHAT IT READS IS OF BULK AT MOST 1048576: true; the input reads as it did. -/
def fnExactTurnPictureUptoRow : OpenClaim := { program := "ytdckgmeoepmboab", sum := "655cc85c545e5b83a80a078941d09664f030cd625dda99f386a8482fb0ddcc75", func := "loop.example/g03229/laws.FnExactTurnPicture", spec := "fnExactTurnPicture", apart := false, narrowed := true }
def FnExactTurnPictureUptoSaid : Prop := fnExactTurnPictureUptoRow.holds Try.pinned (OpenSpec.upto fnExactTurnPictureSpec)

/-- 'laws.FnExactNegativePicture', WHERE WHAT IT READS IS OF BULK AT MOST 1048576: true; the input reads as it did. -/
def fnExactNegativePictureUptoRow : OpenClaim := { program := "ytdckgmeoepmboab", sum := "655cc85c545e5b83a80a078941d09664f030cd625dda99f386a8482fb0ddcc75", func := "loop.example/g03229/laws.FnExactNegativePicture", spec := "fnExactNegativePicture", apart := false, narrowed := true }
def FnExactNegativePictureUptoSaid : Prop := fnExactNegativePictureUptoRow.holds Try.pinned (OpenSpec.upto fnExactNegativePictureSpec)

/-- 'laws.FnExactCropPicture', WHERE WHAT IT READS IS OF BULK AT MOST 1048576: true; the input reads as it did. -/
def fnExactCropPictureUptoRow : OpenClaim := { program := "ytdckgmeoepmboab", sum := "655cc85c545e5b83a80a078941d09664f030cd625dda99f386a8482fb0ddcc75", func := "loop.example/g03229/laws.FnExactCropPicture", spec := "fnExactCropPicture", apart := false, narrowed := true }
def FnExactCropPictureUptoSaid : Prop := fnExactCropPictureUptoRow.holds Try.pinned (OpenSpec.upto fnExactCropPictureSpec)

/-- 'laws.FnExactTilePicture', WHERE WHAT IT READS IS OF BULK AT MOST 1048576: true; the input reads as it did. -/
def fnExactTilePictureUptoRow : OpenClaim := { program := "ytdckgmeoepmboab", sum := "655cc85c545e5b83a80a078941d09664f030cd625dda99f386a8482fb0ddcc75", func := "loop.example/g03229/laws.FnExactTilePicture", spec := "fnExactTilePicture", apart := false, narrowed := true }
def FnExactTilePictureUptoSaid : Prop := fnExactTilePictureUptoRow.holds Try.pinned (OpenSpec.upto fnExactTilePictureSpec)

/-- 'laws.FnExactSamePicture', WHERE WHAT IT READS IS OF BULK AT MOST 1048576: true; the input reads as it did. -/
def fnExactSamePictureUptoRow : OpenClaim := { program := "ytdckgmeoepmboab", sum := "655cc85c545e5b83a80a078941d09664f030cd625dda99f386a8482fb0ddcc75", func := "loop.example/g03229/laws.FnExactSamePicture", spec := "fnExactSamePicture", apart := false, narrowed := true }
def FnExactSamePictureUptoSaid : Prop := fnExactSamePictureUptoRow.holds Try.pinned (OpenSpec.upto fnExactSamePictureSpec)

/-- 'laws.FnExactCoversPicture', WHERE WHAT IT READS IS OF BULK AT MOST 1048576: true; the input reads as it did. -/
def fnExactCoversPictureUptoRow : OpenClaim := { program := "ytdckgmeoepmboab", sum := "655cc85c545e5b83a80a078941d09664f030cd625dda99f386a8482fb0ddcc75", func := "loop.example/g03229/laws.FnExactCoversPicture", spec := "fnExactCoversPicture", apart := false, narrowed := true }
def FnExactCoversPictureUptoSaid : Prop := fnExactCoversPictureUptoRow.holds Try.pinned (OpenSpec.upto fnExactCoversPictureSpec)

/-- 'laws.FnExactAddPictures', WHERE WHAT IT READS IS OF BULK AT MOST 1048576: true; the input reads as it did. -/
def fnExactAddPicturesUptoRow : OpenClaim := { program := "ytdckgmeoepmboab", sum := "655cc85c545e5b83a80a078941d09664f030cd625dda99f386a8482fb0ddcc75", func := "loop.example/g03229/laws.FnExactAddPictures", spec := "fnExactAddPictures", apart := false, narrowed := true }
def FnExactAddPicturesUptoSaid : Prop := fnExactAddPicturesUptoRow.holds Try.pinned (OpenSpec.upto fnExactAddPicturesSpec)

end Rows
end Go.Proofs.Ytdckgmeoepmboab
