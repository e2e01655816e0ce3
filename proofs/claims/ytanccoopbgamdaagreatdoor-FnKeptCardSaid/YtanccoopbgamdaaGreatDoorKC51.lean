/-
  Contracts and plain facts on which the theorem of this claim rests, text 51.
-/
import Derived.Test.YtanccoopbgamdaaGreatDoorKC48
import Derived.Test.YtanccoopbgamdaaGreatDoorKC49
import Derived.Test.YtanccoopbgamdaaGreatDoorKC50
namespace Go.Proofs.YtanccoopbgamdaaGreatDoor.jKept
open Go.ChangeShapes Go.WideShapes Go.ChangeAt Go.RowKit Go.Lib
set_option linter.unusedVariables false
set_option linter.unusedSimpArgs false
theorem said (ok: ∀(ad0:Option Addr) (n0 cap0:Nat) (bs0:List Int) (w:World),bs0.length=n0→RdU w.heap.size w ad0 bs0→n0≤9223372036854775807→LaidW w→Calls Tryz.prog 4 #[.slice ad0 n0 cap0] w fun e w'=>e= .returned (.bool true)∧Below w.heap.size w w'):Rows.FnKeptSaid:=
 OpenClaim.holds_of_wide 4 Tryz.f4 rfl rfl rfl rfl rfl rfl rfl ⟨rfl,rfl,rfl,rfl,rfl⟩ rfl rfl rfl rfl rfl called Tryz.func4 closed
   instanced wrapped
   (fun os started H enc _=>lifted ok os started H enc)
end Go.Proofs.YtanccoopbgamdaaGreatDoor.jKept
