/-
  The last text of this claim: its theorem, over the contracts of the texts ahead of it.
-/
import Derived.Test.YtanccoopbgamdaaGreatDoorKC47
import Derived.Test.YtanccoopbgamdaaGreatDoorKC51
import Derived.Test.YtanccoopbgamdaaGreatDoorKC52
namespace Go.Proofs.YtanccoopbgamdaaGreatDoor.wKept
theorem proved:Rows.FnKeptCardSaid:=jKept.card (jKept.said xKept.okAll)
end Go.Proofs.YtanccoopbgamdaaGreatDoor.wKept
