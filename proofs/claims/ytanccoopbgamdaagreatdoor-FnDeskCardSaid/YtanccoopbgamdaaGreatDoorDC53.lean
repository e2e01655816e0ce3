/-
  The last text of this claim: its theorem, over the contracts of the texts ahead of it.
-/
import Derived.Test.YtanccoopbgamdaaGreatDoorDC48
import Derived.Test.YtanccoopbgamdaaGreatDoorDC51
import Derived.Test.YtanccoopbgamdaaGreatDoorDC52
namespace Go.Proofs.YtanccoopbgamdaaGreatDoor.wDesk
theorem proved:Rows.FnDeskCardSaid:=jDesk.card (jDesk.said xDesk.okAll)
end Go.Proofs.YtanccoopbgamdaaGreatDoor.wDesk
