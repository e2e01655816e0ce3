/-
  The last text of this claim: its theorem, over the contracts of the texts ahead of it.
-/
import Derived.Test.YtmikajnpgcabfaaGreatDoorSC47
import Derived.Test.YtmikajnpgcabfaaGreatDoorSC50
import Derived.Test.YtmikajnpgcabfaaGreatDoorSC51
namespace Go.Proofs.YtmikajnpgcabfaaGreatDoor.wScript
theorem proved:Rows.FnScriptCardSaid:=jScript.card (jScript.said xScript.okAll)
end Go.Proofs.YtmikajnpgcabfaaGreatDoor.wScript
