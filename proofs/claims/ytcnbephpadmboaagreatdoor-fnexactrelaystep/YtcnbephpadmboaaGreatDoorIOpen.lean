/- openLedger of the program. -/
import Derived.Test.YtcnbephpadmboaaGreatDoorUILed
import Derived.Deep.RegionHeld3
import Derived.Deep.RegionWith
set_option linter.unusedVariables false
set_option linter.unusedSimpArgs false
namespace Go.Proofs.YtcnbephpadmboaaGreatDoor
open Go.RowKit
set_option maxRecDepth 100000

end Go.Proofs.YtcnbephpadmboaaGreatDoor
