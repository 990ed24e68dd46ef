/- BankAway and BankBack of the program. -/
import Derived.Test.YtcnbephpadmboaaGreatDoorUIMv
import Derived.Test.YtcnbephpadmboaaGreatDoorUTurn
set_option linter.unusedVariables false
set_option linter.unusedSimpArgs false
namespace Go.Proofs.YtcnbephpadmboaaGreatDoor
open Go.RowKit
set_option maxRecDepth 100000


end Go.Proofs.YtcnbephpadmboaaGreatDoor
