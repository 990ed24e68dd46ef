/- The ledger as a bank again; the room for coins. BankMove of the program answers as moved. -/
import Derived.Test.YtcnbephpadmboaaGreatDoorIOpen
import Derived.Test.YtcnbephpadmboaaGreatDoorUTurn
set_option linter.unusedVariables false
set_option linter.unusedSimpArgs false
/-! IBank -/
namespace Go.Proofs.YtcnbephpadmboaaGreatDoor
open Go.RowKit
set_option maxRecDepth 100000

end Go.Proofs.YtcnbephpadmboaaGreatDoor

/-! IMove -/
namespace Go.Proofs.YtcnbephpadmboaaGreatDoor
open Go.RowKit
set_option maxRecDepth 100000


end Go.Proofs.YtcnbephpadmboaaGreatDoor
