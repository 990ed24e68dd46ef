/- BankNew of the program and of the model. -/
import Derived.Test.YtcnbephpadmboaaGreatDoorUMem
set_option linter.unusedVariables false
set_option linter.unusedSimpArgs false
namespace Go.Proofs.YtcnbephpadmboaaGreatDoor
open Go.RowKit

end Go.Proofs.YtcnbephpadmboaaGreatDoor
