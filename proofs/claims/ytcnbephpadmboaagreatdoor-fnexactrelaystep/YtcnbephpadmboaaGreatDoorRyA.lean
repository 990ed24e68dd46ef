/- mayTell, mayLate, mayGet of the program. -/
import Derived.Test.YtcnbephpadmboaaGreatDoorURyS
import Derived.Test.YtcnbephpadmboaaGreatDoorUHas
import Derived.Test.YtcnbephpadmboaaGreatDoorUMem
set_option linter.unusedVariables false
set_option linter.unusedSimpArgs false
namespace Go.Proofs.YtcnbephpadmboaaGreatDoor
open Go.RowKit

end Go.Proofs.YtcnbephpadmboaaGreatDoor
