/- One store into a state of the call's own; settle() of the program. refund() of the program. -/
import Derived.Test.YtcnbephpadmboaaGreatDoorCxY
import Derived.Test.YtcnbephpadmboaaGreatDoorUCxB
import Derived.Test.YtcnbephpadmboaaGreatDoorIAB
set_option linter.unusedVariables false
set_option linter.unusedSimpArgs false
/-! RyB -/
namespace Go.Proofs.YtcnbephpadmboaaGreatDoor
open Go.RowKit

end Go.Proofs.YtcnbephpadmboaaGreatDoor

/-! RyC -/
namespace Go.Proofs.YtcnbephpadmboaaGreatDoor
open Go.RowKit

end Go.Proofs.YtcnbephpadmboaaGreatDoor
