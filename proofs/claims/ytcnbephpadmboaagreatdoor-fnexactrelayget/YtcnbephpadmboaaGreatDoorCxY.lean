/- The program's packet() of a linked chain, and withSent(). -/
import Derived.Test.YtcnbephpadmboaaGreatDoorCxA
import Derived.Test.YtcnbephpadmboaaGreatDoorUSend
import Derived.Deep.Cut
set_option linter.unusedVariables false
set_option linter.unusedSimpArgs false
namespace Go.Proofs.YtcnbephpadmboaaGreatDoor
open Go.RowKit

end Go.Proofs.YtcnbephpadmboaaGreatDoor
