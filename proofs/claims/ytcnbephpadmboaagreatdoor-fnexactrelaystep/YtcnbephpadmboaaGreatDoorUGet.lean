/- l13Get of the model: a packet comes to a chain. l13Get of the model: a packet comes to a chain (too late). l13Get of the model: a packet comes to a chain (it comes). -/
import Derived.Test.YtcnbephpadmboaaGreatDoorULate
import Derived.Test.YtcnbephpadmboaaGreatDoorUHas
set_option linter.unusedVariables false
set_option linter.unusedSimpArgs false
/-! GGetA -/
namespace Go.Proofs.YtcnbephpadmboaaGreatDoor
open Go.RowKit

end Go.Proofs.YtcnbephpadmboaaGreatDoor

/-! GGetB -/
namespace Go.Proofs.YtcnbephpadmboaaGreatDoor
open Go.RowKit

end Go.Proofs.YtcnbephpadmboaaGreatDoor

/-! GGetC -/
namespace Go.Proofs.YtcnbephpadmboaaGreatDoor
open Go.RowKit

end Go.Proofs.YtcnbephpadmboaaGreatDoor
