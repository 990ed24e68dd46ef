/- spec.ChainAt, impl.ChainAt: the state at a height. -/
import Derived.Test.YtcnbephpadmboaaGreatDoorUCxB
import Derived.Test.YtcnbephpadmboaaGreatDoorUCxM
import Derived.Test.YtcnbephpadmboaaGreatDoorICopy
set_option linter.unusedVariables false
set_option linter.unusedSimpArgs false
namespace Go.Proofs.YtcnbephpadmboaaGreatDoor
open Go.RowKit

theorem stB_len {x : StL} (h : stB x = true) : x.sent.length ≤ 8 ∧ x.live.length ≤ 8 ∧ x.back.length ≤ 8 ∧ x.got.length ≤ 8 := by
  have k := of_decide_eq_true h
  have h1 := k.2.1.small
  have h2 := k.2.2.1.1
  have h3 := k.2.2.1.2.1
  have h4 := k.2.2.2.1
  omega
end Go.Proofs.YtcnbephpadmboaaGreatDoor
