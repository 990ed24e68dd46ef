/- l3Live, l11May, l11Do of the model: what a channel end may do, and what it becomes. l11May, l11Do, WayMay, WayNext of the model. l11Do, WayMay, WayNext of the model. -/
import Derived.Test.YtcnbephpadmboaaGreatDoorUGh
import Derived.Test.YtcnbephpadmboaaGreatDoorSS
set_option linter.unusedVariables false
set_option linter.unusedSimpArgs false
/-! GWay -/
namespace Go.Proofs.YtcnbephpadmboaaGreatDoor
open Go.RowKit

/-- How many of a list are true. -/
def cntT : List Bool → Nat
  | [] => 0
  | b :: l => (if b = true then 1 else 0) + cntT l
def liveN (x : StL) : Nat := cntT x.live
/-- Whether a step may be done. -/
def mayB (x y : StL) (k : Int) : Bool :=
  if k = 1 then decide (x.way = 0) else if k = 2 then decide (x.way ≤ 1 ∧ (y.way = 1 ∨ y.way = 2)) else if k = 3 then decide (x.way = 1 ∧ 2 ≤ y.way) else
  if k = 4 then decide (x.way = 2 ∧ 2 ≤ y.way) else if k = 5 then decide (x.way = 3 ∧ x.ver < 9) else if k = 6 then decide (x.way = 3 ∧ y.way = 4 ∧ y.want = x.ver + 1) else
  if k = 7 then decide (x.way = 4 ∧ liveN x = 0 ∧ ((y.way = 4 ∧ y.want = x.want ∧ liveN y = 0) ∨ y.ver = x.want)) else false
end Go.Proofs.YtcnbephpadmboaaGreatDoor

/-! GMay -/
namespace Go.Proofs.YtcnbephpadmboaaGreatDoor
open Go.RowKit

end Go.Proofs.YtcnbephpadmboaaGreatDoor

/-! GDo -/
namespace Go.Proofs.YtcnbephpadmboaaGreatDoor
open Go.RowKit

/-- A state behind a step. -/
def doSt (x y : StL) (k : Int) : StL :=
  if k = 1 then { x with way := 1 } else if k = 2 then { x with way := 2 } else if k = 3 ∨ k = 4 then { x with way := 3 } else if k = 5 then { x with way := 4, want := x.ver + 1 } else
  if k = 6 then { x with way := 4, want := y.want } else if k = 7 then { x with way := 3, ver := x.want, want := 0 } else x
end Go.Proofs.YtcnbephpadmboaaGreatDoor
