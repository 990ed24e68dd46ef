/- szStateS, szChain of the laws. -/
import Derived.Test.YtbgpclicflafaaaCxM
import Derived.Test.YtbgpclicflafaaaUOk
set_option linter.unusedVariables false
set_option linter.unusedSimpArgs false
namespace Go.Proofs.Ytbgpclicflafaaa
open Go.RowKit

def stTot (x : StL) : Int := (x.sent.length : Int) + x.live.length + x.back.length + x.got.length
/-- How much the first k states hold. -/
def paTot (l : List StM) : Nat → Int
  | 0 => 0
  | k + 1 => paTot l k + stTot (l.getD k stm0).x
theorem stTot_nn (x : StL) : 0 ≤ stTot x := by unfold stTot; omega
theorem paTot_nn (l : List StM) (k : Nat) : 0 ≤ paTot l k := by
  induction k with
  | zero => exact Int.le_refl _
  | succ k ih => have := stTot_nn (l.getD k stm0).x; simp only [paTot]; omega
theorem paTot_mono (l : List StM) {j k : Nat} (h : j ≤ k) : paTot l j ≤ paTot l k := by
  induction h with
  | refl => exact Int.le_refl _
  | @step m _ ih => have := stTot_nn (l.getD m stm0).x; simp only [paTot]; omega
def pastTot (l : List StM) : Int := (l.length : Int) + paTot l l.length
def chTot (c : ChM) : Int := (c.bk.b.own.length : Int) + c.bk.b.notes.length + stTot c.st.x + pastTot c.past + c.knows.length
def szR (left t : Int) : Int := if t ≤ left then left - t else -1

end Go.Proofs.Ytbgpclicflafaaa
