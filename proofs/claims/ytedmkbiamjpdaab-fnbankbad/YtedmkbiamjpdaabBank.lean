/- Banks in memory; eqBank, markBank, heldBank of the laws; BankNew of the program and of the model. -/
import Derived.Test.YtedmkbiamjpdaabEq
import Derived.Test.YtedmkbiamjpdaabMark
set_option linter.unusedVariables false
set_option linter.unusedSimpArgs false
namespace Go.Proofs.Ytedmkbiamjpdaab
open Go.RowKit

def RetMark2 (w : World) (lo : Nat) (A1 A2 : Option Addr) (n1 n2 : Nat) (k : Int) (e : Ending) (w' : World) : Prop :=
  e = .returned (.int .i64 (k + n1 + n2)) ∧ Row w' lo A1 n1 (iota k n1) ∧ Row w' lo A2 n2 (iota (k + n1) n2) ∧ Keeps (fun b => blk A1 n1 b ∨ blk A2 n2 b) w w'

end Go.Proofs.Ytedmkbiamjpdaab
