/- What DrawBankAll of the model hands back. -/
import Derived.Test.YtedmkbiamjpdaabDAway
set_option linter.unusedVariables false
set_option linter.unusedSimpArgs false
namespace Go.Proofs.Ytedmkbiamjpdaab
open Go.RowKit

def RetD1 (w : World) (e : Ending) (w' : World) : Prop := ∃ v b, e = .returned v ∧ Drawn w w' v b

end Go.Proofs.Ytedmkbiamjpdaab
