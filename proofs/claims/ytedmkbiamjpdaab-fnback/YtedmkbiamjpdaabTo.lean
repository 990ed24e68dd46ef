/- szBank, toIntS, toBank of the laws. -/
import Derived.Test.YtedmkbiamjpdaabOk
import Derived.Test.YtedmkbiamjpdaabToI
set_option linter.unusedVariables false
set_option linter.unusedSimpArgs false
namespace Go.Proofs.Ytedmkbiamjpdaab
open Go.RowKit

def RetBank' (w : World) (b : BankL) (e : Ending) (w' : World) : Prop :=
  ∃ A1 A2, e = .returned (.agg #[.slice A1 b.own.length b.own.length, .slice A2 b.notes.length b.notes.length, .int .i64 b.locked]) ∧
    Row w' w.heap.size A1 b.own.length b.own ∧ Row w' w.heap.size A2 b.notes.length b.notes ∧ (∀ i, blk A1 b.own.length i → ¬ blk A2 b.notes.length i) ∧ Keeps noBlk w w'

end Go.Proofs.Ytedmkbiamjpdaab
