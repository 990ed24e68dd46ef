/- toPacket of the exact laws. -/
import Derived.Test.YtedmkbiamjpdaaaPk0
set_option linter.unusedVariables false
set_option linter.unusedSimpArgs false
namespace Go.Proofs.Ytedmkbiamjpdaaa
open Go.RowKit

end Go.Proofs.Ytedmkbiamjpdaaa
