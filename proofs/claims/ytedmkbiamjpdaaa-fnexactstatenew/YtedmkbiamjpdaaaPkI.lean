/- impl.PacketOk answers pkB, where its tables read as the text lays them. -/
import Derived.Test.YtedmkbiamjpdaaaPk0
set_option linter.unusedVariables false
set_option linter.unusedSimpArgs false
namespace Go.Proofs.Ytedmkbiamjpdaaa
open Go.RowKit

def loL : List Int := [1, 1, 1, 0, 1, 1, 1]
def hiL : List Int := [8, 2, 3, 3, 9, 90, 9]

/-- The first fields are in their ranges. -/
def okTo : Nat → Int → Int → Int → Int → Int → Int → Int → Bool
  | 0, _, _, _, _, _, _, _ => true
  | 1, s, k, f, t, m, u, v => in2 s 1 8
  | 2, s, k, f, t, m, u, v => in2 s 1 8 && in2 k 1 2
  | 3, s, k, f, t, m, u, v => in2 s 1 8 && in2 k 1 2 && in2 f 1 3
  | 4, s, k, f, t, m, u, v => in2 s 1 8 && in2 k 1 2 && in2 f 1 3 && in2 t 0 3
  | 5, s, k, f, t, m, u, v => in2 s 1 8 && in2 k 1 2 && in2 f 1 3 && in2 t 0 3 && in2 m 1 9
  | 6, s, k, f, t, m, u, v => in2 s 1 8 && in2 k 1 2 && in2 f 1 3 && in2 t 0 3 && in2 m 1 9 && in2 u 1 90
  | 7, s, k, f, t, m, u, v => in2 s 1 8 && in2 k 1 2 && in2 f 1 3 && in2 t 0 3 && in2 m 1 9 && in2 u 1 90 && in2 v 1 9
  | _, s, k, f, t, m, u, v => pkB s k f t m u v

end Go.Proofs.Ytedmkbiamjpdaaa
