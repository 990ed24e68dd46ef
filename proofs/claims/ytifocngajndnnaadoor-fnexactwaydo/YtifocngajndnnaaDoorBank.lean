/- Banks in memory; eqBank, markBank, heldBank of the laws; BankNew of the program and of the model. -/
import Derived.Test.YtifocngajndnnaaDoorEq
import Derived.Test.YtifocngajndnnaaDoorMark
set_option linter.unusedVariables false
set_option linter.unusedSimpArgs false
namespace Go.Proofs.YtifocngajndnnaaDoor
open Go.RowKit

theorem eqIntS_yes (A B : Option Addr) (n c d : Nat) (xs : List Int) (w : World) (ha : Ints w A n xs) (hb : Ints w B n xs) (hn : n ≤ maxLen) :
    Calls Tryd.prog 23 #[.slice A n c, .slice B n d] w fun e w' => e = .returned (.bool true) ∧ Qt w w' :=
  (eqIntS_any A B n n c d xs xs w ha hb hn hn).mono fun e w' ⟨he, hq⟩ => ⟨by simpa using he, hq⟩

def RetMark2 (w : World) (lo : Nat) (A1 A2 : Option Addr) (n1 n2 : Nat) (k : Int) (e : Ending) (w' : World) : Prop :=
  e = .returned (.int .i64 (k + n1 + n2)) ∧ Row w' lo A1 n1 (iota k n1) ∧ Row w' lo A2 n2 (iota (k + n1) n2) ∧ Keeps (fun b => blk A1 n1 b ∨ blk A2 n2 b) w w'

end Go.Proofs.YtifocngajndnnaaDoor
