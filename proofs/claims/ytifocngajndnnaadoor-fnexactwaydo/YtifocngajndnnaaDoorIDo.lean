/- WayDo of the program and of the model. The two tables read as the program's text lays them. -/
import Derived.Test.YtifocngajndnnaaDoorIDoA
import Derived.Test.YtifocngajndnnaaDoorIDoB
import Derived.Test.YtifocngajndnnaaDoorIDoC
import Derived.Test.YtifocngajndnnaaDoorIDoD
import Derived.Deep.RegionHeld3
set_option linter.unusedVariables false
set_option linter.unusedSimpArgs false
namespace Go.Proofs.YtifocngajndnnaaDoor
open Go.RowKit

theorem implDo_any (x y : StL) (A1 A2 A3 A4 B1 B2 B3 B4 : Option Addr) (c1 c2 c3 c4 d1 d2 d3 d4 : Nat) (k : Int) (w : World) (hx : StAt w x A1 A2 A3 A4) (hy : StAt w y B1 B2 B3 B4) (ht : Tabs w) (hm : wmayB x y k = true) :
    Calls Tryd.prog 18 #[stV x A1 A2 A3 A4 c1 c2 c3 c4, stV y B1 B2 B3 B4 d1 d2 d3 d4, .int .i64 k] w (RetDoO w (doSt x y k)) := by
  have h7 : k = 1 ∨ k = 2 ∨ k = 3 ∨ k = 4 ∨ k = 5 ∨ k = 6 ∨ k = 7 := by
    by_cases hn : k < 1 ∨ 7 < k
    · have : mayB x y k = false := by unfold mayB; rw [if_neg (by omega), if_neg (by omega), if_neg (by omega), if_neg (by omega), if_neg (by omega), if_neg (by omega), if_neg (by omega)]
      simp [wmayB, this] at hm
    · omega
  rcases h7 with rfl | rfl | rfl | rfl | rfl | rfl | rfl
  · exact implDo_1 x y A1 A2 A3 A4 B1 B2 B3 B4 c1 c2 c3 c4 d1 d2 d3 d4 w hx hy ht hm
  · exact implDo_2 x y A1 A2 A3 A4 B1 B2 B3 B4 c1 c2 c3 c4 d1 d2 d3 d4 w hx hy ht hm
  · exact implDo_3 x y A1 A2 A3 A4 B1 B2 B3 B4 c1 c2 c3 c4 d1 d2 d3 d4 w hx hy ht hm
  · exact implDo_4 x y A1 A2 A3 A4 B1 B2 B3 B4 c1 c2 c3 c4 d1 d2 d3 d4 w hx hy ht hm
  · exact implDo_5 x y A1 A2 A3 A4 B1 B2 B3 B4 c1 c2 c3 c4 d1 d2 d3 d4 w hx hy ht hm
  · exact implDo_6 x y A1 A2 A3 A4 B1 B2 B3 B4 c1 c2 c3 c4 d1 d2 d3 d4 w hx hy ht hm
  · exact implDo_7 x y A1 A2 A3 A4 B1 B2 B3 B4 c1 c2 c3 c4 d1 d2 d3 d4 w hx hy ht hm
end Go.Proofs.YtifocngajndnnaaDoor
