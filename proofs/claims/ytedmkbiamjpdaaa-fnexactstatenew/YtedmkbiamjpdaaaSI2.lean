/- impl.StateOk answers stB. -/
import Derived.Test.YtedmkbiamjpdaaaSI
set_option linter.unusedVariables false
set_option linter.unusedSimpArgs false
namespace Go.Proofs.Ytedmkbiamjpdaaa
open Go.RowKit

/-- The value of a state. -/
def stV (x : StL) (A1 A2 A3 A4 : Option Addr) (c1 c2 c3 c4 : Nat) : Value :=
  .agg #[.int .i64 x.way, .int .i64 x.ver, .int .i64 x.want, .slice A1 x.sent.length c1, .slice A2 x.live.length c2, .slice A3 x.back.length c3, .slice A4 x.got.length c4]

theorem stB_no1 {x : StL} (h : decide (WayOk x.way x.ver x.want) = false) : stB x = false := by
  simp only [decide_eq_false_iff_not] at h
  simp only [stB, decide_eq_false_iff_not]
  exact fun k => h k.1
theorem stB_no2 {x : StL} (h : decide (SentOk x.ver x.sent) = false) : stB x = false := by
  simp only [decide_eq_false_iff_not] at h
  simp only [stB, decide_eq_false_iff_not]
  exact fun k => h k.2.1
theorem stB_no3 {x : StL} (h : decide (FateOk x.sent.length x.live x.back) = false) : stB x = false := by
  simp only [decide_eq_false_iff_not] at h
  simp only [stB, decide_eq_false_iff_not]
  exact fun k => h k.2.2.1
theorem stB_4 {x : StL} (h1 : decide (WayOk x.way x.ver x.want) = true) (h2 : decide (SentOk x.ver x.sent) = true) (h3 : decide (FateOk x.sent.length x.live x.back) = true) : stB x = decide (GotOk x.got) := by
  simp only [decide_eq_true_eq] at h1 h2 h3
  simp only [stB, decide_eq_decide]
  exact ⟨fun h => h.2.2.2, fun h => ⟨h1, h2, h3, h⟩⟩

end Go.Proofs.Ytedmkbiamjpdaaa
