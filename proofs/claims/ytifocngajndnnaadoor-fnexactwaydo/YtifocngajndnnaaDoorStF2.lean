/- A packet among the arguments, opened. -/
import Derived.Test.YtifocngajndnnaaDoorStF
set_option linter.unusedVariables false
set_option linter.unusedSimpArgs false
namespace Go.Proofs.YtifocngajndnnaaDoor
open Go.RowKit Go.ChangeShapes Go.WideShapes Go.ChangeAt Go.Joins Go.Deep

set_option maxRecDepth 100000 in
theorem pk_of_trod {H : Type} {enc : TypeId × Value → H} {W : World} {base b0 : Nat} {r : Reach} {spare : Nat → Bool} {held : Bool} {v : Value} {d : DataW H} {p : List MemPlace}
    (hv : Value.okWide Tryd.prog W r b0 92 v) (h : DataW.Trod enc Tryd.prog W base spare held 92 v d p) : ∃ q : Pk, v = q.val := by
  obtain ⟨v0, v1, v2, v3, v4, v5, v6, y0, y1, y2, y3, y4, y5, y6, m, rfl, rfl, rfl, h0, h1, h2, h3, h4, h5, h6⟩ := agg7 Tryd.underlying92 (by kernel_rfl) cellsPk hv h
  obtain ⟨x0, e0, _, q0⟩ := DataW.trod_int Tryd.underlying3 h0
  obtain ⟨x1, e1, _, q1⟩ := DataW.trod_int Tryd.underlying3 h1
  obtain ⟨x2, e2, _, q2⟩ := DataW.trod_int Tryd.underlying3 h2
  obtain ⟨x3, e3, _, q3⟩ := DataW.trod_int Tryd.underlying3 h3
  obtain ⟨x4, e4, _, q4⟩ := DataW.trod_int Tryd.underlying3 h4
  obtain ⟨x5, e5, _, q5⟩ := DataW.trod_int Tryd.underlying3 h5
  obtain ⟨x6, e6, _, q6⟩ := DataW.trod_int Tryd.underlying3 h6
  simp at e0 e1 e2 e3 e4 e5 e6
  subst e0 e1 e2 e3 e4 e5 e6
  exact ⟨⟨x0, x1, x2, x3, x4, x5, x6⟩, rfl⟩
end Go.Proofs.YtifocngajndnnaaDoor
