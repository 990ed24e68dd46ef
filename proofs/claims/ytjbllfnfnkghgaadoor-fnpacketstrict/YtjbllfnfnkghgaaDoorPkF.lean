/- From a walk to a row that lists the program's two tables: the tables' cells out of the row's condition; a packet among the arguments opened. -/
import Derived.Test.YtjbllfnfnkghgaaDoorRows
import Derived.Test.YtjbllfnfnkghgaaDoorTie
import Derived.Test.YtjbllfnfnkghgaaDoorCards
import Derived.Test.YtjbllfnfnkghgaaDoorPkI
import Derived.ProofKit
import Derived.OpenShut
import Derived.OpenVars
import Derived.ChangeOld
import Derived.LaidMore
import Derived.Lib.LaidTab
import Derived.Lib.SmallJoins
import Derived.Deep.Fields
import Derived.Stop.Joined
import Derived.Stop.LaidErr
import Derived.SevenTiedAt
import Derived.KernelRfl
set_option linter.unusedVariables false
set_option linter.unusedSimpArgs false
namespace Go.Proofs.YtjbllfnfnkghgaaDoor
open Go.RowKit Go.ChangeShapes Go.WideShapes Go.ChangeAt Go.Joins Go.Deep

theorem own : ownKnob Tryd.prog.godebug = none := by kernel_rfl
theorem laidOut : laidOutB Tryd.prog = true := by kernel_rfl
theorem cellsInt : Tryd.prog.cellsOf 3 = 1 := by kernel_rfl
theorem cellsFields : Tryd.prog.cellsOf 43 = 7 := by kernel_rfl

theorem tabs_of {W : World} {n0 n1 : String} (g0 : Tryd.prog.globalNamed n0 = some 1) (g1 : Tryd.prog.globalNamed n1 = some 2)
    (h0 : Lib.TabIs Tryd.prog W n0 .i64 loL) (h1 : Lib.TabIs Tryd.prog W n1 .i64 hiL) : Tabs W := by
  refine ⟨fun j x hx => ?_, fun j x hx => ?_⟩
  · have hj : j < loL.length := (List.getElem?_eq_some_iff.1 hx).1
    have := h0.cell g0 j hj
    rw [List.getD_eq_getElem?_getD, hx] at this
    exact this
  · have hj : j < hiL.length := (List.getElem?_eq_some_iff.1 hx).1
    have := h1.cell g1 j hj
    rw [List.getD_eq_getElem?_getD, hx] at this
    exact this

/-- A list of two variables that are the two tables. -/
theorem tabs_two {W : World} (h : laidMet Tryd.prog Rows.fnExactPacketOkRow.laid W) : Tabs W := by
  have h0 : Lib.TabIs Tryd.prog W _ .i64 loL := Lib.tabIs_of_head (g := 1) (zs := loL) (by kernel_rfl) (by kernel_rfl) Tryd.underlying43 Tryd.underlying3 cellsInt cellsFields h
  have h1 : Lib.TabIs Tryd.prog W _ .i64 hiL := Lib.tabIs_of_head (g := 2) (zs := hiL) (by kernel_rfl) (by kernel_rfl) Tryd.underlying43 Tryd.underlying3 cellsInt cellsFields (laidMet.tail h)
  exact tabs_of (by kernel_rfl) (by kernel_rfl) h0 h1
theorem tabs_of_laid {W : World} (h : laidMetH Tryd.prog Rows.fnExactPacketOkRow.laid W) : Tabs W := by
  rw [MakeChecks.laidMetH_plain _ _ _ (by kernel_rfl)] at h
  exact tabs_two h
theorem tabs_of_laid5 {W : World} (h : laidMetH Tryd.prog Rows.fnExactPacketTextRow.laid W) : Tabs W := by
  rw [MakeChecks.laidMetH_plain _ _ _ (by kernel_rfl)] at h
  exact tabs_two (laidMet.tail (laidMet.tail (laidMet.tail h)))

theorem door_met (os : Os) (args : Array Value) : laidMetH Tryd.prog Rows.fnExactPacketOkRow.laid ((World.doorLaid Tryd.prog 101 os).forCall (fun _ _ => 0) ⟨#[], args, []⟩).memory :=
  laidMetH_of_parts3 (fuel := 8) (laidMet_of_run' 8 (by kernel_rfl) (by kernel_rfl)) (by kernel_rfl) (by kernel_rfl)
theorem door_met5 (os : Os) (args : Array Value) : laidMetH Tryd.prog Rows.fnExactPacketTextRow.laid ((World.doorLaid Tryd.prog 101 os).forCall (fun _ _ => 0) ⟨#[], args, []⟩).memory :=
  laidMetH_of_parts3 (fuel := 8) (laidMet_of_run' 8 (by kernel_rfl) (by kernel_rfl)) (by kernel_rfl) (by kernel_rfl)

section
variable {H : Type} {enc : TypeId × Value → H} {P : Program} {w : World} {base : Nat} {spare : Nat → Bool} {held : Bool}
theorem vars2 {n0 n1 : String} {gs : List (DataW H)} {ps : List MemPlace} (h : DataW.TrodVars enc P w spare [n0, n1] gs ps) : ∃ g0 g1, gs = [g0, g1] := by
  match gs, h with
  | [g0, g1], _ => exact ⟨g0, g1, rfl⟩
  | [], h => exact h.elim
  | [_], h => obtain ⟨_, _, _, _, _, _, _, _, _, _, hs, _⟩ := h; exact hs.elim
  | _ :: _ :: _ :: _, h =>
    obtain ⟨_, _, _, _, _, _, _, _, _, _, hs, _⟩ := h
    obtain ⟨_, _, _, _, _, _, _, _, _, _, hs, _⟩ := hs
    exact hs.elim
/-- A struct of seven fields of one cell, by value, opened. -/
theorem agg7 {r : Reach} {b0 : Nat} {t : TypeId} {f0 f1 f2 f3 f4 f5 f6 : Field} {v : Value} {d : DataW H} {p : List MemPlace} (hs : P.underlying t = some (.struct #[f0, f1, f2, f3, f4, f5, f6])) (hone : oneCellFields P #[f0, f1, f2, f3, f4, f5, f6] = true) (hC : P.cellsOf t = 7)
    (hv : Value.okWide P w r b0 t v) (h : DataW.Trod enc P w base spare held t v d p) :
    ∃ (v0 v1 v2 v3 v4 v5 v6 : Value) (y0 y1 y2 y3 y4 y5 y6 : DataW H × List MemPlace) (n : Nat), v = .agg #[v0, v1, v2, v3, v4, v5, v6] ∧ d = .agg [y0.1, y1.1, y2.1, y3.1, y4.1, y5.1, y6.1] ∧ p = y0.2 ++ (y1.2 ++ (y2.2 ++ (y3.2 ++ (y4.2 ++ (y5.2 ++ y6.2))))) ∧
      DataW.trod enc P w base spare held n f0.type [v0] = some y0 ∧ DataW.trod enc P w base spare held n f1.type [v1] = some y1 ∧ DataW.trod enc P w base spare held n f2.type [v2] = some y2 ∧ DataW.trod enc P w base spare held n f3.type [v3] = some y3 ∧ DataW.trod enc P w base spare held n f4.type [v4] = some y4 ∧ DataW.trod enc P w base spare held n f5.type [v5] = some y5 ∧ DataW.trod enc P w base spare held n f6.type [v6] = some y6 := by
  obtain ⟨cs, rfl, hsz⟩ := okWide_struct hs hv
  obtain ⟨l⟩ := cs
  match l, hsz.trans hC with
  | [c0, c1, c2, c3, c4, c5, c6], _ =>
    obtain ⟨fuel, hf⟩ := h
    obtain ⟨xs, n, _, hx, _, hlen, hg⟩ := DataW.trod_struct hs hf
    obtain ⟨o0, k0⟩ := hone_of hone 0 f0 rfl
    obtain ⟨o1, k1⟩ := hone_of hone 1 f1 rfl
    obtain ⟨o2, k2⟩ := hone_of hone 2 f2 rfl
    obtain ⟨o3, k3⟩ := hone_of hone 3 f3 rfl
    obtain ⟨o4, k4⟩ := hone_of hone 4 f4 rfl
    obtain ⟨o5, k5⟩ := hone_of hone 5 f5 rfl
    obtain ⟨o6, k6⟩ := hone_of hone 6 f6 rfl
    match xs, hlen with
    | [y0, y1, y2, y3, y4, y5, y6], _ =>
      simp only [Prod.mk.injEq] at hx
      exact ⟨c0, c1, c2, c3, c4, c5, c6, y0, y1, y2, y3, y4, y5, y6, n, rfl, by simpa using hx.1, by simpa using hx.2, by simpa [Value.cells, o0, k0] using hg 0 f0 rfl, by simpa [Value.cells, o1, k1] using hg 1 f1 rfl, by simpa [Value.cells, o2, k2] using hg 2 f2 rfl, by simpa [Value.cells, o3, k3] using hg 3 f3 rfl, by simpa [Value.cells, o4, k4] using hg 4 f4 rfl, by simpa [Value.cells, o5, k5] using hg 5 f5 rfl, by simpa [Value.cells, o6, k6] using hg 6 f6 rfl⟩
end

theorem cellsPk : Tryd.prog.cellsOf 33 = 7 := by kernel_rfl
theorem wf_i64 {L : Int} (h : (Lit.int .i64 L).wf = true) : -9223372036854775808 ≤ L ∧ L ≤ 9223372036854775807 := by
  have := bounds_i64 h
  omega
def I64 (x : Int) : Prop := -9223372036854775808 ≤ x ∧ x ≤ 9223372036854775807
set_option maxRecDepth 100000 in
theorem pk_of_trod {H : Type} {enc : TypeId × Value → H} {W : World} {base b0 : Nat} {r : Reach} {spare : Nat → Bool} {held : Bool} {v : Value} {d : DataW H} {p : List MemPlace}
    (hv : Value.okWide Tryd.prog W r b0 33 v) (h : DataW.Trod enc Tryd.prog W base spare held 33 v d p) :
    ∃ s k f t m u vv : Int, v = .agg #[.int .i64 s, .int .i64 k, .int .i64 f, .int .i64 t, .int .i64 m, .int .i64 u, .int .i64 vv] ∧ I64 s ∧ I64 k ∧ I64 f ∧ I64 t ∧ I64 m ∧ I64 u ∧ I64 vv := by
  obtain ⟨v0, v1, v2, v3, v4, v5, v6, y0, y1, y2, y3, y4, y5, y6, m, rfl, rfl, rfl, h0, h1, h2, h3, h4, h5, h6⟩ := agg7 Tryd.underlying33 (by kernel_rfl) cellsPk hv h
  obtain ⟨x0, e0, _, q0⟩ := DataW.trod_int Tryd.underlying3 h0
  simp at e0
  subst e0
  obtain ⟨x1, e1, _, q1⟩ := DataW.trod_int Tryd.underlying3 h1
  simp at e1
  subst e1
  obtain ⟨x2, e2, _, q2⟩ := DataW.trod_int Tryd.underlying3 h2
  simp at e2
  subst e2
  obtain ⟨x3, e3, _, q3⟩ := DataW.trod_int Tryd.underlying3 h3
  simp at e3
  subst e3
  obtain ⟨x4, e4, _, q4⟩ := DataW.trod_int Tryd.underlying3 h4
  simp at e4
  subst e4
  obtain ⟨x5, e5, _, q5⟩ := DataW.trod_int Tryd.underlying3 h5
  simp at e5
  subst e5
  obtain ⟨x6, e6, _, q6⟩ := DataW.trod_int Tryd.underlying3 h6
  simp at e6
  subst e6
  exact ⟨x0, x1, x2, x3, x4, x5, x6, rfl, wf_i64 q0, wf_i64 q1, wf_i64 q2, wf_i64 q3, wf_i64 q4, wf_i64 q5, wf_i64 q6⟩
end Go.Proofs.YtjbllfnfnkghgaaDoor
