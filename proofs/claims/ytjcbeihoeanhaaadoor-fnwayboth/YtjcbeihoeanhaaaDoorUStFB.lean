/- From a walk to a row over a state: an argument of type laws.State opened; the two tables out of the row's condition. A packet among the arguments, opened. -/
import Derived.Test.YtjcbeihoeanhaaaDoorRows
import Derived.Test.YtjcbeihoeanhaaaDoorTie
import Derived.Test.YtjcbeihoeanhaaaDoorCards
import Derived.Test.YtjcbeihoeanhaaaDoorUSt
import Derived.Deep.Slices
import Derived.ChangeSame
import Derived.ProofKit
import Derived.OpenShut
import Derived.OpenVars
import Derived.ChangeOld
import Derived.LaidMore
import Derived.Lib.LaidTab
import Derived.Lib.SmallJoins
import Derived.Deep.Fields
import Derived.Stop.Joined
import Derived.Stop.LaidErr
import Derived.SevenTiedAt
set_option linter.unusedVariables false
set_option linter.unusedSimpArgs false
/-! StF -/
namespace Go.Proofs.YtjcbeihoeanhaaaDoor
open Go.RowKit Go.ChangeShapes Go.WideShapes Go.ChangeAt Go.Joins Go.Deep

theorem own : ownKnob Tryd.prog.godebug = none := by kernel_rfl
theorem laidOut : laidOutB Tryd.prog = true := by kernel_rfl
theorem cellsInt : Tryd.prog.cellsOf 3 = 1 := by kernel_rfl
theorem cellsFields : Tryd.prog.cellsOf 69 = 7 := by kernel_rfl

theorem tabs_of {W : World} {n0 n1 : String} (g0 : Tryd.prog.globalNamed n0 = some 0) (g1 : Tryd.prog.globalNamed n1 = some 1)
  (h0 : Lib.TabIs Tryd.prog W n0 .i64 loL) (h1 : Lib.TabIs Tryd.prog W n1 .i64 hiL) : Tabs W := by
 refine ⟨fun j x hx => ?_, fun j x hx => ?_⟩
 ·have hj : j < loL.length := (List.getElem?_eq_some_iff.1 hx).1
  have := h0.cell g0 j hj; rw [List.getD_eq_getElem?_getD, hx] at this; exact this
 ·have hj : j < hiL.length := (List.getElem?_eq_some_iff.1 hx).1
  have := h1.cell g1 j hj; rw [List.getD_eq_getElem?_getD, hx] at this; exact this

section
variable {H : Type} {enc : TypeId × Value → H} {P : Program} {w : World} {base : Nat} {spare : Nat → Bool} {held : Bool}
theorem vars2 {n0 n1 : String} {gs : List (DataW H)} {ps : List MemPlace} (h : DataW.TrodVars enc P w spare [n0, n1] gs ps) : ∃ g0 g1, gs = [g0, g1] := by
 match gs, h with
 | [g0, g1], _ => exact ⟨g0, g1, rfl⟩
 | [], h => exact h.elim
 | [_], h => obtain ⟨_, _, _, _, _, _, _, _, _, _, hs, _⟩ := h; exact hs.elim
 | _ :: _ :: _ :: _, h =>
  obtain ⟨_, _, _, _, _, _, _, _, _, _, hs, _⟩ := h; obtain ⟨_, _, _, _, _, _, _, _, _, _, hs, _⟩ := hs; exact hs.elim
end


theorem cells7 {H : Type} {enc : TypeId × Value → H} {P : Program} {w : World} {base : Nat} {spare : Nat → Bool} {held : Bool} {t : TypeId} {f0 f1 f2 f3 f4 f5 f6 : Field} {fuel : Nat} {cs : List Value} {y : DataW H × List MemPlace}
  (hs : P.underlying t = some (.struct #[f0, f1, f2, f3, f4, f5, f6])) (hone : oneCellFields P #[f0, f1, f2, f3, f4, f5, f6] = true) (hl : cs.length = 7) (h : DataW.trod enc P w base spare held fuel t cs = some y) :
  ∃ (c0 c1 c2 c3 c4 c5 c6 : Value) (y0 y1 y2 y3 y4 y5 y6 : DataW H × List MemPlace) (n : Nat), cs = [c0, c1, c2, c3, c4, c5, c6] ∧
   DataW.trod enc P w base spare held n f0.type [c0] = some y0 ∧ DataW.trod enc P w base spare held n f1.type [c1] = some y1 ∧ DataW.trod enc P w base spare held n f2.type [c2] = some y2 ∧ DataW.trod enc P w base spare held n f3.type [c3] = some y3 ∧ DataW.trod enc P w base spare held n f4.type [c4] = some y4 ∧ DataW.trod enc P w base spare held n f5.type [c5] = some y5 ∧ DataW.trod enc P w base spare held n f6.type [c6] = some y6 := by
 match cs, hl with
 | [c0, c1, c2, c3, c4, c5, c6], _ =>
  obtain ⟨xs, n, _, hx, _, hlen, hg⟩ := DataW.trod_struct hs h; obtain ⟨o0, k0⟩ := hone_of hone 0 f0 rfl; obtain ⟨o1, k1⟩ := hone_of hone 1 f1 rfl; obtain ⟨o2, k2⟩ := hone_of hone 2 f2 rfl; obtain ⟨o3, k3⟩ := hone_of hone 3 f3 rfl; obtain ⟨o4, k4⟩ := hone_of hone 4 f4 rfl; obtain ⟨o5, k5⟩ := hone_of hone 5 f5 rfl; obtain ⟨o6, k6⟩ := hone_of hone 6 f6 rfl
  match xs, hlen with
  | [y0, y1, y2, y3, y4, y5, y6], _ =>
   exact ⟨c0, c1, c2, c3, c4, c5, c6, y0, y1, y2, y3, y4, y5, y6, n, rfl, by simpa [o0, k0] using hg 0 f0 rfl, by simpa [o1, k1] using hg 1 f1 rfl, by simpa [o2, k2] using hg 2 f2 rfl, by simpa [o3, k3] using hg 3 f3 rfl, by simpa [o4, k4] using hg 4 f4 rfl, by simpa [o5, k5] using hg 5 f5 rfl, by simpa [o6, k6] using hg 6 f6 rfl⟩
theorem tabs_two {W : World} (h : laidMet Tryd.prog Rows.fnHasRow.laid W) : Tabs W := by
 have h0 : Lib.TabIs Tryd.prog W _ .i64 loL := Lib.tabIs_of_head (g := 0) (zs := loL) (by kernel_rfl) (by kernel_rfl) Tryd.underlying69 Tryd.underlying3 cellsInt cellsFields h; have h1 : Lib.TabIs Tryd.prog W _ .i64 hiL := Lib.tabIs_of_head (g := 1) (zs := hiL) (by kernel_rfl) (by kernel_rfl) Tryd.underlying69 Tryd.underlying3 cellsInt cellsFields (laidMet.tail h); exact tabs_of (by kernel_rfl) (by kernel_rfl) h0 h1
theorem tabs_of_laid {W : World} (h : laidMetH Tryd.prog Rows.fnHasRow.laid W) : Tabs W := by
 rw [MakeChecks.laidMetH_plain _ _ _ (by kernel_rfl)] at h; exact tabs_two h
theorem door_met (os : Os) (args : Array Value) : laidMetH Tryd.prog Rows.fnHasRow.laid ((World.doorLaid Tryd.prog 101 os).forCall (fun _ _ => 0) ⟨#[], args, []⟩).memory :=
 laidMetH_of_parts3 (fuel := 8) (laidMet_of_run' 8 (by kernel_rfl) (by kernel_rfl)) (by kernel_rfl) (by kernel_rfl)
end Go.Proofs.YtjcbeihoeanhaaaDoor

/-! StF2 -/
namespace Go.Proofs.YtjcbeihoeanhaaaDoor
open Go.RowKit Go.ChangeShapes Go.WideShapes Go.ChangeAt Go.Joins Go.Deep

end Go.Proofs.YtjcbeihoeanhaaaDoor
