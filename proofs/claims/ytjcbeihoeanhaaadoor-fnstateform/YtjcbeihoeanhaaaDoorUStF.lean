/- From a walk to a row over a state: an argument of type laws.State opened; the two tables out of the row's condition. A packet among the arguments, opened. -/
import Derived.Test.YtjcbeihoeanhaaaDoorRows
import Derived.Test.YtjcbeihoeanhaaaDoorTie
import Derived.Test.YtjcbeihoeanhaaaDoorCards
import Derived.Test.YtjcbeihoeanhaaaDoorUSt
import Derived.Deep.Slices
import Derived.ChangeSame
import Derived.ProofKit
import Derived.OpenShut
import Derived.OpenVars
import Derived.ChangeOld
import Derived.LaidMore
import Derived.Lib.LaidTab
import Derived.Lib.SmallJoins
import Derived.Deep.Fields
import Derived.Stop.Joined
import Derived.Stop.LaidErr
import Derived.SevenTiedAt
set_option linter.unusedVariables false
set_option linter.unusedSimpArgs false
/-! StF -/
namespace Go.Proofs.YtjcbeihoeanhaaaDoor
open Go.RowKit Go.ChangeShapes Go.WideShapes Go.ChangeAt Go.Joins Go.Deep

theorem own : ownKnob Tryd.prog.godebug = none := by kernel_rfl
theorem laidOut : laidOutB Tryd.prog = true := by kernel_rfl
theorem cellsInt : Tryd.prog.cellsOf 3 = 1 := by kernel_rfl
theorem cellsFields : Tryd.prog.cellsOf 69 = 7 := by kernel_rfl

theorem tabs_of {W : World} {n0 n1 : String} (g0 : Tryd.prog.globalNamed n0 = some 0) (g1 : Tryd.prog.globalNamed n1 = some 1)
  (h0 : Lib.TabIs Tryd.prog W n0 .i64 loL) (h1 : Lib.TabIs Tryd.prog W n1 .i64 hiL) : Tabs W := by
 refine ⟨fun j x hx => ?_, fun j x hx => ?_⟩
 ·have hj : j < loL.length := (List.getElem?_eq_some_iff.1 hx).1
  have := h0.cell g0 j hj
  rw [List.getD_eq_getElem?_getD, hx] at this
  exact this
 ·have hj : j < hiL.length := (List.getElem?_eq_some_iff.1 hx).1
  have := h1.cell g1 j hj
  rw [List.getD_eq_getElem?_getD, hx] at this
  exact this

section
variable {H : Type} {enc : TypeId × Value → H} {P : Program} {w : World} {base : Nat} {spare : Nat → Bool} {held : Bool}
theorem vars2 {n0 n1 : String} {gs : List (DataW H)} {ps : List MemPlace} (h : DataW.TrodVars enc P w spare [n0, n1] gs ps) : ∃ g0 g1, gs = [g0, g1] := by
 match gs, h with
 | [g0, g1], _ => exact ⟨g0, g1, rfl⟩
 | [], h => exact h.elim
 | [_], h => obtain ⟨_, _, _, _, _, _, _, _, _, _, hs, _⟩ := h; exact hs.elim
 | _ :: _ :: _ :: _, h =>
  obtain ⟨_, _, _, _, _, _, _, _, _, _, hs, _⟩ := h
  obtain ⟨_, _, _, _, _, _, _, _, _, _, hs, _⟩ := hs
  exact hs.elim
theorem agg7 {r : Reach} {b0 : Nat} {t : TypeId} {f0 f1 f2 f3 f4 f5 f6 : Field} {v : Value} {d : DataW H} {p : List MemPlace} (hs : P.underlying t = some (.struct #[f0, f1, f2, f3, f4, f5, f6])) (hone : oneCellFields P #[f0, f1, f2, f3, f4, f5, f6] = true) (hC : P.cellsOf t = 7)
  (hv : Value.okWide P w r b0 t v) (h : DataW.Trod enc P w base spare held t v d p) :
  ∃ (v0 v1 v2 v3 v4 v5 v6 : Value) (y0 y1 y2 y3 y4 y5 y6 : DataW H × List MemPlace) (n : Nat), v = .agg #[v0, v1, v2, v3, v4, v5, v6] ∧ d = .agg [y0.1, y1.1, y2.1, y3.1, y4.1, y5.1, y6.1] ∧ p = y0.2 ++ (y1.2 ++ (y2.2 ++ (y3.2 ++ (y4.2 ++ (y5.2 ++ y6.2))))) ∧
   DataW.trod enc P w base spare held n f0.type [v0] = some y0 ∧ DataW.trod enc P w base spare held n f1.type [v1] = some y1 ∧ DataW.trod enc P w base spare held n f2.type [v2] = some y2 ∧ DataW.trod enc P w base spare held n f3.type [v3] = some y3 ∧ DataW.trod enc P w base spare held n f4.type [v4] = some y4 ∧ DataW.trod enc P w base spare held n f5.type [v5] = some y5 ∧ DataW.trod enc P w base spare held n f6.type [v6] = some y6 := by
 obtain ⟨cs, rfl, hsz⟩ := okWide_struct hs hv
 obtain ⟨l⟩ := cs
 match l, hsz.trans hC with
 | [c0, c1, c2, c3, c4, c5, c6], _ =>
  obtain ⟨fuel, hf⟩ := h
  obtain ⟨xs, n, _, hx, _, hlen, hg⟩ := DataW.trod_struct hs hf
  obtain ⟨o0, k0⟩ := hone_of hone 0 f0 rfl
  obtain ⟨o1, k1⟩ := hone_of hone 1 f1 rfl
  obtain ⟨o2, k2⟩ := hone_of hone 2 f2 rfl
  obtain ⟨o3, k3⟩ := hone_of hone 3 f3 rfl
  obtain ⟨o4, k4⟩ := hone_of hone 4 f4 rfl
  obtain ⟨o5, k5⟩ := hone_of hone 5 f5 rfl
  obtain ⟨o6, k6⟩ := hone_of hone 6 f6 rfl
  match xs, hlen with
  | [y0, y1, y2, y3, y4, y5, y6], _ =>
   simp only [Prod.mk.injEq] at hx
   exact ⟨c0, c1, c2, c3, c4, c5, c6, y0, y1, y2, y3, y4, y5, y6, n, rfl, by simpa using hx.1, by simpa using hx.2, by simpa [Value.cells, o0, k0] using hg 0 f0 rfl, by simpa [Value.cells, o1, k1] using hg 1 f1 rfl, by simpa [Value.cells, o2, k2] using hg 2 f2 rfl, by simpa [Value.cells, o3, k3] using hg 3 f3 rfl, by simpa [Value.cells, o4, k4] using hg 4 f4 rfl, by simpa [Value.cells, o5, k5] using hg 5 f5 rfl, by simpa [Value.cells, o6, k6] using hg 6 f6 rfl⟩
end


theorem cellsBool : Tryd.prog.cellsOf 4 = 1 := by kernel_rfl
theorem wf_i64 {L : Int} (h : (Lit.int .i64 L).wf = true) : -9223372036854775808 ≤ L ∧ L ≤ 9223372036854775807 := by
 have := bounds_i64 h
 omega
def I64 (x : Int) : Prop := -9223372036854775808 ≤ x ∧ x ≤ 9223372036854775807
theorem list_of {α : Type} (n : Nat) (p : Nat → α → Prop) (h : ∀ i, i < n → ∃ x, p i x) : ∃ l : List α, l.length = n ∧ ∀ (j : Nat) x, l[j]? = some x → p j x := by
 induction n with
 | zero => exact ⟨[], rfl, fun j x hx => by simp at hx⟩
 | succ n ih =>
  obtain ⟨l, hl, hp⟩ := ih fun i hi => h i (by omega)
  obtain ⟨x, hx⟩ := h n (by omega)
  refine ⟨l ++ [x], by simp [hl], fun j y hy => ?_⟩
  rcases Nat.lt_or_ge j n with hj | hj
  ·rw [List.getElem?_append_left (by omega)] at hy
   exact hp j y hy
  ·have hjl := (List.getElem?_eq_some_iff.1 hy).1
   simp [hl] at hjl
   obtain rfl : j = n := by omega
   rw [List.getElem?_append_right (by omega)] at hy
   simp [hl] at hy
   subst hy
   exact hx
theorem add_cell {W : World} {b off k : Nat} {v : Value} (h : W.cell? ((⟨b, off, none⟩ : Addr).add k) = some v) : W.cell? ⟨b, off + k, none⟩ = some v := by
 by_cases h0 : k = 0
 ·subst h0
  simpa [Addr.add] using h
 ·simpa [Addr.add, h0] using h
theorem ints_of_trod {H : Type} {enc : TypeId × Value → H} {W : World} {base : Nat} {spare : Nat → Bool} {held : Bool} {fuel : Nat} {v : Value} {y : DataW H × List MemPlace}
  (h : DataW.trod enc Tryd.prog W base spare held fuel 25 [v] = some y) :
  ∃ A n c xs, v = .slice A n c ∧ Ints W A n xs ∧ n ≤ maxLen ∧ ∀ x ∈ xs, (Lit.int .i64 x).wf = true := by
 rcases open_ints Tryd.underlying25 Tryd.underlying3 cellsInt h with ⟨hcs, _⟩ | ⟨a, len, cap, zs, hcs, _, hl, hm, hz, _, hcell, hwz⟩
 ·simp at hcs
  subst hcs
  exact ⟨none, 0, 0, [], rfl, Ints.nil _ _, Nat.zero_le _, by simp⟩
 ·simp at hcs
  subst hcs
  have hle : len ≤ zs.length := by rw [hz]; split <;> omega
  refine ⟨some a, len, cap, zs.take len, rfl, ⟨by simp; omega, fun hn => ?_⟩, by omega, fun x hx => hwz x (List.mem_of_mem_take hx)⟩
  obtain ⟨b, off, spot⟩ := a
  have hc := hcell 0 (by omega)
  have hspot : spot = none := by simpa [Addr.add] using World.cell?_spot hc
  subst hspot
  refine ⟨b, off, rfl, World.block_lt_of_cell? W _ (by simpa [Addr.add] using hc), fun j x hx => ?_⟩
  have hj : j < len := by
   have := (List.getElem?_eq_some_iff.1 hx).1
   simp at this
   omega
  have h1 := hcell j (by omega)
  rw [List.getElem?_take_of_lt hj] at hx
  rw [List.getD_eq_getElem?_getD, hx] at h1
  by_cases h0 : j = 0
  ·subst h0
   simpa [Addr.add] using h1
  ·simpa [Addr.add, h0] using h1


theorem bools_of_trod {H : Type} {enc : TypeId × Value → H} {W : World} {base : Nat} {spare : Nat → Bool} {held : Bool} {fuel : Nat} {v : Value} {y : DataW H × List MemPlace}
  (h : DataW.trod enc Tryd.prog W base spare held fuel 24 [v] = some y) : ∃ A n c xs, v = .slice A n c ∧ Bools W A n xs ∧ n ≤ maxLen := by
 rcases open_slice1 Tryd.underlying24 cellsBool h with ⟨hcs, _⟩ | ⟨a, len, cap, m, f, V, D, Pl, hcs, _, hl, hm, hmm, _, hi⟩
 ·simp at hcs
  subst hcs
  exact ⟨none, 0, 0, [], rfl, Bools.nil _ _, Nat.zero_le _⟩
 ·simp at hcs
  subst hcs
  have hle : len ≤ m := by rw [hmm]; split <;> omega
  obtain ⟨l, hl1, hl2⟩ := list_of len (fun i x => W.cell? (a.add i) = some (.bool x)) fun i hi' => by
   obtain ⟨h1, h2⟩ := hi i (by omega)
   obtain ⟨b, e, _⟩ := DataW.trod_bool Tryd.underlying4 h2
   simp at e
   rw [e] at h1
   exact ⟨b, h1⟩
  refine ⟨some a, len, cap, l, rfl, ⟨hl1, fun hn => ?_⟩, by omega⟩
  obtain ⟨b, off, spot⟩ := a
  have hc := (hi 0 (by omega)).1
  have hspot : spot = none := by simpa [Addr.add] using World.cell?_spot hc
  subst hspot
  refine ⟨b, off, rfl, World.block_lt_of_cell? W _ (by simpa [Addr.add] using hc), fun j x hx => add_cell (hl2 j x hx)⟩
theorem cells7 {H : Type} {enc : TypeId × Value → H} {P : Program} {w : World} {base : Nat} {spare : Nat → Bool} {held : Bool} {t : TypeId} {f0 f1 f2 f3 f4 f5 f6 : Field} {fuel : Nat} {cs : List Value} {y : DataW H × List MemPlace}
  (hs : P.underlying t = some (.struct #[f0, f1, f2, f3, f4, f5, f6])) (hone : oneCellFields P #[f0, f1, f2, f3, f4, f5, f6] = true) (hl : cs.length = 7) (h : DataW.trod enc P w base spare held fuel t cs = some y) :
  ∃ (c0 c1 c2 c3 c4 c5 c6 : Value) (y0 y1 y2 y3 y4 y5 y6 : DataW H × List MemPlace) (n : Nat), cs = [c0, c1, c2, c3, c4, c5, c6] ∧
   DataW.trod enc P w base spare held n f0.type [c0] = some y0 ∧ DataW.trod enc P w base spare held n f1.type [c1] = some y1 ∧ DataW.trod enc P w base spare held n f2.type [c2] = some y2 ∧ DataW.trod enc P w base spare held n f3.type [c3] = some y3 ∧ DataW.trod enc P w base spare held n f4.type [c4] = some y4 ∧ DataW.trod enc P w base spare held n f5.type [c5] = some y5 ∧ DataW.trod enc P w base spare held n f6.type [c6] = some y6 := by
 match cs, hl with
 | [c0, c1, c2, c3, c4, c5, c6], _ =>
  obtain ⟨xs, n, _, hx, _, hlen, hg⟩ := DataW.trod_struct hs h
  obtain ⟨o0, k0⟩ := hone_of hone 0 f0 rfl
  obtain ⟨o1, k1⟩ := hone_of hone 1 f1 rfl
  obtain ⟨o2, k2⟩ := hone_of hone 2 f2 rfl
  obtain ⟨o3, k3⟩ := hone_of hone 3 f3 rfl
  obtain ⟨o4, k4⟩ := hone_of hone 4 f4 rfl
  obtain ⟨o5, k5⟩ := hone_of hone 5 f5 rfl
  obtain ⟨o6, k6⟩ := hone_of hone 6 f6 rfl
  match xs, hlen with
  | [y0, y1, y2, y3, y4, y5, y6], _ =>
   exact ⟨c0, c1, c2, c3, c4, c5, c6, y0, y1, y2, y3, y4, y5, y6, n, rfl, by simpa [o0, k0] using hg 0 f0 rfl, by simpa [o1, k1] using hg 1 f1 rfl, by simpa [o2, k2] using hg 2 f2 rfl, by simpa [o3, k3] using hg 3 f3 rfl, by simpa [o4, k4] using hg 4 f4 rfl, by simpa [o5, k5] using hg 5 f5 rfl, by simpa [o6, k6] using hg 6 f6 rfl⟩
theorem tabs_two {W : World} (h : laidMet Tryd.prog Rows.fnHasRow.laid W) : Tabs W := by
 have h0 : Lib.TabIs Tryd.prog W _ .i64 loL := Lib.tabIs_of_head (g := 0) (zs := loL) (by kernel_rfl) (by kernel_rfl) Tryd.underlying69 Tryd.underlying3 cellsInt cellsFields h
 have h1 : Lib.TabIs Tryd.prog W _ .i64 hiL := Lib.tabIs_of_head (g := 1) (zs := hiL) (by kernel_rfl) (by kernel_rfl) Tryd.underlying69 Tryd.underlying3 cellsInt cellsFields (laidMet.tail h)
 exact tabs_of (by kernel_rfl) (by kernel_rfl) h0 h1
theorem tabs_of_laid {W : World} (h : laidMetH Tryd.prog Rows.fnHasRow.laid W) : Tabs W := by
 rw [MakeChecks.laidMetH_plain _ _ _ (by kernel_rfl)] at h
 exact tabs_two h
theorem door_met (os : Os) (args : Array Value) : laidMetH Tryd.prog Rows.fnHasRow.laid ((World.doorLaid Tryd.prog 101 os).forCall (fun _ _ => 0) ⟨#[], args, []⟩).memory :=
 laidMetH_of_parts3 (fuel := 8) (laidMet_of_run' 8 (by kernel_rfl) (by kernel_rfl)) (by kernel_rfl) (by kernel_rfl)
end Go.Proofs.YtjcbeihoeanhaaaDoor

/-! StF2 -/
namespace Go.Proofs.YtjcbeihoeanhaaaDoor
open Go.RowKit Go.ChangeShapes Go.WideShapes Go.ChangeAt Go.Joins Go.Deep

end Go.Proofs.YtjcbeihoeanhaaaDoor
