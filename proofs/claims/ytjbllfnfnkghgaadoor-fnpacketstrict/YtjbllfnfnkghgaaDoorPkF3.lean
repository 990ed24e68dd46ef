/- The witness' world; the named variables read behind the call as they did before. -/
import Derived.Test.YtjbllfnfnkghgaaDoorPkF2
import GoSem.PinnedTables
set_option linter.unusedVariables false
set_option linter.unusedSimpArgs false
namespace Go.Proofs.YtjbllfnfnkghgaaDoor
open Go.RowKit Go.ChangeShapes Go.WideShapes Go.ChangeAt Go.Joins

def firstCells : Array Value := match Go.Pinned.utf8First with
  | .agg xs => (xs.map fun x => match x with
    | .lit (.int k n) => Value.int k n
    | _ => Value.bool false).toArray
  | _ => #[]
noncomputable def seatWorld (os : Os) : World := { World.doorLaid Tryd.prog 101 os with heap := (World.doorLaid Tryd.prog 101 os).heap.setIfInBounds 9 (.cells firstCells 126 (0, 0)) }

set_option maxRecDepth 100000 in
theorem door_met10 (os : Os) (args : Array Value) : laidMetH Tryd.prog Rows.fnPacketBackRow.laid ((seatWorld os).forCall (fun _ _ => 0) ⟨#[], args, []⟩).memory :=
  laidMetH_of_parts3 (fuel := 8) (laidMet_of_run' 8 (by kernel_rfl) (by kernel_rfl)) (by kernel_rfl) (by kernel_rfl)

section
variable {H : Type} {enc : TypeId × Value → H} {P : Program} {w W W' : World} {sp sp' : Nat → Bool}
theorem vars3 {n0 n1 n2 : String} {gs : List (DataW H)} {ps : List MemPlace} (h : DataW.TrodVars enc P w sp [n0, n1, n2] gs ps) : ∃ g0 g1 g2, gs = [g0, g1, g2] := by
  match gs, h with
  | [], h => exact h.elim
  | g0 :: gs, h =>
    obtain ⟨_, _, _, _, _, _, _, _, _, _, hs, _⟩ := h
    obtain ⟨g1, g2, rfl⟩ := vars2 hs
    exact ⟨g0, g1, g2, rfl⟩
theorem split_vars {n m : String} {ns : List String} {d : DataW H} {ds : List (DataW H)} {ps : List MemPlace} (h : DataW.TrodVars enc P w sp (n :: m :: ns) (d :: ds) ps) :
    ∃ p q, DataW.TrodVars enc P w sp [n] [d] p ∧ DataW.TrodVars enc P w sp (m :: ns) ds q ∧ ps = p ++ q := by
  obtain ⟨g, t, cs, fuel, p, q, h1, h2, h3, h4, h5, rfl⟩ := h
  exact ⟨MemPlace.row ⟨g, 0, none⟩ cs.size ++ p, q, ⟨g, t, cs, fuel, p, [], h1, h2, h3, h4, rfl, by simp⟩, h5, rfl⟩
theorem join_vars {n m : String} {ns : List String} {d : DataW H} {ds : List (DataW H)} {p q : List MemPlace} (h : DataW.TrodVars enc P w sp [n] [d] p) (hs : DataW.TrodVars enc P w sp (m :: ns) ds q) :
    DataW.TrodVars enc P w sp (n :: m :: ns) (d :: ds) (p ++ q) := by
  obtain ⟨g, t, cs, fuel, p0, q0, h1, h2, h3, h4, h5, rfl⟩ := h
  have e : q0 = [] := h5
  subst e
  exact ⟨g, t, cs, fuel, p0, q, h1, h2, h3, h4, hs, by simp⟩
theorem keep_iface {n : String} {g : Nat} {ti : TypeId} {ms : Array (String × TypeId)} {x : Value} {d : DataW H} {ps : List MemPlace} (hg : P.globalNamed n = some g) (ht : (P.globals[g]?).map (·.type) = some ti) (hi : P.underlying ti = some (.interface ms))
    (hv : W.var? P n = some #[x]) (ix : IsIface x) (hv' : W'.var? P n = some #[x]) (h : DataW.TrodVars enc P W sp [n] [d] ps) : DataW.TrodVars enc P W' sp' [n] [d] ps := by
  obtain ⟨g', t', cs, fuel, p, q, h1, h2, h3, h4, h5, rfl⟩ := h
  obtain rfl := Option.some.inj (hg.symm.trans h1)
  obtain rfl := Option.some.inj (ht.symm.trans h2)
  obtain rfl := Option.some.inj (hv.symm.trans h3)
  have e : q = [] := h5
  subst e
  have a1 := DataW.trod_le (Nat.le_succ fuel) h4
  have a2 := trod_held (enc := enc) hi (W := W) (base := 0) (sp := sp) ix fuel
  rw [show (#[x] : Array Value).toList = [x] from rfl] at a1
  rw [a2] at a1
  injection a1 with a1
  injection a1 with e1 e2
  subst e1 e2
  exact ⟨g, ti, #[x], 1, [], [], h1, h2, hv', trod_held hi ix 0, rfl, rfl⟩
end
end Go.Proofs.YtjbllfnfnkghgaaDoor
