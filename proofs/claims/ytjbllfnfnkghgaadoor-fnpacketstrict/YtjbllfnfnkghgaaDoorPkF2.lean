/- From a walk to a row that lists ten variables: the tables, the errors; the world's shape; the witness' world, in which the tables of Go's library lie. -/
import Derived.Test.YtjbllfnfnkghgaaDoorPkFB
import Derived.Test.YtjbllfnfnkghgaaDoorPkRd2
import Derived.HandedShaped
import Derived.Shelf.Vars
import Derived.RowKitTokens
import Derived.LaidLaws
set_option linter.unusedVariables false
set_option linter.unusedSimpArgs false
namespace Go.Proofs.YtjbllfnfnkghgaaDoor
open Go.RowKit Go.ChangeShapes Go.WideShapes Go.ChangeAt Go.Joins

theorem handed_and_shaped {H : Type} {enc : TypeId × Value → H} {a : Assume} {C : Checked} {os : Os} {f : FuncId} {fn : Func} {s : ChangeSpec} {conds : List PathCond} {apart fresh handsOn again : Bool} {X : World → Array Value → Prop}
    (hX : ∀ (w w' : World) (args : Array Value), w.heap = w'.heap → X w args → X w' args)
    (own : ownKnob C.prog.godebug = none) (started : os.Started) (noInit : C.prog.inits.idxOf? f = none) (hfn : C.prog.funcs[f]? = some fn)
    (witness : ∃ (w : World) (tape : Tape) (i : Input), w.os = os ∧ (w.forCall tape i).Shaped C.prog ∧ i.vars = [] ∧ Input.okWide C.prog (w.forCall tape i) .any w.heap.size f i ∧
      ((s.pre enc C.prog fn conds apart (w.forCall tape i).memory i.args ∧ X (w.forCall tape i).memory i.args) ∧ sizedMet enc C.prog fn (OpenSpec.ofChange s) apart (w.forCall tape i).memory i.args) ∧ a.holds C.prog (lone (Frame.enter C.prog f i.args .normal) [] (w.forCall tape i)))
    (contract : ∀ (W : World) (base : Nat) (args : Array Value) (ds gs : List (DataW H)) (before : List MemPlace),
      (∀ (j : Nat) t v, fn.params[j]? = some t → args[j]? = some v → Value.okWide C.prog W .any base t v) →
      DataW.Whole enc C.prog fn.params.toList s.vars apart W args.toList ds gs before →
      X W args → W.ShapedOpen C.prog →
      Calls C.prog f args W fun e W' => ∃ v, e = .returned v ∧ s.post enc C.prog fn apart fresh handsOn again W args v W') :
    ReturnsInHanded a C os f .any (fun w args => (s.pre enc C.prog fn conds apart w args ∧ X w args) ∧ sizedMet enc C.prog fn (OpenSpec.ofChange s) apart w args) (s.post enc C.prog fn apart fresh handsOn again) := by
  refine returnsInHanded_of_calls own started noInit witness ?_
  intro w tape i _ hsh _ hok hpre hholds
  obtain ⟨_, _, _, fn', hfn', _, _, _, _, hval⟩ := hok
  have e : fn' = fn := Option.some.inj (hfn'.symm.trans hfn)
  subst e
  obtain ⟨⟨⟨ds, gs, before, hw, hc⟩, hx⟩, hz⟩ := hpre
  have hw' := DataW.Whole.of_heap (w' := w.forCall tape i) (by rfl) hw
  refine (contract (w.forCall tape i) w.heap.size i.args ds gs before hval hw' (hX _ _ _ (by rfl) hx) hsh).mono fun e W' ⟨v, he, hp⟩ => ?_
  subst he
  exact ChangeSpec.post_blind hp

theorem star : "*errors.errorString" = "*" ++ "errors.errorString" := by decide
theorem rowE (u : TypeId) (h : Tryd.prog.typeName? 3 u = some "*errors.errorString") : u = 133 :=
  typeName_ptr_named (nm := "errors.errorString") (by rw [← star]; kernel_rfl) (by kernel_rfl) (by decide) u (by rw [← star]; exact h)
theorem cellsES : Tryd.prog.cellsOf 135 = 1 := by kernel_rfl
theorem cellsStr : Tryd.prog.cellsOf 9 = 1 := by kernel_rfl
theorem cellsU64 : Tryd.prog.cellsOf 90 = 1 := by kernel_rfl
theorem cellsPow : Tryd.prog.cellsOf 100 = 20 := by kernel_rfl

theorem libs_of_laid {W : World} (h : laidMetH Tryd.prog Rows.fnPacketBackRow.laid W) (hsh : W.ShapedOpen Tryd.prog) : ∃ aE, Libs W aE := by
  rw [MakeChecks.laidMetH_plain _ _ _ (by kernel_rfl)] at h
  have h2 := laidMet.tail (laidMet.tail h)
  have hpow : Lib.TabIs Tryd.prog W _ .u64 Lib.pow10Tab := Lib.tabIs_of_head (g := 3) (zs := Lib.pow10Tab) (by kernel_rfl) (by kernel_rfl) Tryd.underlying100 Tryd.underlying90 cellsU64 cellsPow h2
  have h4 := laidMet.tail (laidMet.tail h2)
  obtain ⟨a1, s1, hv1, -⟩ := laid_sentinel (g := 8) h4 (by kernel_rfl) (by kernel_rfl) Tryd.underlying48 rowE Tryd.underlying133 Tryd.underlying135 rfl rfl Tryd.underlying9 cellsES cellsStr
  have h5 := laidMet.tail h4
  obtain ⟨a2, s2, hv2, -⟩ := laid_sentinel (g := 7) h5 (by kernel_rfl) (by kernel_rfl) Tryd.underlying48 rowE Tryd.underlying133 Tryd.underlying135 rfl rfl Tryd.underlying9 cellsES cellsStr
  have h6 := laidMet.tail h5
  obtain ⟨a3, s3, hv3, -⟩ := laid_sentinel (g := 0) h6 (by kernel_rfl) (by kernel_rfl) Tryd.underlying48 rowE Tryd.underlying133 Tryd.underlying135 rfl rfl Tryd.underlying9 cellsES cellsStr
  have h7 := laidMet.tail h6
  have hlo : Lib.TabIs Tryd.prog W _ .i64 loL := Lib.tabIs_of_head (g := 1) (zs := loL) (by kernel_rfl) (by kernel_rfl) Tryd.underlying43 Tryd.underlying3 cellsInt cellsFields h7
  have hhi : Lib.TabIs Tryd.prog W _ .i64 hiL := Lib.tabIs_of_head (g := 2) (zs := hiL) (by kernel_rfl) (by kernel_rfl) Tryd.underlying43 Tryd.underlying3 cellsInt cellsFields (laidMet.tail h7)
  have hE : W.cell? ⟨0, 0, none⟩ = some (.iface 133 (.pointer (some a3))) := by
    have := World.var?_cell (g := 0) (by kernel_rfl) hv3 0
    simpa using this
  have hM := cell_of_shapedOpen_int (P := Tryd.prog) (w := W) (g := 4) (zero := #[.int .i64 0]) (t := 3) hsh (of_decide_eq_true (by kernel_rfl)) (by kernel_rfl) rfl (by kernel_rfl) (by kernel_rfl) Tryd.underlying3
  exact ⟨a3, tabs_of (by kernel_rfl) (by kernel_rfl) hlo hhi, hpow, ⟨_, _, hv2⟩, ⟨_, _, hv1⟩, hE, hM⟩
end Go.Proofs.YtjbllfnfnkghgaaDoor
