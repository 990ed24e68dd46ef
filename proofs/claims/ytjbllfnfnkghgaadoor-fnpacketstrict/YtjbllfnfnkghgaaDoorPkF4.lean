/- What a law over PacketRead wants: the error's variable; a text that is a packet's is read as that packet. -/
import Derived.Test.YtjbllfnfnkghgaaDoorPkF3
set_option linter.unusedVariables false
set_option linter.unusedSimpArgs false
namespace Go.Proofs.YtjbllfnfnkghgaaDoor
open Go.RowKit Go.ChangeShapes Go.WideShapes Go.ChangeAt Go.Joins

theorem libs_var {W : World} (h : laidMetH Tryd.prog Rows.fnPacketBackRow.laid W) (hsh : W.ShapedOpen Tryd.prog) :
    ∃ aE, Libs W aE ∧ W.var? Tryd.prog "loop.example/hawser/impl.errPacketText" = some #[.iface 133 (.pointer (some aE))] := by
  obtain ⟨aE, hL⟩ := libs_of_laid h hsh
  rw [MakeChecks.laidMetH_plain _ _ _ (by kernel_rfl)] at h
  have h6 := laidMet.tail (laidMet.tail (laidMet.tail (laidMet.tail (laidMet.tail (laidMet.tail h)))))
  obtain ⟨a3, s3, hv3, -⟩ := laid_sentinel (g := 0) h6 (by kernel_rfl) (by kernel_rfl) Tryd.underlying48 rowE Tryd.underlying133 Tryd.underlying135 rfl rfl Tryd.underlying9 cellsES cellsStr
  have hE : W.cell? ⟨0, 0, none⟩ = some (.iface 133 (.pointer (some a3))) := by
    have := World.var?_cell (g := 0) (by kernel_rfl) hv3 0
    simpa using this
  have e := hE.symm.trans hL.2.2.2.2.1
  injection e with e
  injection e with _ e
  injection e with e
  injection e with e
  subst e
  exact ⟨_, hL, hv3⟩
theorem reads_inj {l : List UInt8} {s k f t m u v s' k' f' t' m' u' v' : Int} (h : Reads l s k f t m u v) (h' : Reads l s' k' f' t' m' u' v') : s = s' ∧ k = k' ∧ f = f' ∧ t = t' ∧ m = m' ∧ u = u' ∧ v = v' := txt_inj h.1 h'.1 (h.2.trans h'.2.symm)
theorem read_same {aE : Addr} {W : World} (hL : Libs W aE) {l : List UInt8} {s k f t m u v : Int} (h : Reads l s k f t m u v) :
    Calls Tryd.prog 15 #[.string ⟨l.toArray⟩] W fun e w' => e = .returned (.tuple #[.agg #[.int .i64 s, .int .i64 k, .int .i64 f, .int .i64 t, .int .i64 m, .int .i64 u, .int .i64 v], .bool true]) ∧ Keeps noBlk W w' :=
  (implRead_any l aE W hL).mono fun e w' hr => by
    rcases hr with ⟨hn, _⟩ | ⟨s', k', f', t', m', u', v', hy, he, hk⟩
    · exact absurd h (hn s k f t m u v)
    · obtain ⟨rfl, rfl, rfl, rfl, rfl, rfl, rfl⟩ := reads_inj h hy
      exact ⟨he, hk⟩
theorem read_none {aE : Addr} {W : World} (hL : Libs W aE) {l : List UInt8} (h : ∀ s k f t m u v, ¬ Reads l s k f t m u v) :
    Calls Tryd.prog 15 #[.string ⟨l.toArray⟩] W fun e w' => e = .returned (.tuple #[.agg #[.int .i64 0, .int .i64 0, .int .i64 0, .int .i64 0, .int .i64 0, .int .i64 0, .int .i64 0], .bool false]) ∧ Keeps noBlk W w' :=
  (implRead_any l aE W hL).mono fun e w' hr => by
    rcases hr with ⟨_, he, hk⟩ | ⟨s', k', f', t', m', u', v', hy, _⟩
    · exact ⟨he, hk⟩
    · exact absurd hy (h _ _ _ _ _ _ _)
end Go.Proofs.YtjbllfnfnkghgaaDoor
