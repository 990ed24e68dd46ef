/- The step from a walk to a row: readings of slices of ints and of banks opened. -/
import Derived.Test.YtiglmfefamehhaaRows
import Derived.Test.YtiglmfefamehhaaMem
import Derived.ProofKit
import Derived.OpenShut
import Derived.ChangeOld
import Derived.Lib.SmallJoins
import Derived.KernelRfl
namespace Go.Proofs.Ytiglmfefamehhaa
open Go.RowKit Go.ChangeShapes Go.WideShapes Go.ChangeAt Go.Joins

theorem own : ownKnob Try.prog.godebug = none := by kernel_rfl
theorem laidOut : laidOutB Try.prog = true := by kernel_rfl
theorem cellsInt : Try.prog.cellsOf 3 = 1 := by kernel_rfl

theorem ints_of_trod {H : Type} {enc : TypeId × Value → H} {W : World} {base : Nat} {spare : Nat → Bool} {held : Bool} {fuel : Nat} {v : Value} {y : DataW H × List MemPlace}
    (h : DataW.trod enc Try.prog W base spare held fuel 23 [v] = some y) :
    ∃ A n c xs, v = .slice A n c ∧ Ints W A n xs ∧ n ≤ maxLen ∧ ∀ x ∈ xs, (Lit.int .i64 x).wf = true := by
  rcases open_ints Try.underlying23 Try.underlying3 cellsInt h with ⟨hcs, _⟩ | ⟨a, len, cap, zs, hcs, _, hl, hm, hz, _, hcell, hwz⟩
  · simp at hcs
    subst hcs
    exact ⟨none, 0, 0, [], rfl, Ints.nil _ _, Nat.zero_le _, by simp⟩
  · simp at hcs
    subst hcs
    have hle : len ≤ zs.length := by rw [hz]; split <;> omega
    refine ⟨some a, len, cap, zs.take len, rfl, ⟨by simp; omega, fun hn => ?_⟩, by omega, fun x hx => hwz x (List.mem_of_mem_take hx)⟩
    obtain ⟨b, off, spot⟩ := a
    have hc := hcell 0 (by omega)
    have hspot : spot = none := by simpa [Addr.add] using World.cell?_spot hc
    subst hspot
    refine ⟨b, off, rfl, World.block_lt_of_cell? W _ (by simpa [Addr.add] using hc), fun j x hx => ?_⟩
    have hj : j < len := by
      have := (List.getElem?_eq_some_iff.1 hx).1
      simp at this
      omega
    have h1 := hcell j (by omega)
    rw [List.getElem?_take_of_lt hj] at hx
    rw [List.getD_eq_getElem?_getD, hx] at h1
    by_cases h0 : j = 0
    · subst h0
      simpa [Addr.add] using h1
    · simpa [Addr.add, h0] using h1

theorem cellsBank : Try.prog.cellsOf 45 = 3 := by kernel_rfl

theorem bank_of_trod {H : Type} {enc : TypeId × Value → H} {W : World} {base b0 : Nat} {r : Reach} {spare : Nat → Bool} {held : Bool} {v : Value} {d : DataW H} {p : List MemPlace}
    (hv : Value.okWide Try.prog W r b0 45 v) (h : DataW.Trod enc Try.prog W base spare held 45 v d p) :
    ∃ A1 n1 c1 A2 n2 c2 L xs ys, v = .agg #[.slice A1 n1 c1, .slice A2 n2 c2, .int .i64 L] ∧ Ints W A1 n1 xs ∧ Ints W A2 n2 ys ∧ n1 ≤ maxLen ∧ n2 ≤ maxLen ∧ (Lit.int .i64 L).wf = true := by
  obtain ⟨v0, v1, v2, y0, y1, y2, m, rfl, rfl, rfl, h0, h1, h2⟩ := open_agg3 Try.underlying45 (by kernel_rfl) cellsBank hv h
  obtain ⟨A1, n1, c1, xs, rfl, i1, m1, _⟩ := ints_of_trod h0
  obtain ⟨A2, n2, c2, ys, rfl, i2, m2, _⟩ := ints_of_trod h1
  obtain ⟨L, e2, _, wL⟩ := DataW.trod_int Try.underlying3 h2
  simp at e2
  subst e2
  exact ⟨A1, n1, c1, A2, n2, c2, L, xs, ys, rfl, i1, i2, m1, m2, wL⟩

theorem wf_i64 {L : Int} (h : (Lit.int .i64 L).wf = true) : -9223372036854775808 ≤ L ∧ L ≤ 9223372036854775807 := by
  have := bounds_i64 h
  omega
end Go.Proofs.Ytiglmfefamehhaa
