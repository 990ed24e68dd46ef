/- impl.ChainOk: it says when a chain is ok. -/
import Derived.Test.YtbgpclicflafaaaCxM
import Derived.Test.YtbgpclicflafaaaUSt
import Derived.Test.YtbgpclicflafaaaUBOk
set_option linter.unusedVariables false
set_option linter.unusedSimpArgs false
namespace Go.Proofs.Ytbgpclicflafaaa
open Go.RowKit

theorem chainIdOk_any (id : Int) (w : World) : Calls Try.prog 12 #[.int .i64 id] w fun e w' => e = .returned (.bool (in2 id 1 2)) ∧ w = w' := by
  by_cases h1 : id = 1
  · subst h1
    go_enter Try.func12, Try.ntmps12
    go_wp2
    go_ret
    exact ⟨rfl, rfl⟩
  · by_cases h2 : id = 2
    · subst h2
      go_enter Try.func12, Try.ntmps12
      go_wp2
      go_ret
      exact ⟨rfl, rfl⟩
    · have HR : Hid (in2 id 1 2 = false) := Lib.hid (by simp only [in2, Bool.and_eq_false_iff, decide_eq_false_iff_not]; omega)
      have e1 : (id == 1) = false := by simpa using h1
      have e2 : (id == 2) = false := by simpa using h2
      go_enter Try.func12, Try.ntmps12
      go_wp2
      go_ret
      exact ⟨(by rw [HR.out]; first | done | rfl), rfl⟩
theorem kn_step {l : List Int} {k : Nat} (h : ∀ i, i < k → (1 ≤ l.getD i 0 ∧ l.getD i 0 ≤ 90) ∧ (0 < i → l.getD (i - 1) 0 < l.getD i 0)) (hk : (1 ≤ l.getD k 0 ∧ l.getD k 0 ≤ 90) ∧ (0 < k → l.getD (k - 1) 0 < l.getD k 0)) :
    ∀ i, i < k + 1 → (1 ≤ l.getD i 0 ∧ l.getD i 0 ≤ 90) ∧ (0 < i → l.getD (i - 1) 0 < l.getD i 0) := by
  intro i hi
  rcases Nat.lt_or_ge i k with hl | hl
  · exact h i hl
  · obtain rfl : i = k := by omega
    exact hk
/-- The height before place k. -/
def bef (l : List Int) (k : Nat) : Int := if k = 0 then 0 else l.getD (k - 1) 0
theorem bef_nn {l : List Int} {k : Nat} (h : ∀ i, i < k → (1 ≤ l.getD i 0 ∧ l.getD i 0 ≤ 90) ∧ (0 < i → l.getD (i - 1) 0 < l.getD i 0)) : 0 ≤ bef l k := by
  unfold bef
  split
  · exact Int.le_refl _
  · have := (h (k - 1) (by omega)).1.1; omega
theorem pa_step {l : List StM} {k : Nat} (h : ∀ i, i < k → stB (l.getD i stm0).x = true) (hk : stB (l.getD k stm0).x = true) : ∀ i, i < k + 1 → stB (l.getD i stm0).x = true := by
  intro i hi
  rcases Nat.lt_or_ge i k with hl | hl
  · exact h i hl
  · obtain rfl : i = k := by omega
    exact hk
def PaOk2 (l : List StM) : Prop := l.length ≤ 90 ∧ PaOk l
instance (l : List StM) : Decidable (PaOk2 l) := by unfold PaOk2; infer_instance
end Go.Proofs.Ytbgpclicflafaaa
