/- Texts of packets: cut at blanks they are their figures; equal texts are of equal packets. Plain facts. -/
import Derived.Test.YtjbllfnfnkghgaaDoorPkD
set_option linter.unusedVariables false
set_option linter.unusedSimpArgs false
namespace Go.Proofs.YtjbllfnfnkghgaaDoor
open Go.RowKit

def cutL : List UInt8 → List (List UInt8)
  | [] => [[]]
  | c :: r => if c = 32 then [] :: cutL r else match cutL r with
    | [] => [[c]]
    | x :: xs => (c :: x) :: xs
def NoSp (l : List UInt8) : Prop := ∀ c ∈ l, c ≠ 32
theorem cut_last (a : List UInt8) (h : NoSp a) : cutL a = [a] := by
  induction a with
  | nil => rfl
  | cons c r ih =>
    have hc : ¬ c = 32 := h c (by simp)
    rw [cutL, if_neg hc, ih (fun x hx => h x (by simp [hx]))]
theorem cut_word (a r : List UInt8) (h : NoSp a) : cutL (a ++ 32 :: r) = a :: cutL r := by
  induction a with
  | nil => simp [cutL]
  | cons c s ih =>
    have hc : ¬ c = 32 := h c (by simp)
    rw [List.cons_append, cutL, if_neg hc, ih (fun x hx => h x (by simp [hx]))]
theorem fig_sp (n : Int) (h0 : 0 ≤ n) (h1 : n < 10) : fig n ≠ 32 := by
  intro h
  have := fig_nat n h0 h1
  rw [h] at this
  have e : ((32 : UInt8).toNat : Int) = 32 := rfl
  omega
theorem fig_inj {n m : Int} (h0 : 0 ≤ n) (h1 : n < 10) (g0 : 0 ≤ m) (g1 : m < 10) (h : fig n = fig m) : n = m := by
  have a := fig_nat n h0 h1
  have b := fig_nat m g0 g1
  rw [h] at a
  omega
theorem dg_two (n : Int) (h0 : 10 ≤ n) (h1 : n < 100) : dg n = [fig (n / 10), fig (n % 10)] := by
  rw [dg_2 n h0, dg_1 (n / 10) (by omega) (by omega)]
  rfl
theorem dg_sp (n : Int) (h0 : 0 ≤ n) (h1 : n < 100) : NoSp (dg n) := by
  intro c hc
  by_cases h : n < 10
  · rw [dg_1 n h0 h] at hc
    simp at hc
    rw [hc]
    exact fig_sp n h0 h
  · rw [dg_two n (by omega) h1] at hc
    simp at hc
    rcases hc with rfl | rfl
    · exact fig_sp _ (by omega) (by omega)
    · exact fig_sp _ (by omega) (by omega)
theorem dg_inj {n m : Int} (h0 : 0 ≤ n) (h1 : n < 100) (g0 : 0 ≤ m) (g1 : m < 100) (h : dg n = dg m) : n = m := by
  by_cases a : n < 10 <;> by_cases b : m < 10
  · rw [dg_1 n h0 a, dg_1 m g0 b] at h
    injection h with h
    exact fig_inj h0 a g0 b h
  · rw [dg_1 n h0 a, dg_two m (by omega) g1] at h
    injection h with _ h
    cases h
  · rw [dg_two n (by omega) h1, dg_1 m g0 b] at h
    injection h with _ h
    cases h
  · rw [dg_two n (by omega) h1, dg_two m (by omega) g1] at h
    injection h with e1 h
    injection h with e2 h
    have := fig_inj (by omega) (by omega) (by omega) (by omega) e1
    have := fig_inj (by omega) (by omega) (by omega) (by omega) e2
    omega
theorem dg_ne (n : Int) (h0 : 0 ≤ n) (h1 : n < 100) : dg n ≠ [] := by
  by_cases h : n < 10
  · rw [dg_1 n h0 h]; simp
  · rw [dg_two n (by omega) h1]; simp
theorem txt_eq (s k f t m u v : Int) : txt s k f t m u v = dg s ++ 32 :: (dg k ++ 32 :: (dg f ++ 32 :: (dg t ++ 32 :: (dg m ++ 32 :: (dg u ++ 32 :: (dg v)))))) := by
  simp [txt, wdL, Lib.join_cons, Lib.joinTail]
theorem cut_txt (s k f t m u v : Int) (h : pkB s k f t m u v = true) : cutL (txt s k f t m u v) = wdL s k f t m u v := by
  obtain ⟨⟨a0, b0⟩, ⟨a1, b1⟩, ⟨a2, b2⟩, ⟨a3, b3⟩, ⟨a4, b4⟩, ⟨a5, b5⟩, ⟨a6, b6⟩⟩ := pkB_parts h
  rw [txt_eq, cut_word _ _ (dg_sp s (by omega) (by omega)), cut_word _ _ (dg_sp k (by omega) (by omega)), cut_word _ _ (dg_sp f (by omega) (by omega)), cut_word _ _ (dg_sp t (by omega) (by omega)), cut_word _ _ (dg_sp m (by omega) (by omega)), cut_word _ _ (dg_sp u (by omega) (by omega)), cut_last _ (dg_sp v (by omega) (by omega))]
  rfl
theorem txt_inj {s k f t m u v s' k' f' t' m' u' v' : Int} (h : pkB s k f t m u v = true) (h' : pkB s' k' f' t' m' u' v' = true) (e : txt s k f t m u v = txt s' k' f' t' m' u' v') : s = s' ∧ k = k' ∧ f = f' ∧ t = t' ∧ m = m' ∧ u = u' ∧ v = v' := by
  have e2 : wdL s k f t m u v = wdL s' k' f' t' m' u' v' := by rw [← cut_txt _ _ _ _ _ _ _ h, ← cut_txt _ _ _ _ _ _ _ h', e]
  obtain ⟨⟨a0, b0⟩, ⟨a1, b1⟩, ⟨a2, b2⟩, ⟨a3, b3⟩, ⟨a4, b4⟩, ⟨a5, b5⟩, ⟨a6, b6⟩⟩ := pkB_parts h
  obtain ⟨⟨c0, d0⟩, ⟨c1, d1⟩, ⟨c2, d2⟩, ⟨c3, d3⟩, ⟨c4, d4⟩, ⟨c5, d5⟩, ⟨c6, d6⟩⟩ := pkB_parts h'
  simp only [wdL, List.cons.injEq, and_true] at e2
  obtain ⟨q0, q1, q2, q3, q4, q5, q6⟩ := e2
  exact ⟨dg_inj (by omega) (by omega) (by omega) (by omega) q0, dg_inj (by omega) (by omega) (by omega) (by omega) q1, dg_inj (by omega) (by omega) (by omega) (by omega) q2, dg_inj (by omega) (by omega) (by omega) (by omega) q3, dg_inj (by omega) (by omega) (by omega) (by omega) q4, dg_inj (by omega) (by omega) (by omega) (by omega) q5, dg_inj (by omega) (by omega) (by omega) (by omega) q6⟩
theorem txt_ne (s k f t m u v : Int) (h : pkB s k f t m u v = true) : txt s k f t m u v ≠ [] := by
  rw [txt_eq]
  simp
theorem pkT_yes {s k f t m u v : Int} (h : pkB s k f t m u v = true) : pkT s k f t m u v = txt s k f t m u v := if_pos h
theorem pkT_no {s k f t m u v : Int} (h : pkB s k f t m u v = false) : pkT s k f t m u v = [] := if_neg (by rw [h]; simp)
end Go.Proofs.YtjbllfnfnkghgaaDoor
