/- A text that is cut at blanks into seven numbers, spelt as numbers are, is the text of the packet of these. Plain facts. -/
import Derived.Test.YtjbllfnfnkghgaaDoorPkTh
import Derived.Test.YtjbllfnfnkghgaaDoorPkRFs
import Derived.Lib.AtoiTie
set_option linter.unusedVariables false
set_option linter.unusedSimpArgs false
namespace Go.Proofs.YtjbllfnfnkghgaaDoor
open Go.RowKit

theorem sp_or (l : List UInt8) : NoSp l ∨ ∃ a r, l = a ++ 32 :: r ∧ NoSp a := by
  induction l with
  | nil => exact .inl fun c hc => absurd hc (by simp)
  | cons c s ih =>
    by_cases hc : c = 32
    · subst hc
      exact .inr ⟨[], s, rfl, fun c hc => absurd hc (by simp)⟩
    · rcases ih with h | ⟨a, r, rfl, ha⟩
      · exact .inl fun x hx => by
          simp at hx
          rcases hx with rfl | hx
          · exact hc
          · exact h x hx
      · exact .inr ⟨c :: a, r, rfl, fun x hx => by
          simp at hx
          rcases hx with rfl | hx
          · exact hc
          · exact ha x hx⟩
theorem pre_no (c : UInt8) (r : List UInt8) (h : c ≠ 32) : ([32] : List UInt8).isPrefixOf (c :: r) = false := by
  simp [List.isPrefixOf]
  exact fun e => h e.symm
theorem index_last (a : List UInt8) (h : NoSp a) : Lib.index a [32] = -1 := by
  induction a with
  | nil => rfl
  | cons c r ih =>
    rw [Lib.index, pre_no c r (h c (by simp)), ih (fun x hx => h x (by simp [hx]))]
    rfl
theorem index_word (a r : List UInt8) (h : NoSp a) : Lib.index (a ++ 32 :: r) [32] = (a.length : Int) := by
  induction a with
  | nil => simp [Lib.index, List.isPrefixOf]
  | cons c s ih =>
    rw [List.cons_append, Lib.index, pre_no c _ (h c (by simp)), ih (fun x hx => h x (by simp [hx]))]
    have e : (((s.length : Nat) : Int) == -1) = false := by simp
    simp [e]
theorem split_last (a : List UInt8) (h : NoSp a) : spl a = [a] := by
  unfold spl Lib.split
  rw [Lib.count_miss (index_last a h)]
  rfl
theorem split_word (a r : List UInt8) (h : NoSp a) : spl (a ++ 32 :: r) = a :: spl r := by
  have hi := index_word a r h
  unfold spl Lib.split
  rw [Lib.count_hit (by simp) hi]
  have e : (a ++ 32 :: r).drop (a.length + [(32 : UInt8)].length) = r := by
    rw [List.drop_append]
    simp
  rw [e, Nat.add_comm, Lib.splitK, if_neg (by rw [hi]; simp), hi]
  simp
theorem spl_cut (l : List UInt8) : spl l = cutL l := by
  induction hn : l.length using Nat.strongRecOn generalizing l with
  | _ n ih =>
    rcases sp_or l with h | ⟨a, r, rfl, ha⟩
    · rw [split_last l h, cut_last l h]
    · rw [split_word a r ha, cut_word a r ha, ih r.length (by rw [← hn]; simp; omega) r rfl]
theorem cut_ne (l : List UInt8) : cutL l ≠ [] := by
  rcases sp_or l with h | ⟨a, r, rfl, ha⟩
  · rw [cut_last l h]; simp
  · rw [cut_word a r ha]; simp
theorem join2 (a : List UInt8) (c : List (List UInt8)) (h : c ≠ []) : Lib.join (a :: c) [32] = a ++ 32 :: Lib.join c [32] := by
  cases c with
  | nil => exact absurd rfl h
  | cons y r => simp [Lib.join_cons, Lib.joinTail]
theorem join_cut (l : List UInt8) : Lib.join (cutL l) [32] = l := by
  induction hn : l.length using Nat.strongRecOn generalizing l with
  | _ n ih =>
    rcases sp_or l with h | ⟨a, r, rfl, ha⟩
    · rw [cut_last l h, Lib.join_one]
    · rw [cut_word a r ha, join2 _ _ (cut_ne r), ih r.length (by rw [← hn]; simp; omega) r rfl]
theorem cut_len (l : List UInt8) : ∀ x ∈ cutL l, x.length ≤ l.length := by
  induction hn : l.length using Nat.strongRecOn generalizing l with
  | _ n ih =>
    subst hn
    rcases sp_or l with h | ⟨a, r, rfl, ha⟩
    · rw [cut_last l h]
      intro x hx
      simp at hx
      rw [hx]
      exact Nat.le_refl _
    · rw [cut_word a r ha]
      intro x hx
      simp at hx
      rcases hx with rfl | hx
      · simp
      · have := ih r.length (by simp; omega) r rfl x hx
        simp
        omega

theorem atoi_f1 : ∀ u : Fin 10, Lib.atoi [UInt8.ofNat (48 + u.val)] = some (u.val : Int) := by decide
theorem atoi_f2 : ∀ a b : Fin 10, Lib.atoi [UInt8.ofNat (48 + a.val), UInt8.ofNat (48 + b.val)] = some ((10 * a.val + b.val : Nat) : Int) := by decide
theorem fig_ofNat (n : Int) (h0 : 0 ≤ n) (h1 : n < 10) : fig n = UInt8.ofNat (48 + (⟨n.toNat, by omega⟩ : Fin 10).val) := rfl
theorem atoi_dg (n : Int) (h0 : 0 ≤ n) (h1 : n < 100) : Lib.atoi (dg n) = some n := by
  by_cases h : n < 10
  · rw [dg_1 n h0 h, fig_ofNat n h0 h, atoi_f1]
    simp
    omega
  · rw [dg_two n (by omega) h1, fig_ofNat (n / 10) (by omega) (by omega), fig_ofNat (n % 10) (by omega) (by omega), atoi_f2]
    simp only [Option.some.injEq]
    omega
theorem itoa_dg (n : Int) (h0 : 0 ≤ n) : Lib.itoa n = dg n := by
  unfold Lib.itoa dg
  rw [if_neg (by omega)]
theorem cz_dg (n : Int) (h0 : 0 ≤ n) (h1 : n < 100) : cz (dg n) = some n := by
  have hl := dg_len n h1
  have e : Lib.atoiAll (dg n) = .ok n := by
    rw [Lib.atoiAll_short _ (by omega), atoi_dg n h0 h1]
    rfl
  unfold cz
  rw [e]
  simp [itoa_dg n h0]
theorem cz_inv {x : List UInt8} {n : Int} (h : cz x = some n) (h0 : 0 ≤ n) : x = dg n := by
  rw [← itoa_dg n h0]
  exact (cz_some h).2.symm
theorem txt_len24 (s k f t m u v : Int) (h : pkB s k f t m u v = true) : (txt s k f t m u v).length ≤ 24 := by
  obtain ⟨h0, h1, h2, h3, h4, h5, h6⟩ := pkB_parts h
  have e0 := dg_len s (by omega)
  have e1 := dg_len k (by omega)
  have e2 := dg_len f (by omega)
  have e3 := dg_len t (by omega)
  have e4 := dg_len m (by omega)
  have e5 := dg_len u (by omega)
  have e6 := dg_len v (by omega)
  rw [txt_eq]
  simp only [List.length_append, List.length_cons]
  omega
theorem read_fwd {s k f t m u v : Int} {l : List UInt8} (h : pkB s k f t m u v = true) (e : txt s k f t m u v = l) : l.length ≤ 24 ∧ spl l = wdL s k f t m u v := by
  subst e
  exact ⟨txt_len24 _ _ _ _ _ _ _ h, by rw [spl_cut, cut_txt _ _ _ _ _ _ _ h]⟩
theorem read_bwd {s k f t m u v : Int} {l : List UInt8} {ws : List (List UInt8)} (hw : spl l = ws) (h7 : ws.length = 7) (h0 : cz (ws.getD 0 []) = some s) (h1 : cz (ws.getD 1 []) = some k) (h2 : cz (ws.getD 2 []) = some f) (h3 : cz (ws.getD 3 []) = some t) (h4 : cz (ws.getD 4 []) = some m) (h5 : cz (ws.getD 5 []) = some u) (h6 : cz (ws.getD 6 []) = some v) (h : pkB s k f t m u v = true) : txt s k f t m u v = l := by
  obtain ⟨⟨a0, b0⟩, ⟨a1, b1⟩, ⟨a2, b2⟩, ⟨a3, b3⟩, ⟨a4, b4⟩, ⟨a5, b5⟩, ⟨a6, b6⟩⟩ := pkB_parts h
  have e : ws = wdL s k f t m u v := by
    match ws, h7 with
    | [x0, x1, x2, x3, x4, x5, x6], _ =>
      simp only [wdL, List.cons.injEq, and_true]
      exact ⟨cz_inv h0 (by omega), cz_inv h1 (by omega), cz_inv h2 (by omega), cz_inv h3 (by omega), cz_inv h4 (by omega), cz_inv h5 (by omega), cz_inv h6 (by omega)⟩
  rw [← join_cut l, ← spl_cut, hw, e]
  rfl
theorem spl_len (l : List UInt8) (h : l.length ≤ 24) : ∀ x ∈ spl l, x.length ≤ 100 := by
  intro x hx
  rw [spl_cut] at hx
  have := cut_len l x hx
  omega
end Go.Proofs.YtjbllfnfnkghgaaDoor
