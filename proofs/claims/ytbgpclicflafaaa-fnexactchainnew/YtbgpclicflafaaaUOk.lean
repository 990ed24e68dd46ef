/- Sums and validity of banks: l1All, l1Parts, BankOk of the model; amountSum, amountsOk, BankOk of the program: both answer okB. szBank, toIntS, toBank of the laws. -/
import Derived.Test.YtbgpclicflafaaaUMem
set_option linter.unusedVariables false
set_option linter.unusedSimpArgs false
/-! Ok -/
namespace Go.Proofs.Ytbgpclicflafaaa
open Go.RowKit

def sumL : List Int → Int
  | [] => 0
  | x :: r => x + sumL r
theorem sumL_append (xs ys : List Int) : sumL (xs ++ ys) = sumL xs + sumL ys := by
  induction xs with
  | nil => simp [sumL]
  | cons x r ih => simp [sumL, ih]; omega
theorem sumL_step (xs : List Int) (k : Nat) (h : k < xs.length) : sumL (xs.take (k + 1)) = sumL (xs.take k) + xs.getD k 0 := by
  rw [List.take_succ_eq_append_getElem h, sumL_append]
  simp [sumL, List.getD_eq_getElem?_getD, List.getElem?_eq_getElem h]
def Small (xs : List Int) : Prop := ∀ x ∈ xs, 0 ≤ x ∧ x ≤ 100
theorem Small.sum {xs : List Int} (h : Small xs) : 0 ≤ sumL xs ∧ sumL xs ≤ 100 * xs.length := by
  induction xs with
  | nil => simp [sumL]
  | cons x r ih =>
    have h1 := h x (by simp)
    have h2 := ih fun y hy => h y (by simp [hy])
    simp only [sumL, List.length_cons]
    omega
theorem Small.take {xs : List Int} (h : Small xs) (k : Nat) : Small (xs.take k) := fun x hx => h x (List.mem_of_mem_take hx)
theorem Small.getD {xs : List Int} (h : Small xs) (k : Nat) : 0 ≤ xs.getD k 0 ∧ xs.getD k 0 ≤ 100 := by
  rw [List.getD_eq_getElem?_getD]
  rcases hk : xs[k]? with _ | x
  · simp
  · exact h x (List.mem_of_getElem? hk)

def inB (x : Int) : Bool := decide (0 ≤ x) && decide (x ≤ 30)
theorem inB_lo {x : Int} (h : x < 0) : inB x = false := by simp [inB]; omega
theorem inB_hi {x : Int} (h : 30 < x) : inB x = false := by simp [inB]; omega
theorem inB_yes {x : Int} (h : ¬ x < 0) (h' : ¬ 30 < x) : inB x = true := by simp [inB]; omega
def partsB (xs : List Int) : Bool := xs.all inB && decide (xs.length = 3)
def okB (b : BankL) : Bool := partsB b.own && partsB b.notes && decide (0 ≤ b.locked) && decide (sumL b.own + b.locked = 30) && decide (sumL b.notes ≤ 30)

theorem all_snoc (p : Int → Bool) (xs : List Int) (k : Nat) (h : k < xs.length) : (xs.take (k + 1)).all p = ((xs.take k).all p && p (xs.getD k 0)) := by
  have hg : xs.getD k 0 = xs[k] := by simp [List.getD_eq_getElem?_getD, List.getElem?_eq_getElem h]
  rw [hg, List.take_succ_eq_append_getElem h, List.all_append, List.all_cons, List.all_nil, Bool.and_true]
theorem all_false_of (p : Int → Bool) (xs : List Int) (k : Nat) (h : k < xs.length) (hp : p (xs.getD k 0) = false) : xs.all p = false := by
  rw [List.all_eq_false]
  refine ⟨xs[k], by simp, ?_⟩
  rw [List.getD_eq_getElem?_getD, List.getElem?_eq_getElem h] at hp
  simp at hp
  simp [hp]
theorem parts_small {xs : List Int} (h : partsB xs = true) : Small xs ∧ xs.length = 3 := by
  unfold partsB at h
  simp [List.all_eq_true, inB] at h
  exact ⟨fun x hx => by have := h.1 x hx; omega, h.2⟩

set_option maxHeartbeats 400000 in
theorem l6In_bk (x lo hi : Int) (w : World) :
    Calls Try.prog 9 #[.int .i64 x, .int .i64 lo, .int .i64 hi] w fun e w' => e = .returned (.bool (decide (lo ≤ x) && decide (x ≤ hi))) ∧ w = w' := by
  by_cases h1 : lo ≤ x
  · have hd : decide (lo ≤ x) = true := by simpa using h1
    go_enter Try.func9, Try.ntmps9
    go_wp2
    go_ret
    exact ⟨by simp [h1], rfl⟩
  · have hd : decide (lo ≤ x) = false := by simpa using h1
    go_enter Try.func9, Try.ntmps9
    go_wp2
    go_ret
    exact ⟨by simp [h1], rfl⟩

end Go.Proofs.Ytbgpclicflafaaa

/-! To -/
namespace Go.Proofs.Ytbgpclicflafaaa
open Go.RowKit

def RetBank' (w : World) (b : BankL) (e : Ending) (w' : World) : Prop :=
  ∃ A1 A2, e = .returned (.agg #[.slice A1 b.own.length b.own.length, .slice A2 b.notes.length b.notes.length, .int .i64 b.locked]) ∧
    Row w' w.heap.size A1 b.own.length b.own ∧ Row w' w.heap.size A2 b.notes.length b.notes ∧ (∀ i, blk A1 b.own.length i → ¬ blk A2 b.notes.length i) ∧ Keeps noBlk w w'

end Go.Proofs.Ytbgpclicflafaaa
