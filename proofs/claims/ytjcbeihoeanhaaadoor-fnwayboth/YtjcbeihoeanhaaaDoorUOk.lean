/- Sums and validity of banks: l1All, l1Parts, BankOk of the model; amountSum, amountsOk, BankOk of the program: both answer okB. szBank, toIntS, toBank of the laws. -/
import Derived.Test.YtjcbeihoeanhaaaDoorUMem
set_option maxHeartbeats 400000
set_option linter.unusedVariables false
set_option linter.unusedSimpArgs false
/-! Ok -/
namespace Go.Proofs.YtjcbeihoeanhaaaDoor
open Go.RowKit

def sumL : List Int → Int
 | [] => 0
 | x :: r => x + sumL r
theorem sumL_append (xs ys : List Int) : sumL (xs ++ ys) = sumL xs + sumL ys := by
 induction xs with
 | nil => simp [sumL]
 | cons x r ih => simp [sumL, ih]; omega
theorem sumL_step (xs : List Int) (k : Nat) (h : k < xs.length) : sumL (xs.take (k + 1)) = sumL (xs.take k) + xs.getD k 0 := by
 rw [List.take_succ_eq_append_getElem h, sumL_append]; simp [sumL, List.getD_eq_getElem?_getD, List.getElem?_eq_getElem h]
def Small (xs : List Int) : Prop := ∀ x ∈ xs, 0 ≤ x ∧ x ≤ 100
theorem Small.sum {xs : List Int} (h : Small xs) : 0 ≤ sumL xs ∧ sumL xs ≤ 100 * xs.length := by
 induction xs with
 | nil => simp [sumL]
 | cons x r ih =>
  have h1 := h x (by simp)
  have h2 := ih fun y hy => h y (by simp [hy])
  simp only [sumL, List.length_cons]
  omega
theorem Small.take {xs : List Int} (h : Small xs) (k : Nat) : Small (xs.take k) := fun x hx => h x (List.mem_of_mem_take hx)
theorem Small.getD {xs : List Int} (h : Small xs) (k : Nat) : 0 ≤ xs.getD k 0 ∧ xs.getD k 0 ≤ 100 := by
 rw [List.getD_eq_getElem?_getD]
 rcases hk : xs[k]? with _ | x
 ·simp
 ·exact h x (List.mem_of_getElem? hk)

def inB (x : Int) : Bool := decide (0 ≤ x) && decide (x ≤ 30)
def partsB (xs : List Int) : Bool := xs.all inB && decide (xs.length = 3)
def okB (b : BankL) : Bool := partsB b.own && partsB b.notes && decide (0 ≤ b.locked) && decide (sumL b.own + b.locked = 30) && decide (sumL b.notes ≤ 30)

theorem all_snoc (p : Int → Bool) (xs : List Int) (k : Nat) (h : k < xs.length) : (xs.take (k + 1)).all p = ((xs.take k).all p && p (xs.getD k 0)) := by
 have hg : xs.getD k 0 = xs[k] := by simp [List.getD_eq_getElem?_getD, List.getElem?_eq_getElem h]
 rw [hg, List.take_succ_eq_append_getElem h, List.all_append, List.all_cons, List.all_nil, Bool.and_true]
theorem all_false_of (p : Int → Bool) (xs : List Int) (k : Nat) (h : k < xs.length) (hp : p (xs.getD k 0) = false) : xs.all p = false := by
 rw [List.all_eq_false]; refine ⟨xs[k], by simp, ?_⟩; rw [List.getD_eq_getElem?_getD, List.getElem?_eq_getElem h] at hp; simp at hp; simp [hp]
theorem parts_small {xs : List Int} (h : partsB xs = true) : Small xs ∧ xs.length = 3 := by
 unfold partsB at h; simp [List.all_eq_true, inB] at h; exact ⟨fun x hx => by have := h.1 x hx; omega, h.2⟩

theorem specAll_any (A : Option Addr) (n c : Nat) (xs : List Int) (w : World) (ha : Ints w A n xs) (hs : Small xs) (hn : n ≤ 1000) :
  Calls Tryd.prog 111 #[.slice A n c] w fun e w' => e = .returned (.int .i64 (sumL xs)) ∧ w = w' := by
 have hxl := hH ha.1; have HS := hH hs; clear hs
 go_enter Tryd.func111, Tryd.ntmps111
 go_wp2
 go_loop [3, 4] (fun s i => ∃ k : Nat, k ≤ n ∧ i = .int .i64 k ∧ s = .int .i64 (sumL (xs.take k))) (fun _ i => n - (intOf i).toNat)
 case atStart => exact ⟨0, Nat.zero_le _, rfl, rfl⟩
 case round =>
  obtain ⟨k, hk, rfl, rfl⟩ := hrel; have hl : (xs.take k).length ≤ k := List.length_take_le _ _; have hb := (HS.out.take k).sum
  by_cases hlt : k < n
  ·obtain ⟨b1, o1, rfl, _, hc1⟩ := ha.at_ hlt
   have hst := hH (sumL_step xs k (by rw [hxl.out]; exact hlt)); have hg := HS.out.getD k; generalize xs.getD k 0 = y at hc1 hg hst; generalize sumL (xs.take k) = s at hb hst; clear ha; go_wp2
   go_round
   case rel => exact ⟨k + 1, by omega, by go_num, by rw [hst.out]⟩
   case measure => simp [intOf]; omega
  ·have he : xs.take k = xs := List.take_of_length_le (by rw [hxl.out]; omega)
   rw [he]; clear he; go_wp2; go_ret; exact ⟨rfl, rfl⟩

theorem l6In_bk (x lo hi : Int) (w : World) :
  Calls Tryd.prog 50 #[.int .i64 x, .int .i64 lo, .int .i64 hi] w fun e w' => e = .returned (.bool (decide (lo ≤ x) && decide (x ≤ hi))) ∧ w = w' := by
 by_cases h1 : lo ≤ x
 ·have hd : decide (lo ≤ x) = true := by simpa using h1
  go_enter Tryd.func50, Tryd.ntmps50
  go_wp2; go_ret; exact ⟨by simp [h1], rfl⟩
 ·have hd : decide (lo ≤ x) = false := by simpa using h1
  go_enter Tryd.func50, Tryd.ntmps50
  go_wp2; go_ret; exact ⟨by simp [h1], rfl⟩

theorem specParts_any (A : Option Addr) (n c : Nat) (xs : List Int) (w : World) (ha : Ints w A n xs) (hn : n ≤ maxLen) :
  Calls Tryd.prog 110 #[.slice A n c] w fun e w' => e = .returned (.bool (partsB xs)) ∧ w = w' := by
 unfold maxLen at hn; have hxl := hH ha.1
 go_enter Tryd.func110, Tryd.ntmps110
 go_wp2
 go_loop [3] (fun i => ∃ k : Nat, k ≤ n ∧ i = .int .i64 k ∧ (xs.take k).all inB = true) (fun i => n - (intOf i).toNat)
 case atStart => exact ⟨0, Nat.zero_le _, rfl, rfl⟩
 case round =>
  obtain ⟨k, hk, rfl, hall⟩ := hrel; have HA := hH hall; clear hall
  by_cases hlt : k < n
  ·obtain ⟨b1, o1, rfl, _, hc1⟩ := ha.at_ hlt
   have hst := hH (all_snoc inB xs k (by rw [hxl.out]; exact hlt)); clear ha
   by_cases hin : inB (xs.getD k 0) = true
   ·have hd : (decide (0 ≤ xs.getD k 0) && decide (xs.getD k 0 ≤ 30)) = true := hin
    have HI := hH hin; generalize xs.getD k 0 = y at hc1 hd; clear hin
    go_wp2_with (go_at_call 50; refine (l6In_bk _ _ _ _).mono ?_; rintro e w' ⟨rfl, rfl⟩)
    go_round
    case rel => exact ⟨k + 1, by omega, by go_num, by rw [hst.out, HA.out, HI.out]; rfl⟩
    case measure => simp [intOf]; omega
   ·have hd : (decide (0 ≤ xs.getD k 0) && decide (xs.getD k 0 ≤ 30)) = false := Bool.eq_false_iff.2 hin
    have hf := hH (all_false_of inB xs k (by rw [hxl.out]; exact hlt) hd); generalize xs.getD k 0 = y at hc1 hd; clear hin
    go_wp2_with (go_at_call 50; refine (l6In_bk _ _ _ _).mono ?_; rintro e w' ⟨rfl, rfl⟩)
    go_ret; exact ⟨by simp [partsB, hf.out], rfl⟩
  ·have he : xs.take k = xs := List.take_of_length_le (by rw [hxl.out]; omega)
   have HA2 := HA.out; rw [he] at HA2
   have HP : Hid (partsB xs = decide (n = 3)) := by
    show partsB xs = _
    unfold partsB; rw [HA2, hxl.out, Bool.true_and]
   clear he HA2
   by_cases h3 : n = 3
   ·have hd : ((n : Int) == 3) = true := by simp; omega
    go_wp2; go_ret; exact ⟨by rw [HP.out]; simp [h3], rfl⟩
   ·have hd : ((n : Int) == 3) = false := by simp; omega
    go_wp2; go_ret; exact ⟨by rw [HP.out]; simp [h3], rfl⟩


end Go.Proofs.YtjcbeihoeanhaaaDoor
