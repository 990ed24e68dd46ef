/- eqState of the laws, of two states that hold the same. markPacketS, heldPacketS, markBoolS, heldBoolS, markState, heldState of the laws: a state's memory is marked with k, k+1, ..; a marked one is told. StateNew of the model and of the program: a state of its own. -/
import Derived.Test.YtjcbeihoeanhaaaDoorSTo
set_option linter.unusedVariables false
set_option linter.unusedSimpArgs false
/-! SEq -/
namespace Go.Proofs.YtjcbeihoeanhaaaDoor
open Go.RowKit

/-! packets -/
theorem qt_keep {w w' : World} {e : Ending} {v : Value} (h : e = .returned v ∧ Qt w w') : e = .returned v ∧ Keeps noBlk w w' := ⟨h.1, h.2.keeps _⟩

def pkm (k : Int) : Pk := ⟨k, k + 1, k + 2, k + 3, k + 4, k + 5, k + 6⟩
def pmarks (k : Int) (n : Nat) : List Pk := (List.range n).map fun (i : Nat) => pkm (k + 7 * (i : Int))
theorem pmarks_length (k : Int) (n : Nat) : (pmarks k n).length = n := by simp [pmarks]
theorem pmarks_getD (k : Int) (n i : Nat) (h : i < n) : (pmarks k n).getD i pk0 = pkm (k + 7 * i) := by simp [pmarks, List.getD_eq_getElem?_getD, h]
def pmarked (k : Int) (i : Nat) (xs : List Pk) : List Pk := pmarks k i ++ xs.drop i
theorem pmarked_zero (k : Int) (xs : List Pk) : pmarked k 0 xs = xs := by simp [pmarked, pmarks]
theorem pmarked_step (k : Int) (i : Nat) (xs : List Pk) (h : i < xs.length) : (pmarked k i xs).set i (pkm (k + 7 * i)) = pmarked k (i + 1) xs := by
 apply List.ext_getElem?
 intro j
 simp only [pmarked, pmarks]
 rw [List.getElem?_set]
 by_cases hj : i = j
 ·subst hj
  rw [if_pos rfl, if_pos (by simp; omega), List.getElem?_append_left (by simp)]
  simp
 ·rw [if_neg hj]
  by_cases hlt : j < i
  ·rw [List.getElem?_append_left (by simpa using hlt), List.getElem?_append_left (by simp; omega)]
   simp [hlt, Nat.lt_succ_of_lt hlt]
  ·rw [List.getElem?_append_right (by simp; omega), List.getElem?_append_right (by simp; omega)]
   simp only [List.length_map, List.length_range, List.getElem?_drop]
   congr 1
   omega
theorem pmarked_all (k : Int) (n : Nat) (xs : List Pk) (h : xs.length = n) : pmarked k n xs = pmarks k n := by
 simp [pmarked, List.drop_of_length_le (Nat.le_of_eq h)]
def RetPMark (w : World) (lo : Nat) (A : Option Addr) (n : Nat) (k : Int) (e : Ending) (w' : World) : Prop :=
 e = .returned (.int .i64 (k + 7 * n)) ∧ PRow w' lo A n (pmarks k n) ∧ Keeps (blk A n) w w'

def bm (k : Int) : Bool := k % 3 == 0
def bmarks (k : Int) (n : Nat) : List Bool := (List.range n).map fun (i : Nat) => bm (k + (i : Int))
theorem bmarks_length (k : Int) (n : Nat) : (bmarks k n).length = n := by simp [bmarks]
theorem bmarks_getD (k : Int) (n i : Nat) (h : i < n) : (bmarks k n).getD i false = bm (k + i) := by simp [bmarks, List.getD_eq_getElem?_getD, h]
def bmarked (k : Int) (i : Nat) (xs : List Bool) : List Bool := bmarks k i ++ xs.drop i
theorem bmarked_zero (k : Int) (xs : List Bool) : bmarked k 0 xs = xs := by simp [bmarked, bmarks]
theorem bmarked_step (k : Int) (i : Nat) (xs : List Bool) (h : i < xs.length) : (bmarked k i xs).set i (bm (k + i)) = bmarked k (i + 1) xs := by
 apply List.ext_getElem?
 intro j
 simp only [bmarked, bmarks]
 rw [List.getElem?_set]
 by_cases hj : i = j
 ·subst hj
  rw [if_pos rfl, if_pos (by simp; omega), List.getElem?_append_left (by simp)]
  simp
 ·rw [if_neg hj]
  by_cases hlt : j < i
  ·rw [List.getElem?_append_left (by simpa using hlt), List.getElem?_append_left (by simp; omega)]
   simp [hlt, Nat.lt_succ_of_lt hlt]
  ·rw [List.getElem?_append_right (by simp; omega), List.getElem?_append_right (by simp; omega)]
   simp only [List.length_map, List.length_range, List.getElem?_drop]
   congr 1
   omega
theorem bmarked_all (k : Int) (n : Nat) (xs : List Bool) (h : xs.length = n) : bmarked k n xs = bmarks k n := by
 simp [bmarked, List.drop_of_length_le (Nat.le_of_eq h)]
def RetBMark (w : World) (lo : Nat) (A : Option Addr) (n : Nat) (k : Int) (e : Ending) (w' : World) : Prop :=
 e = .returned (.int .i64 (k + n)) ∧ BRow w' lo A n (bmarks k n) ∧ Keeps (blk A n) w w'

def stN (x : StL) : Nat := 7 * x.sent.length + x.live.length + x.back.length + x.got.length
def stMark (x : StL) (k : Int) : StL := { x with sent := pmarks k x.sent.length, live := bmarks (k + 7 * x.sent.length) x.live.length, back := bmarks (k + 7 * x.sent.length + x.live.length) x.back.length, got := iota (k + 7 * x.sent.length + x.live.length + x.back.length) x.got.length }
def stBlk (x : StL) (A1 A2 A3 A4 : Option Addr) (b : Nat) : Prop := blk A1 x.sent.length b ∨ blk A2 x.live.length b ∨ blk A3 x.back.length b ∨ blk A4 x.got.length b
def RetStMark (w : World) (lo : Nat) (x : StL) (A1 A2 A3 A4 : Option Addr) (k : Int) (e : Ending) (w' : World) : Prop :=
 e = .returned (.int .i64 (k + stN x)) ∧ StOwn w' lo (stMark x k) A1 A2 A3 A4 ∧ Keeps (stBlk x A1 A2 A3 A4) w w'
theorem StOwn.lt {w : World} {lo : Nat} {x : StL} {A1 A2 A3 A4 : Option Addr} (h : StOwn w lo x A1 A2 A3 A4) {b : Nat} (hb : stBlk x A1 A2 A3 A4 b) : b < w.heap.size := by
 obtain ⟨s1, s2, s3, ⟨h1, h2, h3, h4⟩, _⟩ := h
 rcases hb with hb | hb | hb | hb
 ·exact h1.lt hb
 ·exact h2.lt hb
 ·exact h3.lt hb
 ·exact h4.lt hb
theorem StOwn.ge {w : World} {lo : Nat} {x : StL} {A1 A2 A3 A4 : Option Addr} (h : StOwn w lo x A1 A2 A3 A4) {b : Nat} (hb : stBlk x A1 A2 A3 A4 b) : lo ≤ b := by
 obtain ⟨s1, s2, s3, ⟨h1, h2, h3, h4⟩, _, _, _, e1, e2, e3⟩ := h
 rcases hb with hb | hb | hb | hb
 ·exact h1.ge hb
 ·have := h2.ge hb; omega
 ·have := h3.ge hb; omega
 ·have := h4.ge hb; omega
theorem StOwn.keeps {S : Nat → Prop} {w w' : World} {lo : Nat} {x : StL} {A1 A2 A3 A4 : Option Addr} (h : StOwn w lo x A1 A2 A3 A4) (hk : Keeps S w w') (hs : ∀ b, stBlk x A1 A2 A3 A4 b → ¬ S b) : StOwn w' lo x A1 A2 A3 A4 := by
 obtain ⟨s1, s2, s3, ⟨h1, h2, h3, h4⟩, r⟩ := h
 exact ⟨s1, s2, s3, ⟨h1.keeps hk fun b hb => hs b (.inl hb), h2.keeps hk fun b hb => hs b (.inr (.inl hb)), h3.keeps hk fun b hb => hs b (.inr (.inr (.inl hb))), h4.keeps hk fun b hb => hs b (.inr (.inr (.inr hb)))⟩, r⟩
theorem StAt.lt {w : World} {x : StL} {A1 A2 A3 A4 : Option Addr} (h : StAt w x A1 A2 A3 A4) {b : Nat} (hb : stBlk x A1 A2 A3 A4 b) : b < w.heap.size := by
 obtain ⟨⟨h1, h2, h3, h4⟩, _⟩ := h
 rcases hb with hb | hb | hb | hb
 ·exact h1.lt hb
 ·exact h2.lt hb
 ·exact h3.lt hb
 ·exact h4.lt hb

set_option maxHeartbeats 1000000

def newS : StL := ⟨0, 1, 0, [], [], [], [0, 0, 0, 0, 0, 0, 0, 0]⟩
def RetNewS (w : World) (e : Ending) (w' : World) : Prop :=
 ∃ A1 A2 A3 A4 c1 c2 c3 c4, e = .returned (stV newS A1 A2 A3 A4 c1 c2 c3 c4) ∧ StOwn w' w.heap.size newS A1 A2 A3 A4 ∧ Keeps noBlk w w'
theorem make8 (W : World) : (Instr.makeSlice 25 (.int .i64 8) (.int .i64 8)).run Tryd.prog W = .ok (.slice (some ⟨W.heap.size, 0, none⟩) 8 8) (W.alloc (.cells (madeCells #[.int .i64 0] 8) 3)) :=
 run_make_row' (P := Tryd.prog) 25 3 (.int .i64 0) 8 Tryd.underlying25 info_int rfl .i64 .i64 8 (by omega) (by omega) W
theorem newS_own {w : World} {lo : Nat} {A1 A2 A3 : Option Addr} {g : Nat} (h : Row w lo (some ⟨g, 0, none⟩) 8 [0, 0, 0, 0, 0, 0, 0, 0]) : StOwn w lo newS A1 A2 A3 (some ⟨g, 0, none⟩) :=
 ⟨lo, lo, lo, ⟨PRow.nil _ _ _, BRow.nil _ _ _, BRow.nil _ _ _, h⟩, fun _ h => absurd h.1 (by decide), fun _ h => absurd h.1 (by decide), fun _ h => absurd h.1 (by decide), Nat.le_refl _, Nat.le_refl _, Nat.le_refl _⟩
theorem specNewS_any (w : World) : Calls Tryd.prog 87 #[] w (RetNewS w) := by
 have hmk := make8
 go_enter Tryd.func87, Tryd.ntmps87
 go_wp2
 refine bodyPost_ret (v := .agg #[.int .i64 0, .int .i64 1, .int .i64 0, .slice (some ⟨w.heap.size + 1, 0, none⟩) 0 0, .slice (some ⟨w.heap.size + 1 + 1, 0, none⟩) 0 0, .slice (some ⟨w.heap.size + 1 + 1 + 1, 0, none⟩) 0 0, .slice (some ⟨w.heap.size + 1 + 1 + 1 + 1, 0, none⟩) 8 8]) (by simp [results, Tryd.results87, go_sem]) rfl ?_
 exact ⟨_, _, _, _, _, _, _, _, rfl, newS_own (Row.made' _ _ _ (by simp) (by omega) _ _ 8 [0, 0, 0, 0, 0, 0, 0, 0] rfl (made_ints 8)), (((((Keeps.refl _ _).alloc _).alloc _).alloc _).alloc _).alloc _⟩
theorem implNewS_any (w : World) : Calls Tryd.prog 33 #[] w (RetNewS w) := by
 have hmk := make8
 go_enter Tryd.func33, Tryd.ntmps33
 go_wp2
 refine bodyPost_ret (v := .agg #[.int .i64 0, .int .i64 1, .int .i64 0, .slice none 0 0, .slice none 0 0, .slice none 0 0, .slice (some ⟨w.heap.size + 1, 0, none⟩) 8 8]) (by simp [results, Tryd.results33, go_sem]) rfl ?_
 exact ⟨_, _, _, _, _, _, _, _, rfl, newS_own (Row.made' _ _ _ (by simp) (by omega) _ _ 8 [0, 0, 0, 0, 0, 0, 0, 0] rfl (made_ints 8)), ((Keeps.refl _ _).alloc _).alloc _⟩
end Go.Proofs.YtjcbeihoeanhaaaDoor
