/- BankOk and BankAll, of the model and of the program: both answer by okB. BankAll of the model and of the program: 30 and the notes of a valid bank, else -1 and -1. What BankMove, BankAway, BankBack do, as plain functions on lists. -/
import Derived.Test.YtjcbeihoeanhaaaDoorUOk
import Derived.Deep.RegionWith
set_option maxHeartbeats 3000000
set_option linter.unusedVariables false
set_option linter.unusedSimpArgs false
/-! BOk -/
namespace Go.Proofs.YtjcbeihoeanhaaaDoor
open Go.RowKit

theorem quiet_bk {P : Program} {f : FuncId} {args : Array Value} {w : World} {n : Nat} {v : Value}
  (h : Calls P f args (w.drewN n) fun e w' => e = .returned v ∧ w.drewN n = w') : Calls P f args (w.drewN n) fun e w'' => e = .returned v ∧ ∃ m, w'' = w.drewN m :=
 h.mono fun _ _ ⟨he, hm⟩ => ⟨he, n, hm.symm⟩

theorem okB_1 {xs ys : List Int} {L : Int} (h : partsB xs = false) : okB ⟨xs, ys, L⟩ = false := by simp [okB, h]
theorem okB_2 {xs ys : List Int} {L : Int} (h : partsB ys = false) : okB ⟨xs, ys, L⟩ = false := by simp [okB, h]
theorem okB_3 {xs ys : List Int} {L : Int} (h : ¬ 0 ≤ L) : okB ⟨xs, ys, L⟩ = false := by simp [okB, h]
theorem okB_4 {xs ys : List Int} {L : Int} (h : ¬ sumL xs + L = 30) : okB ⟨xs, ys, L⟩ = false := by simp [okB, h]
theorem okB_5 {xs ys : List Int} {L : Int} (h : ¬ sumL ys ≤ 30) : okB ⟨xs, ys, L⟩ = false := by simp [okB, h]
theorem okB_6 {xs ys : List Int} {L : Int} (h1 : partsB xs = true) (h2 : partsB ys = true) (h3 : 0 ≤ L) (h4 : sumL xs + L = 30) (h5 : sumL ys ≤ 30) : okB ⟨xs, ys, L⟩ = true := by
 simp [okB, h1, h2, h3, h4, h5]

theorem specOk_any (A1 A2 : Option Addr) (n1 n2 c1 c2 : Nat) (L : Int) (xs ys : List Int) (w : World) (ha1 : Ints w A1 n1 xs) (ha2 : Ints w A2 n2 ys)
  (h1 : n1 ≤ maxLen) (h2 : n2 ≤ maxLen) (hL : L ≤ 9223372036854775807) :
  Calls Tryd.prog 102 #[.agg #[.slice A1 n1 c1, .slice A2 n2 c2, .int .i64 L]] w fun e w' => e = .returned (.bool (okB ⟨xs, ys, L⟩)) ∧ Keeps noBlk w w' := by
 by_cases p1 : partsB xs = true
 ·obtain ⟨hs1, hl1⟩ := parts_small p1
  have hx1 : n1 ≤ 1000 := by have := ha1.1; omega
  have hb1 := hs1.sum
  by_cases p2 : partsB ys = true
  ·obtain ⟨hs2, hl2⟩ := parts_small p2
   have hx2 : n2 ≤ 1000 := by have := ha2.1; omega
   have HS1 := hH hs1; have HS2 := hH hs2; rw [hl1] at hb1; clear hs1 hs2 hl1 hl2
   by_cases p3 : 0 ≤ L
   ·have hd : decide (0 ≤ L) = true := by simpa using p3
    by_cases p4 : sumL xs + L = 30
    ·have hw : (IntKind.i64.wrap (sumL xs + L) == 30) = true := by
      rw [IntWalk.i64_in _ (by omega)]
      simpa using p4
     by_cases p5 : sumL ys ≤ 30
     ·have HF := hH (okB_6 p1 p2 p3 p4 p5)
      have hd5 : decide (sumL ys ≤ 30) = true := by simpa using p5
      clear p4
      go_enter Tryd.func102, Tryd.ntmps102
      go_wp2_with fail
      go_quiet ((first | (go_at_call_of 110 (Value.slice A1 n1 c1); exact quiet_bk (specParts_any A1 n1 _ xs _ ((ha1.alloc _).drewN _) h1)) | (go_at_call_of 110 (Value.slice A2 n2 c2); exact quiet_bk (specParts_any A2 n2 _ ys _ ((ha2.alloc _).drewN _) h2)) | (go_at_call_of 111 (Value.slice A1 n1 c1); exact quiet_bk (specAll_any A1 n1 _ xs _ ((ha1.alloc _).drewN _) HS1.out hx1)) | (go_at_call_of 111 (Value.slice A2 n2 c2); exact quiet_bk (specAll_any A2 n2 _ ys _ ((ha2.alloc _).drewN _) HS2.out hx2))))
      go_wp2; go_ret; exact ⟨by simp [HF.out], ((Keeps.refl _ _).alloc _).drewN _⟩
     ·have HF := hH (okB_5 (xs := xs) (L := L) p5)
      have hd5 : decide (sumL ys ≤ 30) = false := by simpa using p5
      clear p4
      go_enter Tryd.func102, Tryd.ntmps102
      go_wp2_with fail
      go_quiet ((first | (go_at_call_of 110 (Value.slice A1 n1 c1); exact quiet_bk (specParts_any A1 n1 _ xs _ ((ha1.alloc _).drewN _) h1)) | (go_at_call_of 110 (Value.slice A2 n2 c2); exact quiet_bk (specParts_any A2 n2 _ ys _ ((ha2.alloc _).drewN _) h2)) | (go_at_call_of 111 (Value.slice A1 n1 c1); exact quiet_bk (specAll_any A1 n1 _ xs _ ((ha1.alloc _).drewN _) HS1.out hx1)) | (go_at_call_of 111 (Value.slice A2 n2 c2); exact quiet_bk (specAll_any A2 n2 _ ys _ ((ha2.alloc _).drewN _) HS2.out hx2))))
      go_wp2; go_ret; exact ⟨by simp [HF.out], ((Keeps.refl _ _).alloc _).drewN _⟩
    ·have HF := hH (okB_4 (ys := ys) p4)
     have hw : (IntKind.i64.wrap (sumL xs + L) == 30) = false := by
      rw [IntKind.wrap_i64]; simp
      omega
     clear p4
     go_enter Tryd.func102, Tryd.ntmps102
     go_wp2_with fail
     go_quiet ((first | (go_at_call_of 110 (Value.slice A1 n1 c1); exact quiet_bk (specParts_any A1 n1 _ xs _ ((ha1.alloc _).drewN _) h1)) | (go_at_call_of 110 (Value.slice A2 n2 c2); exact quiet_bk (specParts_any A2 n2 _ ys _ ((ha2.alloc _).drewN _) h2)) | (go_at_call_of 111 (Value.slice A1 n1 c1); exact quiet_bk (specAll_any A1 n1 _ xs _ ((ha1.alloc _).drewN _) HS1.out hx1)) | (go_at_call_of 111 (Value.slice A2 n2 c2); exact quiet_bk (specAll_any A2 n2 _ ys _ ((ha2.alloc _).drewN _) HS2.out hx2))))
     go_wp2; go_ret; exact ⟨by simp [HF.out], ((Keeps.refl _ _).alloc _).drewN _⟩
   ·have HF := hH (okB_3 (xs := xs) (ys := ys) p3)
    have hd : decide (0 ≤ L) = false := by simpa using p3
    clear hb1
    go_enter Tryd.func102, Tryd.ntmps102
    go_wp2_with fail
    go_quiet ((first | (go_at_call_of 110 (Value.slice A1 n1 c1); exact quiet_bk (specParts_any A1 n1 _ xs _ ((ha1.alloc _).drewN _) h1)) | (go_at_call_of 110 (Value.slice A2 n2 c2); exact quiet_bk (specParts_any A2 n2 _ ys _ ((ha2.alloc _).drewN _) h2))))
    go_wp2; go_ret; exact ⟨by simp [HF.out], ((Keeps.refl _ _).alloc _).drewN _⟩
  ·have q2 : partsB ys = false := Bool.eq_false_iff.2 p2
   have HF := hH (okB_2 (xs := xs) (L := L) q2); clear p2 hs1 hl1 hb1
   go_enter Tryd.func102, Tryd.ntmps102
   go_wp2_with fail
   go_quiet ((first | (go_at_call_of 110 (Value.slice A1 n1 c1); exact quiet_bk (specParts_any A1 n1 _ xs _ ((ha1.alloc _).drewN _) h1)) | (go_at_call_of 110 (Value.slice A2 n2 c2); exact quiet_bk (specParts_any A2 n2 _ ys _ ((ha2.alloc _).drewN _) h2))))
   go_wp2; go_ret; exact ⟨by simp [HF.out], ((Keeps.refl _ _).alloc _).drewN _⟩
 ·have q1 : partsB xs = false := Bool.eq_false_iff.2 p1
  have HF := hH (okB_1 (ys := ys) (L := L) q1); clear p1
  go_enter Tryd.func102, Tryd.ntmps102
  go_wp2_with fail
  go_quiet ((first | (go_at_call 110; exact quiet_bk (specParts_any A1 n1 _ xs _ ((ha1.alloc _).drewN _) h1))))
  go_wp2; go_ret; exact ⟨by simp [HF.out], ((Keeps.refl _ _).alloc _).drewN _⟩


theorem okB_parts {b : BankL} (h : okB b = true) : partsB b.own = true ∧ partsB b.notes = true ∧ 0 ≤ b.locked ∧ sumL b.own + b.locked = 30 ∧ sumL b.notes ≤ 30 := by
 simp [okB] at h; obtain ⟨⟨⟨⟨h1, h2⟩, h3⟩, h4⟩, h5⟩ := h; exact ⟨h1, h2, h3, h4, h5⟩

def kindB (k : Int) : Bool := decide (1 ≤ k) && decide (k ≤ 2)
def userB (u : Int) : Bool := decide (1 ≤ u) && decide (u ≤ 3)
def lst (b : BankL) (k : Int) : List Int := if k = 1 then b.own else b.notes
def put (b : BankL) (k : Int) (l : List Int) : BankL := if k = 1 then ⟨l, b.notes, b.locked⟩ else ⟨b.own, l, b.locked⟩
def has (b : BankL) (k u : Int) : Int := (lst b k).getD (u - 1).toNat 0
def moveOk (b : BankL) (k f t s : Int) : Bool := okB b && kindB k && userB f && userB t && decide (0 ≤ s) && decide (s ≤ has b k f)
def give (b : BankL) (k u s : Int) : BankL := put b k ((lst b k).set (u - 1).toNat (has b k u + s))
def moved (b : BankL) (k f t s : Int) : BankL := give (give b k f (-s)) k t s
def lock (b : BankL) (k s : Int) : BankL := if k = 1 then ⟨b.own, b.notes, b.locked + s⟩ else b
def awayed (b : BankL) (k f s : Int) : BankL := lock (give b k f (-s)) k s
def room (b : BankL) (k : Int) : Int := if k = 1 then b.locked else 30 - sumL b.notes
def backed (b : BankL) (k t s : Int) : BankL := lock (give b k t s) k (-s)

def noBank : Value := .agg #[.slice none 0 0, .slice none 0 0, .int .i64 0]
def RetB2 (w : World) (ok : Bool) (b : BankL) (e : Ending) (w' : World) : Prop :=
 (ok = true ∧ ∃ v, e = .returned (.tuple #[v, .bool true]) ∧ BankAt w' w.heap.size v b ∧ Keeps noBlk w w') ∨
 (ok = false ∧ e = .returned (.tuple #[noBank, .bool false]) ∧ Keeps noBlk w w')

theorem kind_cases {k : Int} (h : kindB k = true) : k = 1 ∨ k = 2 := by
 simp [kindB] at h
 omega
theorem user_range {u : Int} (h : userB u = true) : 1 ≤ u ∧ u ≤ 3 := by
 simp [userB] at h
 omega
theorem lst_len {b : BankL} (h : okB b = true) (k : Int) : (lst b k).length = 3 := by
 obtain ⟨p1, p2, _⟩ := okB_parts h; unfold lst
 split
 ·exact (parts_small p1).2
 ·exact (parts_small p2).2
theorem lst_small {b : BankL} (h : okB b = true) (k : Int) : Small (lst b k) := by
 obtain ⟨p1, p2, _⟩ := okB_parts h; unfold lst
 split
 ·exact (parts_small p1).1
 ·exact (parts_small p2).1
theorem has_bounds {b : BankL} (h : okB b = true) (k u : Int) : 0 ≤ has b k u ∧ has b k u ≤ 30 := by
 obtain ⟨p1, p2, _⟩ := okB_parts h
 have : ∀ xs : List Int, partsB xs = true → ∀ i : Nat, 0 ≤ xs.getD i 0 ∧ xs.getD i 0 ≤ 30 := by
  intro xs hp i; simp [partsB, List.all_eq_true, inB] at hp; rw [List.getD_eq_getElem?_getD]
  rcases hk : xs[i]? with _ | x
  ·simp
  ·exact hp.1 x (List.mem_of_getElem? hk)
 unfold has lst
 split
 ·exact this _ p1 _
 ·exact this _ p2 _
theorem locked_bounds {b : BankL} (h : okB b = true) : 0 ≤ b.locked ∧ b.locked ≤ 30 := by
 obtain ⟨p1, p2, h3, h4, _⟩ := okB_parts h; have := (parts_small p1).1.sum
 omega
theorem notes_bounds {b : BankL} (h : okB b = true) : 0 ≤ sumL b.notes ∧ sumL b.notes ≤ 30 := by
 obtain ⟨p1, p2, h3, h4, h5⟩ := okB_parts h; have := (parts_small p2).1.sum
 omega
end Go.Proofs.YtjcbeihoeanhaaaDoor
