/- lwInts, lwBank of the laws. -/
import Derived.Test.YtcnbephpadmboaaDoorUMem
import Derived.Test.YtcnbephpadmboaaDoorUni
set_option linter.unusedVariables false
set_option linter.unusedSimpArgs false
namespace Go.Proofs.YtcnbephpadmboaaDoor
open Go.RowKit

set_option maxHeartbeats 400000 in
theorem lwInts_any (A B : Option Addr) (n m c d : Nat) (xs ys : List Int) (w : World) (ha : Ints w A n xs) (hb : Ints w B m ys) (hn : n ≤ maxLen) (hm : m ≤ maxLen) :
    Calls Tryd.prog 24 #[.slice A n c, .slice B m d] w fun e w' => e = .returned (.bool (decide (xs = ys))) ∧ Qt w w' := by
  unfold maxLen at hn hm
  have hxl := Lib.hid ha.1
  have hyl := Lib.hid hb.1
  by_cases hnm : n = m
  · subst hnm
    go_enter Tryd.func24, Tryd.ntmps24
    go_wp2
    go_loopw [5] (fun i wr => ∃ k : Nat, k ≤ n ∧ i = .int .i64 k ∧ xs.take k = ys.take k ∧ Qt w wr) (fun i _ => n - (intOf i).toNat)
    case atStart => exact ⟨0, Nat.zero_le _, rfl, rfl, Qt.refl _⟩
    case round =>
      obtain ⟨k, hk, rfl, htk, q, rfl⟩ := hrel
      have Htk := Lib.hid htk
      clear htk
      by_cases hlt : k < n
      · obtain ⟨b1, o1, rfl, _, hc1⟩ := ha.at_ hlt
        obtain ⟨b2, o2, rfl, _, hc2⟩ := hb.at_ hlt
        clear ha hb
        go_wp2
        go_quiet (fail)
        go_wp2
        · go_ret
          refine ⟨?_, (Qt.of _ _).drewN _⟩
          have hne : (xs[k]?.getD 0 != ys[k]?.getD 0) = true := by assumption
          have hx : ¬ xs = ys := fun h => by rw [h] at hne; simp at hne
          simp [hx]
        · have hne : (xs[k]?.getD 0 != ys[k]?.getD 0) = false := by assumption
          go_roundw
          case rel => exact ⟨k + 1, by omega, by go_num, take_eq_step Htk.out (by rw [hxl.out]; exact hlt) (by rw [hyl.out]; exact hlt) (by simpa [List.getD_eq_getElem?_getD] using hne), Qt.of _ _⟩
          case measure => simp [intOf]; omega
      · go_wp2
        go_ret
        refine ⟨?_, Qt.of _ _⟩
        have := Htk.out
        rw [List.take_of_length_le (by rw [hxl.out]; omega), List.take_of_length_le (by rw [hyl.out]; omega)] at this
        simp [this]
  · have hne : ((n : Int) != (m : Int)) = true := by simp; omega
    go_enter Tryd.func24, Tryd.ntmps24
    go_wp2
    go_ret
    refine ⟨?_, Qt.refl _⟩
    have hx : ¬ xs = ys := fun h => hnm (by rw [← hxl.out, ← hyl.out, h])
    simp [hx]

theorem lwInts_yes (A B : Option Addr) (n c d : Nat) (xs : List Int) (w : World) (ha : Ints w A n xs) (hb : Ints w B n xs) (hn : n ≤ maxLen) :
    Calls Tryd.prog 24 #[.slice A n c, .slice B n d] w fun e w' => e = .returned (.bool true) ∧ Qt w w' :=
  (lwInts_any A B n n c d xs xs w ha hb hn hn).mono fun e w' ⟨he, hq⟩ => ⟨by simpa using he, hq⟩

set_option maxHeartbeats 400000 in
theorem lwBank_yes (A1 A2 B1 B2 : Option Addr) (n1 n2 c1 c2 d1 d2 : Nat) (L : Int) (xs ys : List Int) (w : World)
    (ha1 : Ints w A1 n1 xs) (hb1 : Ints w B1 n1 xs) (ha2 : Ints w A2 n2 ys) (hb2 : Ints w B2 n2 ys) (h1 : n1 ≤ maxLen) (h2 : n2 ≤ maxLen) :
    Calls Tryd.prog 39 #[.agg #[.slice A1 n1 c1, .slice A2 n2 c2, .int .i64 L], .agg #[.slice B1 n1 d1, .slice B2 n2 d2, .int .i64 L]] w
      fun e w' => e = .returned (.bool true) ∧ Keeps noBlk w w' := by
  have hL : (L == L) = true := by simp
  go_enter Tryd.func39, Tryd.ntmps39
  go_wp2_with fail
  refine (lwInts_yes A1 B1 n1 _ _ xs _ ((ha1.alloc _).alloc _) ((hb1.alloc _).alloc _) h1).mono ?_
  rintro e w' ⟨rfl, q, rfl⟩
  go_wp2_with fail
  refine (lwInts_yes A2 B2 n2 _ _ ys _ (((ha2.alloc _).alloc _).drewN _) (((hb2.alloc _).alloc _).drewN _) h2).mono ?_
  rintro e w' ⟨rfl, q2, rfl⟩
  go_wp2
  go_ret
  exact ⟨rfl, (((Keeps.refl _ _).alloc _).alloc _).drewN _⟩
end Go.Proofs.YtcnbephpadmboaaDoor
