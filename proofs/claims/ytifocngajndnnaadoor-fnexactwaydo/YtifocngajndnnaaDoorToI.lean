/- szIntS, toIntS of the laws. -/
import Derived.Test.YtifocngajndnnaaDoorBnk
set_option linter.unusedVariables false
set_option linter.unusedSimpArgs false
namespace Go.Proofs.YtifocngajndnnaaDoor
open Go.RowKit

set_option maxHeartbeats 400000 in
theorem szIntS_yes (A : Option Addr) (n c : Nat) (left : Int) (w : World) (hn : (n : Int) ≤ left) (hl : left ≤ 1048576) :
    Calls Tryd.prog 47 #[.slice A n c, .int .i64 left] w fun e w' => e = .returned (.int .i64 (left - n)) ∧ w = w' := by
  have h0 : ¬ left - (n : Int) < 0 := by omega
  go_enter Tryd.func47, Tryd.ntmps47
  go_wp2
  go_ret
  exact ⟨rfl, rfl⟩
set_option maxHeartbeats 400000 in
theorem szIntS_no (A : Option Addr) (n c : Nat) (left : Int) (w : World) (hn : left < (n : Int)) (h0 : 0 ≤ left) (hm : n ≤ maxLen) :
    Calls Tryd.prog 47 #[.slice A n c, .int .i64 left] w fun e w' => e = .returned (.int .i64 (-1)) ∧ w = w' := by
  unfold maxLen at hm
  have h1 : left - (n : Int) < 0 := by omega
  go_enter Tryd.func47, Tryd.ntmps47
  go_wp2
  go_ret
  exact ⟨rfl, rfl⟩

/-- The first k of a row of noughts are as xs. -/
def filled (xs : List Int) (k : Nat) : List Int := xs.take k ++ List.replicate (xs.length - k) 0
theorem filled_zero (xs : List Int) : filled xs 0 = List.replicate xs.length 0 := by simp [filled]
theorem filled_all (xs : List Int) (k : Nat) (h : k = xs.length) : filled xs k = xs := by subst h; simp [filled]
theorem filled_step (xs : List Int) (k : Nat) (h : k < xs.length) : (filled xs k).set k (xs.getD k 0) = filled xs (k + 1) := by
  unfold filled
  apply List.ext_getElem?
  intro j
  rw [List.getElem?_set]
  by_cases hj : k = j
  · subst hj
    rw [if_pos rfl, if_pos (by simp; omega), List.getElem?_append_left (by simp; omega), List.getElem?_take_of_lt (by omega), List.getD_eq_getElem?_getD, List.getElem?_eq_getElem h]
    rfl
  · rw [if_neg hj]
    by_cases hlt : j < k
    · rw [List.getElem?_append_left (by simp; omega), List.getElem?_append_left (by simp; omega), List.getElem?_take_of_lt hlt, List.getElem?_take_of_lt (by omega)]
    · rw [List.getElem?_append_right (by simp; omega), List.getElem?_append_right (by simp; omega)]
      simp only [List.length_take, List.getElem?_replicate]
      have e1 : min k xs.length = k := by omega
      have e2 : min (k + 1) xs.length = k + 1 := by omega
      rw [e1, e2]
      by_cases hx : j < xs.length
      · rw [if_pos (by omega), if_pos (by omega)]
      · rw [if_neg (by omega), if_neg (by omega)]

def RetRow (w : World) (xs : List Int) (e : Ending) (w' : World) : Prop :=
  ∃ A, e = .returned (.slice A xs.length xs.length) ∧ Row w' w.heap.size A xs.length xs ∧ Keeps noBlk w w'

set_option maxHeartbeats 400000 in
theorem toIntS_any (A : Option Addr) (n c : Nat) (xs : List Int) (w : World) (ha : Ints w A n xs) (hn : n ≤ 1048576) :
    Calls Tryd.prog 51 #[.slice A n c] w (RetRow w xs) := by
  obtain rfl : xs.length = n := ha.1
  have hmk := run_make_row' (P := Tryd.prog) 24 3 (.int .i64 0) 8 Tryd.underlying24 info_int rfl .i64 .i64 xs.length (by omega) (by omega)
  have HA := Lib.hid ha
  clear ha
  go_enter Tryd.func51, Tryd.ntmps51
  go_wp2
  go_loopw [4] (fun i wr => ∃ k : Nat, k ≤ xs.length ∧ i = .int .i64 k ∧ Row wr w.heap.size (some ⟨w.heap.size, 0, none⟩) xs.length (filled xs k) ∧ Keeps noBlk w wr) (fun i _ => xs.length - (intOf i).toNat)
  case atStart => exact ⟨0, Nat.zero_le _, rfl, Row.made' _ _ _ rfl (Nat.le_refl _) _ _ _ _ (by simp [filled]) (by rw [filled_zero]; exact made_ints _), (Keeps.refl _ _).alloc _⟩
  case round =>
    obtain ⟨k, hk, rfl, hr, hkp⟩ := hrel
    by_cases hlt : k < xs.length
    · obtain ⟨b1, o1, e1, _, _, hc1, hf1⟩ := hr.at_ hlt
      injection e1 with e1
      injection e1 with e1 e2
      subst e1
      subst e2
      obtain ⟨b2, o2, rfl, _, hc2⟩ := (HA.out.keeps hkp fun _ _ h => h).at_ hlt
      have Hr := Lib.hid hr
      have Hkp := Lib.hid hkp
      clear hr hkp
      rw [Nat.zero_add] at hc1 hf1
      have hst := Lib.hid (filled_step xs k hlt)
      generalize xs.getD k 0 = y at hc2 hst
      go_wp2
      go_roundw
      case rel => exact ⟨k + 1, by omega, by go_num, by rw [← hst.out]; simpa using Hr.out.set_ hlt y, Hkp.out.setCell (.inl (Nat.le_refl _)) _⟩
      case measure => simp [intOf]; omega
    · obtain he : k = xs.length := by omega
      have Hr : Hid (Row wr w.heap.size (some ⟨w.heap.size, 0, none⟩) xs.length xs) := by
        have := hr
        rw [filled_all xs k he] at this
        exact this
      clear he
      go_wp2
      go_ret
      exact ⟨_, rfl, Hr.out, hkp⟩

end Go.Proofs.YtifocngajndnnaaDoor
