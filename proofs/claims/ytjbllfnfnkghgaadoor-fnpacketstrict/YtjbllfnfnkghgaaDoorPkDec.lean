/- spec.l2Dec: one figure, or two. -/
import Derived.Test.YtjbllfnfnkghgaaDoorPkTh3
set_option linter.unusedVariables false
set_option linter.unusedSimpArgs false
namespace Go.Proofs.YtjbllfnfnkghgaaDoor
open Go.RowKit

def isFig (a : UInt8) : Prop := 48 ≤ a.toNat ∧ a.toNat ≤ 57
instance (a : UInt8) : Decidable (isFig a) := by unfold isFig; infer_instance
def nd : List UInt8 → Int
  | [a] => if isFig a then (a.toNat : Int) - 48 else -1
  | [a, b] => if isFig a ∧ isFig b then 10 * ((a.toNat : Int) - 48) + ((b.toNat : Int) - 48) else -1
  | _ => -1

set_option maxRecDepth 100000 in
set_option maxHeartbeats 1000000 in
theorem l2Dec_bad (x : List UInt8) (hx : x.length ≤ 1000) (h : in2 (x.length : Int) 1 2 = false) (w : World) :
    Calls Tryd.prog 34 #[.string ⟨x.toArray⟩] w fun e w' => e = .returned (.int .i64 (-1)) ∧ w = w' := by
  have HF := Lib.hid (fun W => (show Calls Tryd.prog 35 #[.int .i64 (x.length : Int), .int .i64 1, .int .i64 2] W (fun e w' => e = .returned (.bool false) ∧ W = w') from by rw [← h]; exact l6In_any _ _ _ W))
  clear h
  go_enter Tryd.func34, Tryd.ntmps34
  go_wp2_with fail
  refine (HF.out _).mono ?_
  rintro e w' ⟨rfl, rfl⟩
  go_wp2
  go_ret
  exact ⟨rfl, rfl⟩

set_option maxRecDepth 100000 in
set_option maxHeartbeats 4000000 in
theorem l2Dec_1 (a : UInt8) (w : World) : Calls Tryd.prog 34 #[.string ⟨#[a]⟩] w fun e w' => e = .returned (.int .i64 (nd [a])) ∧ w = w' := by
  have HIN := Lib.hid (fun W => (show Calls Tryd.prog 35 #[.int .i64 1, .int .i64 1, .int .i64 2] W (fun e w' => e = .returned (.bool true) ∧ W = w') from l6In_any 1 1 2 W))
  have x0 : (⟨#[a]⟩ : ByteArray)[0]'(by simp [ByteArray.size]) = a := rfl
  have bb : a.toNat < 256 := a.toNat_lt
  by_cases ha : (a.toNat : Int) < 48
  · skip
    have da : decide ((a.toNat : Int) < 48) = true := by simpa using ha
    have HN := Lib.hid (show nd [a] = -1 from if_neg (fun h => by have := h.1; omega))
    go_enter Tryd.func34, Tryd.ntmps34
    go_wp2_with (go_at_call 35; refine (HIN.out _).mono ?_; rintro e w' ⟨rfl, rfl⟩)
    refine wp_loop_rounds 1 ?_
    rw [rounds_succ]
    go_wp2
    go_ret
    exact ⟨by simp [HN.out], rfl⟩
  · by_cases ka : 57 < (a.toNat : Int)
    · skip
      have da : decide ((a.toNat : Int) < 48) = false := by simpa using ha
      have ea : decide (57 < (a.toNat : Int)) = true := by simpa using ka
      have HN := Lib.hid (show nd [a] = -1 from if_neg (fun h => by have := h.2; omega))
      go_enter Tryd.func34, Tryd.ntmps34
      go_wp2_with (go_at_call 35; refine (HIN.out _).mono ?_; rintro e w' ⟨rfl, rfl⟩)
      refine wp_loop_rounds 1 ?_
      rw [rounds_succ]
      go_wp2
      go_ret
      exact ⟨by simp [HN.out], rfl⟩
    · skip
      have da : decide ((a.toNat : Int) < 48) = false := by simpa using ha
      have ea : decide (57 < (a.toNat : Int)) = false := by simpa using ka
      have HN := Lib.hid (show nd [a] = (a.toNat : Int) - 48 from if_pos ⟨by omega, by omega⟩)
      go_enter Tryd.func34, Tryd.ntmps34
      go_wp2_with (go_at_call 35; refine (HIN.out _).mono ?_; rintro e w' ⟨rfl, rfl⟩)
      refine wp_loop_rounds 2 ?_
      rw [rounds_succ]
      go_wp2
      rw [rounds_succ]
      go_wp2
      go_ret
      exact ⟨by simp [HN.out], rfl⟩

set_option maxRecDepth 100000 in
set_option maxHeartbeats 4000000 in
theorem l2Dec_2 (a b : UInt8) (w : World) : Calls Tryd.prog 34 #[.string ⟨#[a, b]⟩] w fun e w' => e = .returned (.int .i64 (nd [a, b])) ∧ w = w' := by
  have HIN := Lib.hid (fun W => (show Calls Tryd.prog 35 #[.int .i64 2, .int .i64 1, .int .i64 2] W (fun e w' => e = .returned (.bool true) ∧ W = w') from l6In_any 2 1 2 W))
  have x0 : (⟨#[a, b]⟩ : ByteArray)[0]'(by simp [ByteArray.size]) = a := rfl
  have x1 : (⟨#[a, b]⟩ : ByteArray)[1]'(by simp [ByteArray.size]) = b := rfl
  have bb : a.toNat < 256 := a.toNat_lt
  have bc : b.toNat < 256 := b.toNat_lt
  by_cases ha : (a.toNat : Int) < 48
  · skip
    have da : decide ((a.toNat : Int) < 48) = true := by simpa using ha
    have HN := Lib.hid (show nd [a, b] = -1 from if_neg (fun h => by have := h.1.1; omega))
    go_enter Tryd.func34, Tryd.ntmps34
    go_wp2_with (go_at_call 35; refine (HIN.out _).mono ?_; rintro e w' ⟨rfl, rfl⟩)
    refine wp_loop_rounds 1 ?_
    rw [rounds_succ]
    go_wp2
    go_ret
    exact ⟨by simp [HN.out], rfl⟩
  · by_cases ka : 57 < (a.toNat : Int)
    · skip
      have da : decide ((a.toNat : Int) < 48) = false := by simpa using ha
      have ea : decide (57 < (a.toNat : Int)) = true := by simpa using ka
      have HN := Lib.hid (show nd [a, b] = -1 from if_neg (fun h => by have := h.1.2; omega))
      go_enter Tryd.func34, Tryd.ntmps34
      go_wp2_with (go_at_call 35; refine (HIN.out _).mono ?_; rintro e w' ⟨rfl, rfl⟩)
      refine wp_loop_rounds 1 ?_
      rw [rounds_succ]
      go_wp2
      go_ret
      exact ⟨by simp [HN.out], rfl⟩
    · by_cases hb : (b.toNat : Int) < 48
      · skip
        have da : decide ((a.toNat : Int) < 48) = false := by simpa using ha
        have ea : decide (57 < (a.toNat : Int)) = false := by simpa using ka
        have db : decide ((b.toNat : Int) < 48) = true := by simpa using hb
        have HN := Lib.hid (show nd [a, b] = -1 from if_neg (fun h => by have := h.2.1; omega))
        go_enter Tryd.func34, Tryd.ntmps34
        go_wp2_with (go_at_call 35; refine (HIN.out _).mono ?_; rintro e w' ⟨rfl, rfl⟩)
        refine wp_loop_rounds 2 ?_
        rw [rounds_succ]
        go_wp2
        rw [rounds_succ]
        go_wp2
        go_ret
        exact ⟨by simp [HN.out], rfl⟩
      · by_cases kb : 57 < (b.toNat : Int)
        · skip
          have da : decide ((a.toNat : Int) < 48) = false := by simpa using ha
          have ea : decide (57 < (a.toNat : Int)) = false := by simpa using ka
          have db : decide ((b.toNat : Int) < 48) = false := by simpa using hb
          have eb : decide (57 < (b.toNat : Int)) = true := by simpa using kb
          have HN := Lib.hid (show nd [a, b] = -1 from if_neg (fun h => by have := h.2.2; omega))
          go_enter Tryd.func34, Tryd.ntmps34
          go_wp2_with (go_at_call 35; refine (HIN.out _).mono ?_; rintro e w' ⟨rfl, rfl⟩)
          refine wp_loop_rounds 2 ?_
          rw [rounds_succ]
          go_wp2
          rw [rounds_succ]
          go_wp2
          go_ret
          exact ⟨by simp [HN.out], rfl⟩
        · skip
          have da : decide ((a.toNat : Int) < 48) = false := by simpa using ha
          have ea : decide (57 < (a.toNat : Int)) = false := by simpa using ka
          have db : decide ((b.toNat : Int) < 48) = false := by simpa using hb
          have eb : decide (57 < (b.toNat : Int)) = false := by simpa using kb
          have HN := Lib.hid (show nd [a, b] = 10 * ((a.toNat : Int) - 48) + ((b.toNat : Int) - 48) from if_pos ⟨⟨by omega, by omega⟩, ⟨by omega, by omega⟩⟩)
          go_enter Tryd.func34, Tryd.ntmps34
          go_wp2_with (go_at_call 35; refine (HIN.out _).mono ?_; rintro e w' ⟨rfl, rfl⟩)
          refine wp_loop_rounds 3 ?_
          rw [rounds_succ]
          go_wp2
          rw [rounds_succ]
          go_wp2
          rw [rounds_succ]
          go_wp2
          go_ret
          exact ⟨by simp [HN.out], rfl⟩

theorem l2Dec_any (x : List UInt8) (hx : x.length ≤ 1000) (w : World) : Calls Tryd.prog 34 #[.string ⟨x.toArray⟩] w fun e w' => e = .returned (.int .i64 (nd x)) ∧ w = w' := by
  match x with
  | [] => exact l2Dec_bad [] hx rfl w
  | [a] => exact l2Dec_1 a w
  | [a, b] => exact l2Dec_2 a b w
  | a :: b :: c :: r => exact l2Dec_bad _ hx (in2_hi (by simp only [List.length_cons]; omega)) w
end Go.Proofs.YtjbllfnfnkghgaaDoor
