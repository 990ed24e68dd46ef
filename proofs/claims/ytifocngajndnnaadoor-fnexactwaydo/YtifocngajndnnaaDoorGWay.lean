/- l3Live, l11May, l11Do of the model: what a channel end may do, and what it becomes. -/
import Derived.Test.YtifocngajndnnaaDoorGSt
import Derived.Test.YtifocngajndnnaaDoorSS
set_option linter.unusedVariables false
set_option linter.unusedSimpArgs false
namespace Go.Proofs.YtifocngajndnnaaDoor
open Go.RowKit

/-- How many of a list are true. -/
def cntT : List Bool → Nat
  | [] => 0
  | b :: l => (if b = true then 1 else 0) + cntT l
def liveN (x : StL) : Nat := cntT x.live
theorem cntT_take_step {l : List Bool} {k : Nat} (h : k < l.length) : cntT (l.take (k + 1)) = cntT (l.take k) + (if l.getD k false = true then 1 else 0) := by
  induction l generalizing k with
  | nil => simp at h
  | cons a l ih =>
    cases k with
    | zero => simp [cntT]
    | succ k =>
      have := ih (k := k) (by simpa using h)
      simp only [List.take_succ_cons, cntT, List.getD_cons_succ]
      omega
theorem cntT_le (l : List Bool) : cntT l ≤ l.length := by
  induction l with
  | nil => simp [cntT]
  | cons a l ih =>
    simp only [cntT, List.length_cons]
    split <;> omega

set_option maxHeartbeats 1000000 in
theorem l3Live_eq (x : StL) (A1 A2 A3 A4 : Option Addr) (c1 c2 c3 c4 : Nat) (w : World) (hx : StAt w x A1 A2 A3 A4) :
    Calls Tryd.prog 78 #[stV x A1 A2 A3 A4 c1 c2 c3 c4] w fun e w' => e = .returned (.int .i64 (liveN x)) ∧ w' = w.alloc (.cells #[.int .i64 x.way, .int .i64 x.ver, .int .i64 x.want, .slice A1 x.sent.length c1, .slice A2 x.live.length c2, .slice A3 x.back.length c3, .slice A4 x.got.length c4] 31) := by
  have HX := Lib.hid (hx.alloc (.cells #[.int .i64 x.way, .int .i64 x.ver, .int .i64 x.want, .slice A1 x.sent.length c1, .slice A2 x.live.length c2, .slice A3 x.back.length c3, .slice A4 x.got.length c4] 31))
  have hm := hx.2.2.1
  unfold maxLen at hm
  clear hx
  have hb := Box.new w _ rfl 31 #[.int .i64 x.way, .int .i64 x.ver, .int .i64 x.want, .slice A1 x.sent.length c1, .slice A2 x.live.length c2, .slice A3 x.back.length c3, .slice A4 x.got.length c4]
  have a4 : (w.alloc (.cells #[.int .i64 x.way, .int .i64 x.ver, .int .i64 x.want, .slice A1 x.sent.length c1, .slice A2 x.live.length c2, .slice A3 x.back.length c3, .slice A4 x.got.length c4] 31)).cell? ⟨w.heap.size, 4, none⟩ = some (.slice A2 x.live.length c2) := hb.cell 4
  clear hb
  unfold stV
  go_enter Tryd.func78, Tryd.ntmps78
  go_wp2
  generalize hW : (w.alloc (.cells #[.int .i64 x.way, .int .i64 x.ver, .int .i64 x.want, .slice A1 x.sent.length c1, .slice A2 x.live.length c2, .slice A3 x.back.length c3, .slice A4 x.got.length c4] 31)) = W at HX a4
  have HW := Lib.hid hW
  clear hW
  go_loopw [3, 4] (fun n i wr => ∃ k : Nat, k ≤ x.live.length ∧ i = .int .i64 k ∧ n = .int .i64 (cntT (x.live.take k) : Nat) ∧ wr = W) (fun _ i _ => x.live.length - (intOf i).toNat)
  case atStart => exact ⟨0, Nat.zero_le _, rfl, rfl, rfl⟩
  case round =>
    obtain ⟨k, hk, rfl, rfl, rfl⟩ := hrel
    have hc := cntT_le (x.live.take k)
    have hc2 : (x.live.take k).length ≤ k := List.length_take_le _ _
    by_cases hlt : k < x.live.length
    · have HS := Lib.hid (cntT_take_step hlt)
      obtain ⟨b2, off2, rfl, e2, d2⟩ := HX.out.1.2.1.at_ hlt
      generalize x.live.getD k false = lv at d2 HS
      generalize cntT (x.live.take k) = c at hc HS
      have hcb : (c : Int) ≤ 9223372036854775806 := by omega
      clear hc2
      cases lv with
      | true =>
        go_wp2
        refine ⟨⟨k + 1, by omega, by go_num, ?_, trivial⟩, by simp [intOf]; omega⟩
        rw [HS.out]
        simp
      | false =>
        go_wp2
        refine ⟨⟨k + 1, by omega, by go_num, ?_, trivial⟩, by simp [intOf]; omega⟩
        rw [HS.out]
        simp
    · obtain rfl : k = x.live.length := by omega
      go_wp2
      go_ret
      exact ⟨by simp [liveN], HW.out.symm⟩

/-- Whether a step may be done. -/
def mayB (x y : StL) (k : Int) : Bool :=
  if k = 1 then decide (x.way = 0) else if k = 2 then decide (x.way ≤ 1 ∧ (y.way = 1 ∨ y.way = 2)) else if k = 3 then decide (x.way = 1 ∧ 2 ≤ y.way) else
  if k = 4 then decide (x.way = 2 ∧ 2 ≤ y.way) else if k = 5 then decide (x.way = 3 ∧ x.ver < 9) else if k = 6 then decide (x.way = 3 ∧ y.way = 4 ∧ y.want = x.ver + 1) else
  if k = 7 then decide (x.way = 4 ∧ liveN x = 0 ∧ ((y.way = 4 ∧ y.want = x.want ∧ liveN y = 0) ∨ y.ver = x.want)) else false
end Go.Proofs.YtifocngajndnnaaDoor
