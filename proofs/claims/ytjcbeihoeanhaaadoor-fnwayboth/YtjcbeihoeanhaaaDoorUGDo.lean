/- l3Live, l11May, l11Do of the model: what a channel end may do, and what it becomes. l11May, l11Do, WayMay, WayNext of the model. l11Do, WayMay, WayNext of the model. -/
import Derived.Test.YtjcbeihoeanhaaaDoorUGh
import Derived.Test.YtjcbeihoeanhaaaDoorSS
set_option maxRecDepth 100000
set_option maxHeartbeats 2000000
set_option linter.unusedVariables false
set_option linter.unusedSimpArgs false
/-! GWay -/
namespace Go.Proofs.YtjcbeihoeanhaaaDoor
open Go.RowKit

def cntT : List Bool → Nat
 | [] => 0
 | b :: l => (if b = true then 1 else 0) + cntT l
def liveN (x : StL) : Nat := cntT x.live
theorem cntT_take_step {l : List Bool} {k : Nat} (h : k < l.length) : cntT (l.take (k + 1)) = cntT (l.take k) + (if l.getD k false = true then 1 else 0) := by
 induction l generalizing k with
 | nil => simp at h
 | cons a l ih =>
  cases k with
  | zero => simp [cntT]
  | succ k =>
   have := ih (k := k) (by simpa using h); simp only [List.take_succ_cons, cntT, List.getD_cons_succ]
   omega
theorem cntT_le (l : List Bool) : cntT l ≤ l.length := by
 induction l with
 | nil => simp [cntT]
 | cons a l ih =>
  simp only [cntT, List.length_cons]
  split <;> omega

theorem l3Live_eq (x : StL) (A1 A2 A3 A4 : Option Addr) (c1 c2 c3 c4 : Nat) (w : World) (hx : StAt w x A1 A2 A3 A4) :
  Calls Tryd.prog 76 #[stV x A1 A2 A3 A4 c1 c2 c3 c4] w fun e w' => e = .returned (.int .i64 (liveN x)) ∧ w' = w.alloc (.cells #[.int .i64 x.way, .int .i64 x.ver, .int .i64 x.want, .slice A1 x.sent.length c1, .slice A2 x.live.length c2, .slice A3 x.back.length c3, .slice A4 x.got.length c4] 27) := by
 have HX := hH (hx.alloc (.cells (stC x A1 A2 A3 A4 c1 c2 c3 c4) 27)); have hm := hx.2.2.1; unfold maxLen at hm; clear hx; have hb := Box.new w _ rfl 27 (stC x A1 A2 A3 A4 c1 c2 c3 c4); have a4 : (w.alloc (.cells (stC x A1 A2 A3 A4 c1 c2 c3 c4) 27)).cell? ⟨w.heap.size, 4, none⟩ = some (.slice A2 x.live.length c2) := hb.cell 4; clear hb; unfold stV
 go_enter Tryd.func76, Tryd.ntmps76
 go_wp2; generalize hW : (w.alloc (.cells (stC x A1 A2 A3 A4 c1 c2 c3 c4) 27)) = W at HX a4; have HW := hH hW; clear hW
 go_loopw [3, 4] (fun n i wr => ∃ k : Nat, k ≤ x.live.length ∧ i = .int .i64 k ∧ n = .int .i64 (cntT (x.live.take k) : Nat) ∧ wr = W) (fun _ i _ => x.live.length - (intOf i).toNat)
 case atStart => exact ⟨0, Nat.zero_le _, rfl, rfl, rfl⟩
 case round =>
  obtain ⟨k, hk, rfl, rfl, rfl⟩ := hrel; have hc := cntT_le (x.live.take k); have hc2 : (x.live.take k).length ≤ k := List.length_take_le _ _
  by_cases hlt : k < x.live.length
  ·have HS := hH (cntT_take_step hlt)
   obtain ⟨b2, off2, rfl, e2, d2⟩ := HX.out.1.2.1.at_ hlt; generalize x.live.getD k false = lv at d2 HS; generalize cntT (x.live.take k) = c at hc HS
   have hcb : (c : Int) ≤ 9223372036854775806 := by omega
   clear hc2
   cases lv with
   | true =>
    go_wp2; refine ⟨⟨k + 1, by omega, by go_num, ?_, trivial⟩, by simp [intOf]; omega⟩; rw [HS.out]; simp
   | false =>
    go_wp2; refine ⟨⟨k + 1, by omega, by go_num, ?_, trivial⟩, by simp [intOf]; omega⟩; rw [HS.out]; simp
  ·obtain rfl : k = x.live.length := by omega
   go_wp2; go_ret; exact ⟨by simp [liveN], HW.out.symm⟩

def mayB (x y : StL) (k : Int) : Bool :=
 if k = 1 then decide (x.way = 0) else if k = 2 then decide (x.way ≤ 1 ∧ (y.way = 1 ∨ y.way = 2)) else if k = 3 then decide (x.way = 1 ∧ 2 ≤ y.way) else
 if k = 4 then decide (x.way = 2 ∧ 2 ≤ y.way) else if k = 5 then decide (x.way = 3 ∧ x.ver < 9) else if k = 6 then decide (x.way = 3 ∧ y.way = 4 ∧ y.want = x.ver + 1) else
 if k = 7 then decide (x.way = 4 ∧ liveN x = 0 ∧ ((y.way = 4 ∧ y.want = x.want ∧ liveN y = 0) ∨ y.ver = x.want)) else false

theorem l11May_1 (x y : StL) (A1 A2 A3 A4 B1 B2 B3 B4 : Option Addr) (c1 c2 c3 c4 d1 d2 d3 d4 : Nat) (w : World) (hx : StAt w x A1 A2 A3 A4) (hy : StAt w y B1 B2 B3 B4) (hv : -100 ≤ x.ver ∧ x.ver ≤ 100) :
  Calls Tryd.prog 59 #[stV x A1 A2 A3 A4 c1 c2 c3 c4, stV y B1 B2 B3 B4 d1 d2 d3 d4, .int .i64 1] w fun e w' => e = .returned (.bool (mayB x y 1)) ∧ Keeps noBlk w w' := by
 have HX := hH ((hx.alloc (.cells (stC x A1 A2 A3 A4 c1 c2 c3 c4) 27)).alloc (.cells (stC y B1 B2 B3 B4 d1 d2 d3 d4) 27)); have HY := hH ((hy.alloc (.cells (stC x A1 A2 A3 A4 c1 c2 c3 c4) 27)).alloc (.cells (stC y B1 B2 B3 B4 d1 d2 d3 d4) 27)); have HLX := hH (fun W (h : StAt W x A1 A2 A3 A4) => l3Live_eq x A1 A2 A3 A4 c1 c2 c3 c4 W h); have HLY := hH (fun W (h : StAt W y B1 B2 B3 B4) => l3Live_eq y B1 B2 B3 B4 d1 d2 d3 d4 W h); have HK := hH (((Keeps.refl noBlk w).alloc (.cells (stC x A1 A2 A3 A4 c1 c2 c3 c4) 27)).alloc (.cells (stC y B1 B2 B3 B4 d1 d2 d3 d4) 27)); have hbx := (Box.new w _ rfl 27 (stC x A1 A2 A3 A4 c1 c2 c3 c4)).alloc (.cells (stC y B1 B2 B3 B4 d1 d2 d3 d4) 27); have hby := Box.new (w.alloc (.cells (stC x A1 A2 A3 A4 c1 c2 c3 c4) 27)) (w.heap.size + 1) (by simp) 27 (stC y B1 B2 B3 B4 d1 d2 d3 d4)
 have hz : w.heap.size + 1 < ((w.alloc (.cells (stC x A1 A2 A3 A4 c1 c2 c3 c4) 27)).alloc (.cells (stC y B1 B2 B3 B4 d1 d2 d3 d4) 27)).heap.size := by simp
 clear hx hy; unfold stV at HLX HLY ⊢
 go_enter Tryd.func59, Tryd.ntmps59
 by_cases q0 : x.way = 0
 ·have eq0 : (x.way == 0) = true := by simp [q0]
  have HF := hH (show mayB x y 1 = true by simp [mayB, q0]); clear q0; have TX : True := trivial
  go_wp2_with (first | (clear TX; go_at_call 76; refine (HLX.out _ HX.out).mono ?_; rintro e w' ⟨rfl, rfl⟩) | (go_at_call 76; refine (HLY.out _ (HY.out.alloc _)).mono ?_; rintro e w' ⟨rfl, rfl⟩))
  go_ret; exact ⟨by simp [HF.out], by first | exact HK.out | exact HK.out.alloc _ | exact (HK.out.alloc _).alloc _⟩
 ·have eq0 : (x.way == 0) = false := by simp [q0]
  have HF := hH (show mayB x y 1 = false by simp [mayB, q0]); clear q0; have TX : True := trivial
  go_wp2_with (first | (clear TX; go_at_call 76; refine (HLX.out _ HX.out).mono ?_; rintro e w' ⟨rfl, rfl⟩) | (go_at_call 76; refine (HLY.out _ (HY.out.alloc _)).mono ?_; rintro e w' ⟨rfl, rfl⟩))
  go_ret; exact ⟨by simp [HF.out], by first | exact HK.out | exact HK.out.alloc _ | exact (HK.out.alloc _).alloc _⟩
theorem l11May_2 (x y : StL) (A1 A2 A3 A4 B1 B2 B3 B4 : Option Addr) (c1 c2 c3 c4 d1 d2 d3 d4 : Nat) (w : World) (hx : StAt w x A1 A2 A3 A4) (hy : StAt w y B1 B2 B3 B4) (hv : -100 ≤ x.ver ∧ x.ver ≤ 100) :
  Calls Tryd.prog 59 #[stV x A1 A2 A3 A4 c1 c2 c3 c4, stV y B1 B2 B3 B4 d1 d2 d3 d4, .int .i64 2] w fun e w' => e = .returned (.bool (mayB x y 2)) ∧ Keeps noBlk w w' := by
 have HX := hH ((hx.alloc (.cells (stC x A1 A2 A3 A4 c1 c2 c3 c4) 27)).alloc (.cells (stC y B1 B2 B3 B4 d1 d2 d3 d4) 27)); have HY := hH ((hy.alloc (.cells (stC x A1 A2 A3 A4 c1 c2 c3 c4) 27)).alloc (.cells (stC y B1 B2 B3 B4 d1 d2 d3 d4) 27)); have HLX := hH (fun W (h : StAt W x A1 A2 A3 A4) => l3Live_eq x A1 A2 A3 A4 c1 c2 c3 c4 W h); have HLY := hH (fun W (h : StAt W y B1 B2 B3 B4) => l3Live_eq y B1 B2 B3 B4 d1 d2 d3 d4 W h); have HK := hH (((Keeps.refl noBlk w).alloc (.cells (stC x A1 A2 A3 A4 c1 c2 c3 c4) 27)).alloc (.cells (stC y B1 B2 B3 B4 d1 d2 d3 d4) 27)); have hbx := (Box.new w _ rfl 27 (stC x A1 A2 A3 A4 c1 c2 c3 c4)).alloc (.cells (stC y B1 B2 B3 B4 d1 d2 d3 d4) 27); have hby := Box.new (w.alloc (.cells (stC x A1 A2 A3 A4 c1 c2 c3 c4) 27)) (w.heap.size + 1) (by simp) 27 (stC y B1 B2 B3 B4 d1 d2 d3 d4)
 have hz : w.heap.size + 1 < ((w.alloc (.cells (stC x A1 A2 A3 A4 c1 c2 c3 c4) 27)).alloc (.cells (stC y B1 B2 B3 B4 d1 d2 d3 d4) 27)).heap.size := by simp
 clear hx hy; unfold stV at HLX HLY ⊢
 go_enter Tryd.func59, Tryd.ntmps59
 by_cases q0 : x.way ≤ 1
 ·have eq0 : decide (x.way ≤ 1) = true := by simp [q0]
  by_cases q1 : y.way = 1
  ·have eq1 : (y.way == 1) = true := by simp [q1]
   have HF := hH (show mayB x y 2 = true by simp [mayB, q0, q1]); clear q0 q1; have TX : True := trivial
   go_wp2_with (first | (clear TX; go_at_call 76; refine (HLX.out _ HX.out).mono ?_; rintro e w' ⟨rfl, rfl⟩) | (go_at_call 76; refine (HLY.out _ (HY.out.alloc _)).mono ?_; rintro e w' ⟨rfl, rfl⟩))
   go_ret; exact ⟨by simp [HF.out], by first | exact HK.out | exact HK.out.alloc _ | exact (HK.out.alloc _).alloc _⟩
  ·have eq1 : (y.way == 1) = false := by simp [q1]
   by_cases q2 : y.way = 2
   ·have eq2 : (y.way == 2) = true := by simp [q2]
    have HF := hH (show mayB x y 2 = true by simp [mayB, q0, q1, q2]); clear q0 q1 q2; have TX : True := trivial
    go_wp2_with (first | (clear TX; go_at_call 76; refine (HLX.out _ HX.out).mono ?_; rintro e w' ⟨rfl, rfl⟩) | (go_at_call 76; refine (HLY.out _ (HY.out.alloc _)).mono ?_; rintro e w' ⟨rfl, rfl⟩))
    go_ret; exact ⟨by simp [HF.out], by first | exact HK.out | exact HK.out.alloc _ | exact (HK.out.alloc _).alloc _⟩
   ·have eq2 : (y.way == 2) = false := by simp [q2]
    have HF := hH (show mayB x y 2 = false by simp [mayB, q0, q1, q2]); clear q0 q1 q2; have TX : True := trivial
    go_wp2_with (first | (clear TX; go_at_call 76; refine (HLX.out _ HX.out).mono ?_; rintro e w' ⟨rfl, rfl⟩) | (go_at_call 76; refine (HLY.out _ (HY.out.alloc _)).mono ?_; rintro e w' ⟨rfl, rfl⟩))
    go_ret; exact ⟨by simp [HF.out], by first | exact HK.out | exact HK.out.alloc _ | exact (HK.out.alloc _).alloc _⟩
 ·have eq0 : decide (x.way ≤ 1) = false := by simp [q0]
  have HF := hH (show mayB x y 2 = false by simp [mayB, q0]); clear q0; have TX : True := trivial
  go_wp2_with (first | (clear TX; go_at_call 76; refine (HLX.out _ HX.out).mono ?_; rintro e w' ⟨rfl, rfl⟩) | (go_at_call 76; refine (HLY.out _ (HY.out.alloc _)).mono ?_; rintro e w' ⟨rfl, rfl⟩))
  go_ret; exact ⟨by simp [HF.out], by first | exact HK.out | exact HK.out.alloc _ | exact (HK.out.alloc _).alloc _⟩
theorem l11May_3 (x y : StL) (A1 A2 A3 A4 B1 B2 B3 B4 : Option Addr) (c1 c2 c3 c4 d1 d2 d3 d4 : Nat) (w : World) (hx : StAt w x A1 A2 A3 A4) (hy : StAt w y B1 B2 B3 B4) (hv : -100 ≤ x.ver ∧ x.ver ≤ 100) :
  Calls Tryd.prog 59 #[stV x A1 A2 A3 A4 c1 c2 c3 c4, stV y B1 B2 B3 B4 d1 d2 d3 d4, .int .i64 3] w fun e w' => e = .returned (.bool (mayB x y 3)) ∧ Keeps noBlk w w' := by
 have HX := hH ((hx.alloc (.cells (stC x A1 A2 A3 A4 c1 c2 c3 c4) 27)).alloc (.cells (stC y B1 B2 B3 B4 d1 d2 d3 d4) 27)); have HY := hH ((hy.alloc (.cells (stC x A1 A2 A3 A4 c1 c2 c3 c4) 27)).alloc (.cells (stC y B1 B2 B3 B4 d1 d2 d3 d4) 27)); have HLX := hH (fun W (h : StAt W x A1 A2 A3 A4) => l3Live_eq x A1 A2 A3 A4 c1 c2 c3 c4 W h); have HLY := hH (fun W (h : StAt W y B1 B2 B3 B4) => l3Live_eq y B1 B2 B3 B4 d1 d2 d3 d4 W h); have HK := hH (((Keeps.refl noBlk w).alloc (.cells (stC x A1 A2 A3 A4 c1 c2 c3 c4) 27)).alloc (.cells (stC y B1 B2 B3 B4 d1 d2 d3 d4) 27)); have hbx := (Box.new w _ rfl 27 (stC x A1 A2 A3 A4 c1 c2 c3 c4)).alloc (.cells (stC y B1 B2 B3 B4 d1 d2 d3 d4) 27); have hby := Box.new (w.alloc (.cells (stC x A1 A2 A3 A4 c1 c2 c3 c4) 27)) (w.heap.size + 1) (by simp) 27 (stC y B1 B2 B3 B4 d1 d2 d3 d4)
 have hz : w.heap.size + 1 < ((w.alloc (.cells (stC x A1 A2 A3 A4 c1 c2 c3 c4) 27)).alloc (.cells (stC y B1 B2 B3 B4 d1 d2 d3 d4) 27)).heap.size := by simp
 clear hx hy; unfold stV at HLX HLY ⊢
 go_enter Tryd.func59, Tryd.ntmps59
 by_cases q0 : x.way = 1
 ·have eq0 : (x.way == 1) = true := by simp [q0]
  by_cases q1 : 2 ≤ y.way
  ·have eq1 : decide (2 ≤ y.way) = true := by simp [q1]
   have HF := hH (show mayB x y 3 = true by simp [mayB, q0, q1]); clear q0 q1; have TX : True := trivial
   go_wp2_with (first | (clear TX; go_at_call 76; refine (HLX.out _ HX.out).mono ?_; rintro e w' ⟨rfl, rfl⟩) | (go_at_call 76; refine (HLY.out _ (HY.out.alloc _)).mono ?_; rintro e w' ⟨rfl, rfl⟩))
   go_ret; exact ⟨by simp [HF.out], by first | exact HK.out | exact HK.out.alloc _ | exact (HK.out.alloc _).alloc _⟩
  ·have eq1 : decide (2 ≤ y.way) = false := by simp [q1]
   have HF := hH (show mayB x y 3 = false by simp [mayB, q0, q1]); clear q0 q1; have TX : True := trivial
   go_wp2_with (first | (clear TX; go_at_call 76; refine (HLX.out _ HX.out).mono ?_; rintro e w' ⟨rfl, rfl⟩) | (go_at_call 76; refine (HLY.out _ (HY.out.alloc _)).mono ?_; rintro e w' ⟨rfl, rfl⟩))
   go_ret; exact ⟨by simp [HF.out], by first | exact HK.out | exact HK.out.alloc _ | exact (HK.out.alloc _).alloc _⟩
 ·have eq0 : (x.way == 1) = false := by simp [q0]
  have HF := hH (show mayB x y 3 = false by simp [mayB, q0]); clear q0; have TX : True := trivial
  go_wp2_with (first | (clear TX; go_at_call 76; refine (HLX.out _ HX.out).mono ?_; rintro e w' ⟨rfl, rfl⟩) | (go_at_call 76; refine (HLY.out _ (HY.out.alloc _)).mono ?_; rintro e w' ⟨rfl, rfl⟩))
  go_ret; exact ⟨by simp [HF.out], by first | exact HK.out | exact HK.out.alloc _ | exact (HK.out.alloc _).alloc _⟩
theorem l11May_4 (x y : StL) (A1 A2 A3 A4 B1 B2 B3 B4 : Option Addr) (c1 c2 c3 c4 d1 d2 d3 d4 : Nat) (w : World) (hx : StAt w x A1 A2 A3 A4) (hy : StAt w y B1 B2 B3 B4) (hv : -100 ≤ x.ver ∧ x.ver ≤ 100) :
  Calls Tryd.prog 59 #[stV x A1 A2 A3 A4 c1 c2 c3 c4, stV y B1 B2 B3 B4 d1 d2 d3 d4, .int .i64 4] w fun e w' => e = .returned (.bool (mayB x y 4)) ∧ Keeps noBlk w w' := by
 have HX := hH ((hx.alloc (.cells (stC x A1 A2 A3 A4 c1 c2 c3 c4) 27)).alloc (.cells (stC y B1 B2 B3 B4 d1 d2 d3 d4) 27)); have HY := hH ((hy.alloc (.cells (stC x A1 A2 A3 A4 c1 c2 c3 c4) 27)).alloc (.cells (stC y B1 B2 B3 B4 d1 d2 d3 d4) 27)); have HLX := hH (fun W (h : StAt W x A1 A2 A3 A4) => l3Live_eq x A1 A2 A3 A4 c1 c2 c3 c4 W h); have HLY := hH (fun W (h : StAt W y B1 B2 B3 B4) => l3Live_eq y B1 B2 B3 B4 d1 d2 d3 d4 W h); have HK := hH (((Keeps.refl noBlk w).alloc (.cells (stC x A1 A2 A3 A4 c1 c2 c3 c4) 27)).alloc (.cells (stC y B1 B2 B3 B4 d1 d2 d3 d4) 27)); have hbx := (Box.new w _ rfl 27 (stC x A1 A2 A3 A4 c1 c2 c3 c4)).alloc (.cells (stC y B1 B2 B3 B4 d1 d2 d3 d4) 27); have hby := Box.new (w.alloc (.cells (stC x A1 A2 A3 A4 c1 c2 c3 c4) 27)) (w.heap.size + 1) (by simp) 27 (stC y B1 B2 B3 B4 d1 d2 d3 d4)
 have hz : w.heap.size + 1 < ((w.alloc (.cells (stC x A1 A2 A3 A4 c1 c2 c3 c4) 27)).alloc (.cells (stC y B1 B2 B3 B4 d1 d2 d3 d4) 27)).heap.size := by simp
 clear hx hy; unfold stV at HLX HLY ⊢
 go_enter Tryd.func59, Tryd.ntmps59
 by_cases q0 : x.way = 2
 ·have eq0 : (x.way == 2) = true := by simp [q0]
  by_cases q1 : 2 ≤ y.way
  ·have eq1 : decide (2 ≤ y.way) = true := by simp [q1]
   have HF := hH (show mayB x y 4 = true by simp [mayB, q0, q1]); clear q0 q1; have TX : True := trivial
   go_wp2_with (first | (clear TX; go_at_call 76; refine (HLX.out _ HX.out).mono ?_; rintro e w' ⟨rfl, rfl⟩) | (go_at_call 76; refine (HLY.out _ (HY.out.alloc _)).mono ?_; rintro e w' ⟨rfl, rfl⟩))
   go_ret; exact ⟨by simp [HF.out], by first | exact HK.out | exact HK.out.alloc _ | exact (HK.out.alloc _).alloc _⟩
  ·have eq1 : decide (2 ≤ y.way) = false := by simp [q1]
   have HF := hH (show mayB x y 4 = false by simp [mayB, q0, q1]); clear q0 q1; have TX : True := trivial
   go_wp2_with (first | (clear TX; go_at_call 76; refine (HLX.out _ HX.out).mono ?_; rintro e w' ⟨rfl, rfl⟩) | (go_at_call 76; refine (HLY.out _ (HY.out.alloc _)).mono ?_; rintro e w' ⟨rfl, rfl⟩))
   go_ret; exact ⟨by simp [HF.out], by first | exact HK.out | exact HK.out.alloc _ | exact (HK.out.alloc _).alloc _⟩
 ·have eq0 : (x.way == 2) = false := by simp [q0]
  have HF := hH (show mayB x y 4 = false by simp [mayB, q0]); clear q0; have TX : True := trivial
  go_wp2_with (first | (clear TX; go_at_call 76; refine (HLX.out _ HX.out).mono ?_; rintro e w' ⟨rfl, rfl⟩) | (go_at_call 76; refine (HLY.out _ (HY.out.alloc _)).mono ?_; rintro e w' ⟨rfl, rfl⟩))
  go_ret; exact ⟨by simp [HF.out], by first | exact HK.out | exact HK.out.alloc _ | exact (HK.out.alloc _).alloc _⟩
theorem l11May_5 (x y : StL) (A1 A2 A3 A4 B1 B2 B3 B4 : Option Addr) (c1 c2 c3 c4 d1 d2 d3 d4 : Nat) (w : World) (hx : StAt w x A1 A2 A3 A4) (hy : StAt w y B1 B2 B3 B4) (hv : -100 ≤ x.ver ∧ x.ver ≤ 100) :
  Calls Tryd.prog 59 #[stV x A1 A2 A3 A4 c1 c2 c3 c4, stV y B1 B2 B3 B4 d1 d2 d3 d4, .int .i64 5] w fun e w' => e = .returned (.bool (mayB x y 5)) ∧ Keeps noBlk w w' := by
 have HX := hH ((hx.alloc (.cells (stC x A1 A2 A3 A4 c1 c2 c3 c4) 27)).alloc (.cells (stC y B1 B2 B3 B4 d1 d2 d3 d4) 27)); have HY := hH ((hy.alloc (.cells (stC x A1 A2 A3 A4 c1 c2 c3 c4) 27)).alloc (.cells (stC y B1 B2 B3 B4 d1 d2 d3 d4) 27)); have HLX := hH (fun W (h : StAt W x A1 A2 A3 A4) => l3Live_eq x A1 A2 A3 A4 c1 c2 c3 c4 W h); have HLY := hH (fun W (h : StAt W y B1 B2 B3 B4) => l3Live_eq y B1 B2 B3 B4 d1 d2 d3 d4 W h); have HK := hH (((Keeps.refl noBlk w).alloc (.cells (stC x A1 A2 A3 A4 c1 c2 c3 c4) 27)).alloc (.cells (stC y B1 B2 B3 B4 d1 d2 d3 d4) 27)); have hbx := (Box.new w _ rfl 27 (stC x A1 A2 A3 A4 c1 c2 c3 c4)).alloc (.cells (stC y B1 B2 B3 B4 d1 d2 d3 d4) 27); have hby := Box.new (w.alloc (.cells (stC x A1 A2 A3 A4 c1 c2 c3 c4) 27)) (w.heap.size + 1) (by simp) 27 (stC y B1 B2 B3 B4 d1 d2 d3 d4)
 have hz : w.heap.size + 1 < ((w.alloc (.cells (stC x A1 A2 A3 A4 c1 c2 c3 c4) 27)).alloc (.cells (stC y B1 B2 B3 B4 d1 d2 d3 d4) 27)).heap.size := by simp
 clear hx hy; unfold stV at HLX HLY ⊢
 go_enter Tryd.func59, Tryd.ntmps59
 by_cases q0 : x.way = 3
 ·have eq0 : (x.way == 3) = true := by simp [q0]
  by_cases q1 : x.ver < 9
  ·have eq1 : decide (x.ver < 9) = true := by simp [q1]
   have HF := hH (show mayB x y 5 = true by simp [mayB, q0, q1]); clear q0 q1; have TX : True := trivial
   go_wp2_with (first | (clear TX; go_at_call 76; refine (HLX.out _ HX.out).mono ?_; rintro e w' ⟨rfl, rfl⟩) | (go_at_call 76; refine (HLY.out _ (HY.out.alloc _)).mono ?_; rintro e w' ⟨rfl, rfl⟩))
   go_ret; exact ⟨by simp [HF.out], by first | exact HK.out | exact HK.out.alloc _ | exact (HK.out.alloc _).alloc _⟩
  ·have eq1 : decide (x.ver < 9) = false := by simp [q1]
   have HF := hH (show mayB x y 5 = false by simp [mayB, q0, q1]); clear q0 q1; have TX : True := trivial
   go_wp2_with (first | (clear TX; go_at_call 76; refine (HLX.out _ HX.out).mono ?_; rintro e w' ⟨rfl, rfl⟩) | (go_at_call 76; refine (HLY.out _ (HY.out.alloc _)).mono ?_; rintro e w' ⟨rfl, rfl⟩))
   go_ret; exact ⟨by simp [HF.out], by first | exact HK.out | exact HK.out.alloc _ | exact (HK.out.alloc _).alloc _⟩
 ·have eq0 : (x.way == 3) = false := by simp [q0]
  have HF := hH (show mayB x y 5 = false by simp [mayB, q0]); clear q0; have TX : True := trivial
  go_wp2_with (first | (clear TX; go_at_call 76; refine (HLX.out _ HX.out).mono ?_; rintro e w' ⟨rfl, rfl⟩) | (go_at_call 76; refine (HLY.out _ (HY.out.alloc _)).mono ?_; rintro e w' ⟨rfl, rfl⟩))
  go_ret; exact ⟨by simp [HF.out], by first | exact HK.out | exact HK.out.alloc _ | exact (HK.out.alloc _).alloc _⟩
theorem l11May_6 (x y : StL) (A1 A2 A3 A4 B1 B2 B3 B4 : Option Addr) (c1 c2 c3 c4 d1 d2 d3 d4 : Nat) (w : World) (hx : StAt w x A1 A2 A3 A4) (hy : StAt w y B1 B2 B3 B4) (hv : -100 ≤ x.ver ∧ x.ver ≤ 100) :
  Calls Tryd.prog 59 #[stV x A1 A2 A3 A4 c1 c2 c3 c4, stV y B1 B2 B3 B4 d1 d2 d3 d4, .int .i64 6] w fun e w' => e = .returned (.bool (mayB x y 6)) ∧ Keeps noBlk w w' := by
 have HX := hH ((hx.alloc (.cells (stC x A1 A2 A3 A4 c1 c2 c3 c4) 27)).alloc (.cells (stC y B1 B2 B3 B4 d1 d2 d3 d4) 27)); have HY := hH ((hy.alloc (.cells (stC x A1 A2 A3 A4 c1 c2 c3 c4) 27)).alloc (.cells (stC y B1 B2 B3 B4 d1 d2 d3 d4) 27)); have HLX := hH (fun W (h : StAt W x A1 A2 A3 A4) => l3Live_eq x A1 A2 A3 A4 c1 c2 c3 c4 W h); have HLY := hH (fun W (h : StAt W y B1 B2 B3 B4) => l3Live_eq y B1 B2 B3 B4 d1 d2 d3 d4 W h); have HK := hH (((Keeps.refl noBlk w).alloc (.cells (stC x A1 A2 A3 A4 c1 c2 c3 c4) 27)).alloc (.cells (stC y B1 B2 B3 B4 d1 d2 d3 d4) 27)); have hbx := (Box.new w _ rfl 27 (stC x A1 A2 A3 A4 c1 c2 c3 c4)).alloc (.cells (stC y B1 B2 B3 B4 d1 d2 d3 d4) 27); have hby := Box.new (w.alloc (.cells (stC x A1 A2 A3 A4 c1 c2 c3 c4) 27)) (w.heap.size + 1) (by simp) 27 (stC y B1 B2 B3 B4 d1 d2 d3 d4)
 have hz : w.heap.size + 1 < ((w.alloc (.cells (stC x A1 A2 A3 A4 c1 c2 c3 c4) 27)).alloc (.cells (stC y B1 B2 B3 B4 d1 d2 d3 d4) 27)).heap.size := by simp
 clear hx hy; unfold stV at HLX HLY ⊢
 go_enter Tryd.func59, Tryd.ntmps59
 by_cases q0 : x.way = 3
 ·have eq0 : (x.way == 3) = true := by simp [q0]
  by_cases q1 : y.way = 4
  ·have eq1 : (y.way == 4) = true := by simp [q1]
   by_cases q2 : y.want = x.ver + 1
   ·have eq2 : (y.want == x.ver + 1) = true := by simp [q2]
    have HF := hH (show mayB x y 6 = true by simp [mayB, q0, q1, q2]); clear q0 q1 q2; have TX : True := trivial
    go_wp2_with (first | (clear TX; go_at_call 76; refine (HLX.out _ HX.out).mono ?_; rintro e w' ⟨rfl, rfl⟩) | (go_at_call 76; refine (HLY.out _ (HY.out.alloc _)).mono ?_; rintro e w' ⟨rfl, rfl⟩))
    go_ret; exact ⟨by simp [HF.out], by first | exact HK.out | exact HK.out.alloc _ | exact (HK.out.alloc _).alloc _⟩
   ·have eq2 : (y.want == x.ver + 1) = false := by simp [q2]
    have HF := hH (show mayB x y 6 = false by simp [mayB, q0, q1, q2]); clear q0 q1 q2; have TX : True := trivial
    go_wp2_with (first | (clear TX; go_at_call 76; refine (HLX.out _ HX.out).mono ?_; rintro e w' ⟨rfl, rfl⟩) | (go_at_call 76; refine (HLY.out _ (HY.out.alloc _)).mono ?_; rintro e w' ⟨rfl, rfl⟩))
    go_ret; exact ⟨by simp [HF.out], by first | exact HK.out | exact HK.out.alloc _ | exact (HK.out.alloc _).alloc _⟩
  ·have eq1 : (y.way == 4) = false := by simp [q1]
   have HF := hH (show mayB x y 6 = false by simp [mayB, q0, q1]); clear q0 q1; have TX : True := trivial
   go_wp2_with (first | (clear TX; go_at_call 76; refine (HLX.out _ HX.out).mono ?_; rintro e w' ⟨rfl, rfl⟩) | (go_at_call 76; refine (HLY.out _ (HY.out.alloc _)).mono ?_; rintro e w' ⟨rfl, rfl⟩))
   go_ret; exact ⟨by simp [HF.out], by first | exact HK.out | exact HK.out.alloc _ | exact (HK.out.alloc _).alloc _⟩
 ·have eq0 : (x.way == 3) = false := by simp [q0]
  have HF := hH (show mayB x y 6 = false by simp [mayB, q0]); clear q0; have TX : True := trivial
  go_wp2_with (first | (clear TX; go_at_call 76; refine (HLX.out _ HX.out).mono ?_; rintro e w' ⟨rfl, rfl⟩) | (go_at_call 76; refine (HLY.out _ (HY.out.alloc _)).mono ?_; rintro e w' ⟨rfl, rfl⟩))
  go_ret; exact ⟨by simp [HF.out], by first | exact HK.out | exact HK.out.alloc _ | exact (HK.out.alloc _).alloc _⟩
theorem l11May_7 (x y : StL) (A1 A2 A3 A4 B1 B2 B3 B4 : Option Addr) (c1 c2 c3 c4 d1 d2 d3 d4 : Nat) (w : World) (hx : StAt w x A1 A2 A3 A4) (hy : StAt w y B1 B2 B3 B4) (hv : -100 ≤ x.ver ∧ x.ver ≤ 100) :
  Calls Tryd.prog 59 #[stV x A1 A2 A3 A4 c1 c2 c3 c4, stV y B1 B2 B3 B4 d1 d2 d3 d4, .int .i64 7] w fun e w' => e = .returned (.bool (mayB x y 7)) ∧ Keeps noBlk w w' := by
 have HX := hH ((hx.alloc (.cells (stC x A1 A2 A3 A4 c1 c2 c3 c4) 27)).alloc (.cells (stC y B1 B2 B3 B4 d1 d2 d3 d4) 27)); have HY := hH ((hy.alloc (.cells (stC x A1 A2 A3 A4 c1 c2 c3 c4) 27)).alloc (.cells (stC y B1 B2 B3 B4 d1 d2 d3 d4) 27)); have HLX := hH (fun W (h : StAt W x A1 A2 A3 A4) => l3Live_eq x A1 A2 A3 A4 c1 c2 c3 c4 W h); have HLY := hH (fun W (h : StAt W y B1 B2 B3 B4) => l3Live_eq y B1 B2 B3 B4 d1 d2 d3 d4 W h); have HK := hH (((Keeps.refl noBlk w).alloc (.cells (stC x A1 A2 A3 A4 c1 c2 c3 c4) 27)).alloc (.cells (stC y B1 B2 B3 B4 d1 d2 d3 d4) 27)); have hbx := (Box.new w _ rfl 27 (stC x A1 A2 A3 A4 c1 c2 c3 c4)).alloc (.cells (stC y B1 B2 B3 B4 d1 d2 d3 d4) 27); have hby := Box.new (w.alloc (.cells (stC x A1 A2 A3 A4 c1 c2 c3 c4) 27)) (w.heap.size + 1) (by simp) 27 (stC y B1 B2 B3 B4 d1 d2 d3 d4)
 have hz : w.heap.size + 1 < ((w.alloc (.cells (stC x A1 A2 A3 A4 c1 c2 c3 c4) 27)).alloc (.cells (stC y B1 B2 B3 B4 d1 d2 d3 d4) 27)).heap.size := by simp
 clear hx hy; unfold stV at HLX HLY ⊢
 go_enter Tryd.func59, Tryd.ntmps59
 by_cases q0 : x.way = 4
 ·have eq0 : (x.way == 4) = true := by simp [q0]
  by_cases q1 : liveN x = 0
  ·have eq1 : ((liveN x : Int) == 0) = true := by simp [q1]
   by_cases q2 : y.way = 4
   ·have eq2 : (y.way == 4) = true := by simp [q2]
    by_cases q3 : y.want = x.want
    ·have eq3 : (y.want == x.want) = true := by simp [q3]
     by_cases q4 : liveN y = 0
     ·have eq4 : ((liveN y : Int) == 0) = true := by simp [q4]
      have HF := hH (show mayB x y 7 = true by simp [mayB, q0, q1, q2, q3, q4]); clear q0 q1 q2 q3 q4; have TX : True := trivial
      go_wp2_with (first | (clear TX; go_at_call 76; refine (HLX.out _ HX.out).mono ?_; rintro e w' ⟨rfl, rfl⟩) | (go_at_call 76; refine (HLY.out _ (HY.out.alloc _)).mono ?_; rintro e w' ⟨rfl, rfl⟩))
      go_ret; exact ⟨by simp [HF.out], by first | exact HK.out | exact HK.out.alloc _ | exact (HK.out.alloc _).alloc _⟩
     ·have eq4 : ((liveN y : Int) == 0) = false := by simp [q4]
      by_cases q5 : y.ver = x.want
      ·have eq5 : (y.ver == x.want) = true := by simp [q5]
       have HF := hH (show mayB x y 7 = true by simp [mayB, q0, q1, q2, q3, q4, q5]); clear q0 q1 q2 q3 q4 q5; have TX : True := trivial
       go_wp2_with (first | (clear TX; go_at_call 76; refine (HLX.out _ HX.out).mono ?_; rintro e w' ⟨rfl, rfl⟩) | (go_at_call 76; refine (HLY.out _ (HY.out.alloc _)).mono ?_; rintro e w' ⟨rfl, rfl⟩))
       go_ret; exact ⟨by simp [HF.out], by first | exact HK.out | exact HK.out.alloc _ | exact (HK.out.alloc _).alloc _⟩
      ·have eq5 : (y.ver == x.want) = false := by simp [q5]
       have HF := hH (show mayB x y 7 = false by simp [mayB, q0, q1, q2, q3, q4, q5]); clear q0 q1 q2 q3 q4 q5; have TX : True := trivial
       go_wp2_with (first | (clear TX; go_at_call 76; refine (HLX.out _ HX.out).mono ?_; rintro e w' ⟨rfl, rfl⟩) | (go_at_call 76; refine (HLY.out _ (HY.out.alloc _)).mono ?_; rintro e w' ⟨rfl, rfl⟩))
       go_ret; exact ⟨by simp [HF.out], by first | exact HK.out | exact HK.out.alloc _ | exact (HK.out.alloc _).alloc _⟩
    ·have eq3 : (y.want == x.want) = false := by simp [q3]
     by_cases q4 : y.ver = x.want
     ·have eq4 : (y.ver == x.want) = true := by simp [q4]
      have HF := hH (show mayB x y 7 = true by simp [mayB, q0, q1, q2, q3, q4]); clear q0 q1 q2 q3 q4; have TX : True := trivial
      go_wp2_with (first | (clear TX; go_at_call 76; refine (HLX.out _ HX.out).mono ?_; rintro e w' ⟨rfl, rfl⟩) | (go_at_call 76; refine (HLY.out _ (HY.out.alloc _)).mono ?_; rintro e w' ⟨rfl, rfl⟩))
      go_ret; exact ⟨by simp [HF.out], by first | exact HK.out | exact HK.out.alloc _ | exact (HK.out.alloc _).alloc _⟩
     ·have eq4 : (y.ver == x.want) = false := by simp [q4]
      have HF := hH (show mayB x y 7 = false by simp [mayB, q0, q1, q2, q3, q4]); clear q0 q1 q2 q3 q4; have TX : True := trivial
      go_wp2_with (first | (clear TX; go_at_call 76; refine (HLX.out _ HX.out).mono ?_; rintro e w' ⟨rfl, rfl⟩) | (go_at_call 76; refine (HLY.out _ (HY.out.alloc _)).mono ?_; rintro e w' ⟨rfl, rfl⟩))
      go_ret; exact ⟨by simp [HF.out], by first | exact HK.out | exact HK.out.alloc _ | exact (HK.out.alloc _).alloc _⟩
   ·have eq2 : (y.way == 4) = false := by simp [q2]
    by_cases q3 : y.ver = x.want
    ·have eq3 : (y.ver == x.want) = true := by simp [q3]
     have HF := hH (show mayB x y 7 = true by simp [mayB, q0, q1, q2, q3]); clear q0 q1 q2 q3; have TX : True := trivial
     go_wp2_with (first | (clear TX; go_at_call 76; refine (HLX.out _ HX.out).mono ?_; rintro e w' ⟨rfl, rfl⟩) | (go_at_call 76; refine (HLY.out _ (HY.out.alloc _)).mono ?_; rintro e w' ⟨rfl, rfl⟩))
     go_ret; exact ⟨by simp [HF.out], by first | exact HK.out | exact HK.out.alloc _ | exact (HK.out.alloc _).alloc _⟩
    ·have eq3 : (y.ver == x.want) = false := by simp [q3]
     have HF := hH (show mayB x y 7 = false by simp [mayB, q0, q1, q2, q3]); clear q0 q1 q2 q3; have TX : True := trivial
     go_wp2_with (first | (clear TX; go_at_call 76; refine (HLX.out _ HX.out).mono ?_; rintro e w' ⟨rfl, rfl⟩) | (go_at_call 76; refine (HLY.out _ (HY.out.alloc _)).mono ?_; rintro e w' ⟨rfl, rfl⟩))
     go_ret; exact ⟨by simp [HF.out], by first | exact HK.out | exact HK.out.alloc _ | exact (HK.out.alloc _).alloc _⟩
  ·have eq1 : ((liveN x : Int) == 0) = false := by simp [q1]
   have HF := hH (show mayB x y 7 = false by simp [mayB, q0, q1]); clear q0 q1; have TX : True := trivial
   go_wp2_with (first | (clear TX; go_at_call 76; refine (HLX.out _ HX.out).mono ?_; rintro e w' ⟨rfl, rfl⟩) | (go_at_call 76; refine (HLY.out _ (HY.out.alloc _)).mono ?_; rintro e w' ⟨rfl, rfl⟩))
   go_ret; exact ⟨by simp [HF.out], by first | exact HK.out | exact HK.out.alloc _ | exact (HK.out.alloc _).alloc _⟩
 ·have eq0 : (x.way == 4) = false := by simp [q0]
  have HF := hH (show mayB x y 7 = false by simp [mayB, q0]); clear q0; have TX : True := trivial
  go_wp2_with (first | (clear TX; go_at_call 76; refine (HLX.out _ HX.out).mono ?_; rintro e w' ⟨rfl, rfl⟩) | (go_at_call 76; refine (HLY.out _ (HY.out.alloc _)).mono ?_; rintro e w' ⟨rfl, rfl⟩))
  go_ret; exact ⟨by simp [HF.out], by first | exact HK.out | exact HK.out.alloc _ | exact (HK.out.alloc _).alloc _⟩
theorem l11May_no (x y : StL) (A1 A2 A3 A4 B1 B2 B3 B4 : Option Addr) (c1 c2 c3 c4 d1 d2 d3 d4 : Nat) (k : Int) (hn : k < 1 ∨ 7 < k) (w : World) (hx : StAt w x A1 A2 A3 A4) (hy : StAt w y B1 B2 B3 B4) (hv : -100 ≤ x.ver ∧ x.ver ≤ 100) :
  Calls Tryd.prog 59 #[stV x A1 A2 A3 A4 c1 c2 c3 c4, stV y B1 B2 B3 B4 d1 d2 d3 d4, .int .i64 k] w fun e w' => e = .returned (.bool (mayB x y k)) ∧ Keeps noBlk w w' := by
 have HX := hH ((hx.alloc (.cells (stC x A1 A2 A3 A4 c1 c2 c3 c4) 27)).alloc (.cells (stC y B1 B2 B3 B4 d1 d2 d3 d4) 27)); have HY := hH ((hy.alloc (.cells (stC x A1 A2 A3 A4 c1 c2 c3 c4) 27)).alloc (.cells (stC y B1 B2 B3 B4 d1 d2 d3 d4) 27)); have HLX := hH (fun W (h : StAt W x A1 A2 A3 A4) => l3Live_eq x A1 A2 A3 A4 c1 c2 c3 c4 W h); have HLY := hH (fun W (h : StAt W y B1 B2 B3 B4) => l3Live_eq y B1 B2 B3 B4 d1 d2 d3 d4 W h); have HK := hH (((Keeps.refl noBlk w).alloc (.cells (stC x A1 A2 A3 A4 c1 c2 c3 c4) 27)).alloc (.cells (stC y B1 B2 B3 B4 d1 d2 d3 d4) 27)); have hbx := (Box.new w _ rfl 27 (stC x A1 A2 A3 A4 c1 c2 c3 c4)).alloc (.cells (stC y B1 B2 B3 B4 d1 d2 d3 d4) 27); have hby := Box.new (w.alloc (.cells (stC x A1 A2 A3 A4 c1 c2 c3 c4) 27)) (w.heap.size + 1) (by simp) 27 (stC y B1 B2 B3 B4 d1 d2 d3 d4)
 have hz : w.heap.size + 1 < ((w.alloc (.cells (stC x A1 A2 A3 A4 c1 c2 c3 c4) 27)).alloc (.cells (stC y B1 B2 B3 B4 d1 d2 d3 d4) 27)).heap.size := by simp
 clear hx hy; unfold stV at HLX HLY ⊢
 go_enter Tryd.func59, Tryd.ntmps59
 have e1 : (k == 1) = false := by simp; omega
 have e2 : (k == 2) = false := by simp; omega
 have e3 : (k == 3) = false := by simp; omega
 have e4 : (k == 4) = false := by simp; omega
 have e5 : (k == 5) = false := by simp; omega
 have e6 : (k == 6) = false := by simp; omega
 have e7 : (k == 7) = false := by simp; omega
 have HF := hH (show mayB x y k = false by unfold mayB; rw [if_neg (by omega), if_neg (by omega), if_neg (by omega), if_neg (by omega), if_neg (by omega), if_neg (by omega), if_neg (by omega)]); clear hn; go_wp2; go_ret; exact ⟨by simp [HF.out], HK.out⟩
theorem l11May_any (x y : StL) (A1 A2 A3 A4 B1 B2 B3 B4 : Option Addr) (c1 c2 c3 c4 d1 d2 d3 d4 : Nat) (k : Int) (w : World) (hx : StAt w x A1 A2 A3 A4) (hy : StAt w y B1 B2 B3 B4) (hv : -100 ≤ x.ver ∧ x.ver ≤ 100) :
  Calls Tryd.prog 59 #[stV x A1 A2 A3 A4 c1 c2 c3 c4, stV y B1 B2 B3 B4 d1 d2 d3 d4, .int .i64 k] w fun e w' => e = .returned (.bool (mayB x y k)) ∧ Keeps noBlk w w' := by
 by_cases hn : k < 1 ∨ 7 < k
 ·exact l11May_no x y A1 A2 A3 A4 B1 B2 B3 B4 c1 c2 c3 c4 d1 d2 d3 d4 k hn w hx hy hv
 ·have h7 : k = 1 ∨ k = 2 ∨ k = 3 ∨ k = 4 ∨ k = 5 ∨ k = 6 ∨ k = 7 := by omega
  rcases h7 with rfl | rfl | rfl | rfl | rfl | rfl | rfl
  ·exact l11May_1 x y A1 A2 A3 A4 B1 B2 B3 B4 c1 c2 c3 c4 d1 d2 d3 d4 w hx hy hv
  ·exact l11May_2 x y A1 A2 A3 A4 B1 B2 B3 B4 c1 c2 c3 c4 d1 d2 d3 d4 w hx hy hv
  ·exact l11May_3 x y A1 A2 A3 A4 B1 B2 B3 B4 c1 c2 c3 c4 d1 d2 d3 d4 w hx hy hv
  ·exact l11May_4 x y A1 A2 A3 A4 B1 B2 B3 B4 c1 c2 c3 c4 d1 d2 d3 d4 w hx hy hv
  ·exact l11May_5 x y A1 A2 A3 A4 B1 B2 B3 B4 c1 c2 c3 c4 d1 d2 d3 d4 w hx hy hv
  ·exact l11May_6 x y A1 A2 A3 A4 B1 B2 B3 B4 c1 c2 c3 c4 d1 d2 d3 d4 w hx hy hv
  ·exact l11May_7 x y A1 A2 A3 A4 B1 B2 B3 B4 c1 c2 c3 c4 d1 d2 d3 d4 w hx hy hv

def doSt (x y : StL) (k : Int) : StL :=
 if k = 1 then { x with way := 1 } else if k = 2 then { x with way := 2 } else if k = 3 ∨ k = 4 then { x with way := 3 } else if k = 5 then { x with way := 4, want := x.ver + 1 } else
 if k = 6 then { x with way := 4, want := y.want } else if k = 7 then { x with way := 3, ver := x.want, want := 0 } else x
theorem l11Do_1 (x y : StL) (A1 A2 A3 A4 B1 B2 B3 B4 : Option Addr) (c1 c2 c3 c4 d1 d2 d3 d4 : Nat) (w : World) (hv : -100 ≤ x.ver ∧ x.ver ≤ 100) :
  Calls Tryd.prog 105 #[stV x A1 A2 A3 A4 c1 c2 c3 c4, stV y B1 B2 B3 B4 d1 d2 d3 d4, .int .i64 1] w fun e w' => e = .returned (stV (doSt x y 1) A1 A2 A3 A4 c1 c2 c3 c4) ∧ Keeps noBlk w w' := by
 have HK := hH ((((Keeps.refl noBlk w).alloc (.cells (stC x A1 A2 A3 A4 c1 c2 c3 c4) 27)).alloc (.cells (stC y B1 B2 B3 B4 d1 d2 d3 d4) 27)).alloc (.cells zCS 27)); have HF := hH (show doSt x y 1 = ⟨1, x.ver, x.want, x.sent, x.live, x.back, x.got⟩ by simp [doSt]); unfold stV
 go_enter Tryd.func105, Tryd.ntmps105
 go_wp2; refine bodyPost_ret (v := .agg #[.int .i64 (1), .int .i64 (x.ver), .int .i64 (x.want), .slice A1 x.sent.length c1, .slice A2 x.live.length c2, .slice A3 x.back.length c3, .slice A4 x.got.length c4]) (by simp [results, Tryd.results105, go_sem, *]) rfl ⟨by rw [HF.out], ?_⟩; exact (((Keeps.refl _ _).alloc _).alloc _).alloc _
theorem l11Do_2 (x y : StL) (A1 A2 A3 A4 B1 B2 B3 B4 : Option Addr) (c1 c2 c3 c4 d1 d2 d3 d4 : Nat) (w : World) (hv : -100 ≤ x.ver ∧ x.ver ≤ 100) :
  Calls Tryd.prog 105 #[stV x A1 A2 A3 A4 c1 c2 c3 c4, stV y B1 B2 B3 B4 d1 d2 d3 d4, .int .i64 2] w fun e w' => e = .returned (stV (doSt x y 2) A1 A2 A3 A4 c1 c2 c3 c4) ∧ Keeps noBlk w w' := by
 have HK := hH ((((Keeps.refl noBlk w).alloc (.cells (stC x A1 A2 A3 A4 c1 c2 c3 c4) 27)).alloc (.cells (stC y B1 B2 B3 B4 d1 d2 d3 d4) 27)).alloc (.cells zCS 27)); have HF := hH (show doSt x y 2 = ⟨2, x.ver, x.want, x.sent, x.live, x.back, x.got⟩ by simp [doSt]); unfold stV
 go_enter Tryd.func105, Tryd.ntmps105
 go_wp2; refine bodyPost_ret (v := .agg #[.int .i64 (2), .int .i64 (x.ver), .int .i64 (x.want), .slice A1 x.sent.length c1, .slice A2 x.live.length c2, .slice A3 x.back.length c3, .slice A4 x.got.length c4]) (by simp [results, Tryd.results105, go_sem, *]) rfl ⟨by rw [HF.out], ?_⟩; exact (((Keeps.refl _ _).alloc _).alloc _).alloc _
theorem l11Do_3 (x y : StL) (A1 A2 A3 A4 B1 B2 B3 B4 : Option Addr) (c1 c2 c3 c4 d1 d2 d3 d4 : Nat) (w : World) (hv : -100 ≤ x.ver ∧ x.ver ≤ 100) :
  Calls Tryd.prog 105 #[stV x A1 A2 A3 A4 c1 c2 c3 c4, stV y B1 B2 B3 B4 d1 d2 d3 d4, .int .i64 3] w fun e w' => e = .returned (stV (doSt x y 3) A1 A2 A3 A4 c1 c2 c3 c4) ∧ Keeps noBlk w w' := by
 have HK := hH ((((Keeps.refl noBlk w).alloc (.cells (stC x A1 A2 A3 A4 c1 c2 c3 c4) 27)).alloc (.cells (stC y B1 B2 B3 B4 d1 d2 d3 d4) 27)).alloc (.cells zCS 27)); have HF := hH (show doSt x y 3 = ⟨3, x.ver, x.want, x.sent, x.live, x.back, x.got⟩ by simp [doSt]); unfold stV
 go_enter Tryd.func105, Tryd.ntmps105
 go_wp2; refine bodyPost_ret (v := .agg #[.int .i64 (3), .int .i64 (x.ver), .int .i64 (x.want), .slice A1 x.sent.length c1, .slice A2 x.live.length c2, .slice A3 x.back.length c3, .slice A4 x.got.length c4]) (by simp [results, Tryd.results105, go_sem, *]) rfl ⟨by rw [HF.out], ?_⟩; exact (((Keeps.refl _ _).alloc _).alloc _).alloc _
theorem l11Do_4 (x y : StL) (A1 A2 A3 A4 B1 B2 B3 B4 : Option Addr) (c1 c2 c3 c4 d1 d2 d3 d4 : Nat) (w : World) (hv : -100 ≤ x.ver ∧ x.ver ≤ 100) :
  Calls Tryd.prog 105 #[stV x A1 A2 A3 A4 c1 c2 c3 c4, stV y B1 B2 B3 B4 d1 d2 d3 d4, .int .i64 4] w fun e w' => e = .returned (stV (doSt x y 4) A1 A2 A3 A4 c1 c2 c3 c4) ∧ Keeps noBlk w w' := by
 have HK := hH ((((Keeps.refl noBlk w).alloc (.cells (stC x A1 A2 A3 A4 c1 c2 c3 c4) 27)).alloc (.cells (stC y B1 B2 B3 B4 d1 d2 d3 d4) 27)).alloc (.cells zCS 27)); have HF := hH (show doSt x y 4 = ⟨3, x.ver, x.want, x.sent, x.live, x.back, x.got⟩ by simp [doSt]); unfold stV
 go_enter Tryd.func105, Tryd.ntmps105
 go_wp2; refine bodyPost_ret (v := .agg #[.int .i64 (3), .int .i64 (x.ver), .int .i64 (x.want), .slice A1 x.sent.length c1, .slice A2 x.live.length c2, .slice A3 x.back.length c3, .slice A4 x.got.length c4]) (by simp [results, Tryd.results105, go_sem, *]) rfl ⟨by rw [HF.out], ?_⟩; exact (((Keeps.refl _ _).alloc _).alloc _).alloc _
theorem l11Do_5 (x y : StL) (A1 A2 A3 A4 B1 B2 B3 B4 : Option Addr) (c1 c2 c3 c4 d1 d2 d3 d4 : Nat) (w : World) (hv : -100 ≤ x.ver ∧ x.ver ≤ 100) :
  Calls Tryd.prog 105 #[stV x A1 A2 A3 A4 c1 c2 c3 c4, stV y B1 B2 B3 B4 d1 d2 d3 d4, .int .i64 5] w fun e w' => e = .returned (stV (doSt x y 5) A1 A2 A3 A4 c1 c2 c3 c4) ∧ Keeps noBlk w w' := by
 have HK := hH ((((Keeps.refl noBlk w).alloc (.cells (stC x A1 A2 A3 A4 c1 c2 c3 c4) 27)).alloc (.cells (stC y B1 B2 B3 B4 d1 d2 d3 d4) 27)).alloc (.cells zCS 27)); have HF := hH (show doSt x y 5 = ⟨4, x.ver, x.ver + 1, x.sent, x.live, x.back, x.got⟩ by simp [doSt]); unfold stV
 go_enter Tryd.func105, Tryd.ntmps105
 go_wp2; refine bodyPost_ret (v := .agg #[.int .i64 (4), .int .i64 (x.ver), .int .i64 (x.ver + 1), .slice A1 x.sent.length c1, .slice A2 x.live.length c2, .slice A3 x.back.length c3, .slice A4 x.got.length c4]) (by simp [results, Tryd.results105, go_sem, *]) rfl ⟨by rw [HF.out], ?_⟩; exact (((Keeps.refl _ _).alloc _).alloc _).alloc _
theorem l11Do_6 (x y : StL) (A1 A2 A3 A4 B1 B2 B3 B4 : Option Addr) (c1 c2 c3 c4 d1 d2 d3 d4 : Nat) (w : World) (hv : -100 ≤ x.ver ∧ x.ver ≤ 100) :
  Calls Tryd.prog 105 #[stV x A1 A2 A3 A4 c1 c2 c3 c4, stV y B1 B2 B3 B4 d1 d2 d3 d4, .int .i64 6] w fun e w' => e = .returned (stV (doSt x y 6) A1 A2 A3 A4 c1 c2 c3 c4) ∧ Keeps noBlk w w' := by
 have HK := hH ((((Keeps.refl noBlk w).alloc (.cells (stC x A1 A2 A3 A4 c1 c2 c3 c4) 27)).alloc (.cells (stC y B1 B2 B3 B4 d1 d2 d3 d4) 27)).alloc (.cells zCS 27)); have HF := hH (show doSt x y 6 = ⟨4, x.ver, y.want, x.sent, x.live, x.back, x.got⟩ by simp [doSt]); unfold stV
 go_enter Tryd.func105, Tryd.ntmps105
 go_wp2; refine bodyPost_ret (v := .agg #[.int .i64 (4), .int .i64 (x.ver), .int .i64 (y.want), .slice A1 x.sent.length c1, .slice A2 x.live.length c2, .slice A3 x.back.length c3, .slice A4 x.got.length c4]) (by simp [results, Tryd.results105, go_sem, *]) rfl ⟨by rw [HF.out], ?_⟩; exact (((Keeps.refl _ _).alloc _).alloc _).alloc _
theorem l11Do_7 (x y : StL) (A1 A2 A3 A4 B1 B2 B3 B4 : Option Addr) (c1 c2 c3 c4 d1 d2 d3 d4 : Nat) (w : World) (hv : -100 ≤ x.ver ∧ x.ver ≤ 100) :
  Calls Tryd.prog 105 #[stV x A1 A2 A3 A4 c1 c2 c3 c4, stV y B1 B2 B3 B4 d1 d2 d3 d4, .int .i64 7] w fun e w' => e = .returned (stV (doSt x y 7) A1 A2 A3 A4 c1 c2 c3 c4) ∧ Keeps noBlk w w' := by
 have HK := hH ((((Keeps.refl noBlk w).alloc (.cells (stC x A1 A2 A3 A4 c1 c2 c3 c4) 27)).alloc (.cells (stC y B1 B2 B3 B4 d1 d2 d3 d4) 27)).alloc (.cells zCS 27)); have HF := hH (show doSt x y 7 = ⟨3, x.want, 0, x.sent, x.live, x.back, x.got⟩ by simp [doSt]); unfold stV
 go_enter Tryd.func105, Tryd.ntmps105
 go_wp2; refine bodyPost_ret (v := .agg #[.int .i64 (3), .int .i64 (x.want), .int .i64 (0), .slice A1 x.sent.length c1, .slice A2 x.live.length c2, .slice A3 x.back.length c3, .slice A4 x.got.length c4]) (by simp [results, Tryd.results105, go_sem, *]) rfl ⟨by rw [HF.out], ?_⟩; exact (((Keeps.refl _ _).alloc _).alloc _).alloc _
theorem l11Do_no (x y : StL) (A1 A2 A3 A4 B1 B2 B3 B4 : Option Addr) (c1 c2 c3 c4 d1 d2 d3 d4 : Nat) (k : Int) (hn : k < 1 ∨ 7 < k) (w : World) (hv : -100 ≤ x.ver ∧ x.ver ≤ 100) :
  Calls Tryd.prog 105 #[stV x A1 A2 A3 A4 c1 c2 c3 c4, stV y B1 B2 B3 B4 d1 d2 d3 d4, .int .i64 k] w fun e w' => e = .returned (stV (doSt x y k) A1 A2 A3 A4 c1 c2 c3 c4) ∧ Keeps noBlk w w' := by
 have HK := hH ((((Keeps.refl noBlk w).alloc (.cells (stC x A1 A2 A3 A4 c1 c2 c3 c4) 27)).alloc (.cells (stC y B1 B2 B3 B4 d1 d2 d3 d4) 27)).alloc (.cells zCS 27))
 have e1 : (k == 1) = false := by simp; omega
 have e2 : (k == 2) = false := by simp; omega
 have e3 : (k == 3) = false := by simp; omega
 have e4 : (k == 4) = false := by simp; omega
 have e5 : (k == 5) = false := by simp; omega
 have e6 : (k == 6) = false := by simp; omega
 have e7 : (k == 7) = false := by simp; omega
 have HF := hH (show doSt x y k = x by unfold doSt; rw [if_neg (by omega), if_neg (by omega), if_neg (by omega), if_neg (by omega), if_neg (by omega), if_neg (by omega)]); clear hn; unfold stV
 go_enter Tryd.func105, Tryd.ntmps105
 go_wp2; refine bodyPost_ret (v := .agg #[.int .i64 (x.way), .int .i64 (x.ver), .int .i64 (x.want), .slice A1 x.sent.length c1, .slice A2 x.live.length c2, .slice A3 x.back.length c3, .slice A4 x.got.length c4]) (by simp [results, Tryd.results105, go_sem, *]) rfl ⟨by rw [HF.out], ?_⟩; exact (((Keeps.refl _ _).alloc _).alloc _).alloc _
theorem l11Do_any (x y : StL) (A1 A2 A3 A4 B1 B2 B3 B4 : Option Addr) (c1 c2 c3 c4 d1 d2 d3 d4 : Nat) (k : Int) (w : World) (hv : -100 ≤ x.ver ∧ x.ver ≤ 100) :
  Calls Tryd.prog 105 #[stV x A1 A2 A3 A4 c1 c2 c3 c4, stV y B1 B2 B3 B4 d1 d2 d3 d4, .int .i64 k] w fun e w' => e = .returned (stV (doSt x y k) A1 A2 A3 A4 c1 c2 c3 c4) ∧ Keeps noBlk w w' := by
 by_cases hn : k < 1 ∨ 7 < k
 ·exact l11Do_no x y A1 A2 A3 A4 B1 B2 B3 B4 c1 c2 c3 c4 d1 d2 d3 d4 k hn w hv
 ·have h7 : k = 1 ∨ k = 2 ∨ k = 3 ∨ k = 4 ∨ k = 5 ∨ k = 6 ∨ k = 7 := by omega
  rcases h7 with rfl | rfl | rfl | rfl | rfl | rfl | rfl
  ·exact l11Do_1 x y A1 A2 A3 A4 B1 B2 B3 B4 c1 c2 c3 c4 d1 d2 d3 d4 w hv
  ·exact l11Do_2 x y A1 A2 A3 A4 B1 B2 B3 B4 c1 c2 c3 c4 d1 d2 d3 d4 w hv
  ·exact l11Do_3 x y A1 A2 A3 A4 B1 B2 B3 B4 c1 c2 c3 c4 d1 d2 d3 d4 w hv
  ·exact l11Do_4 x y A1 A2 A3 A4 B1 B2 B3 B4 c1 c2 c3 c4 d1 d2 d3 d4 w hv
  ·exact l11Do_5 x y A1 A2 A3 A4 B1 B2 B3 B4 c1 c2 c3 c4 d1 d2 d3 d4 w hv
  ·exact l11Do_6 x y A1 A2 A3 A4 B1 B2 B3 B4 c1 c2 c3 c4 d1 d2 d3 d4 w hv
  ·exact l11Do_7 x y A1 A2 A3 A4 B1 B2 B3 B4 c1 c2 c3 c4 d1 d2 d3 d4 w hv

def wmayB (x y : StL) (k : Int) : Bool := stB x && stB y && mayB x y k
theorem stB_ver9 {x : StL} (h : stB x = true) : 1 ≤ x.ver ∧ x.ver ≤ 9 := by
 have h1 : StOk x := by simpa [stB] using h
 exact h1.1.1
theorem specMay_any (x y : StL) (A1 A2 A3 A4 B1 B2 B3 B4 : Option Addr) (c1 c2 c3 c4 d1 d2 d3 d4 : Nat) (k : Int) (w : World) (hx : StAt w x A1 A2 A3 A4) (hy : StAt w y B1 B2 B3 B4) :
  Calls Tryd.prog 36 #[stV x A1 A2 A3 A4 c1 c2 c3 c4, stV y B1 B2 B3 B4 d1 d2 d3 d4, .int .i64 k] w fun e w' => e = .returned (.bool (wmayB x y k)) ∧ Keeps noBlk w w' := by
 have HX := hH ((hx.alloc (.cells (stC x A1 A2 A3 A4 c1 c2 c3 c4) 27)).alloc (.cells (stC y B1 B2 B3 B4 d1 d2 d3 d4) 27)); have HY := hH ((hy.alloc (.cells (stC x A1 A2 A3 A4 c1 c2 c3 c4) 27)).alloc (.cells (stC y B1 B2 B3 B4 d1 d2 d3 d4) 27)); have HSX := hH (fun W (h : StAt W x A1 A2 A3 A4) => specSt_any x A1 A2 A3 A4 c1 c2 c3 c4 W h); have HSY := hH (fun W (h : StAt W y B1 B2 B3 B4) => specSt_any y B1 B2 B3 B4 d1 d2 d3 d4 W h); have HMY := hH (fun W (h : StAt W x A1 A2 A3 A4) (h' : StAt W y B1 B2 B3 B4) hv => l11May_any x y A1 A2 A3 A4 B1 B2 B3 B4 c1 c2 c3 c4 d1 d2 d3 d4 k W h h' hv); have HK0 := hH (((Keeps.refl noBlk w).alloc (.cells (stC x A1 A2 A3 A4 c1 c2 c3 c4) 27)).alloc (.cells (stC y B1 B2 B3 B4 d1 d2 d3 d4) 27)); have HBX := hH ((Box.new w _ rfl 27 (stC x A1 A2 A3 A4 c1 c2 c3 c4)).alloc (.cells (stC y B1 B2 B3 B4 d1 d2 d3 d4) 27)); have HBY := hH (Box.new (w.alloc (.cells (stC x A1 A2 A3 A4 c1 c2 c3 c4) 27)) (w.heap.size + 1) (by simp) 27 (stC y B1 B2 B3 B4 d1 d2 d3 d4)); clear hx hy; have HV := hH (@stB_ver9 x); have HF := hH (show wmayB x y k = (stB x && stB y && mayB x y k) from rfl); generalize stB x = o1 at HSX HV HF; generalize stB y = o2 at HSY HF; generalize wmayB x y k = o at HF; generalize mayB x y k = o3 at HMY HF; unfold stV at HSX HSY HMY ⊢
 go_enter Tryd.func36, Tryd.ntmps36
 go_wp2_with fail; refine (HSX.out _ HX.out).mono ?_; rintro e w1 ⟨rfl, hk1⟩
 have hbx := HBX.out.keeps hk1 fun h => h
 have hby := HBY.out.keeps hk1 fun h => h
 have x0 := hbx.cell 0; have y0 := hby.cell 0; have x1 := hbx.cell 1; have y1 := hby.cell 1; have x2 := hbx.cell 2; have y2 := hby.cell 2; have x3 := hbx.cell 3; have y3 := hby.cell 3; have x4 := hbx.cell 4; have y4 := hby.cell 4; have x5 := hbx.cell 5; have y5 := hby.cell 5; have x6 := hbx.cell 6; have y6 := hby.cell 6; simp at x0 y0 x1 y1 x2 y2 x3 y3 x4 y4 x5 y5 x6 y6; have HK1 := hH (HK0.out.trans hk1); have HX1 := hH (HX.out.kept hk1); have HY1 := hH (HY.out.kept hk1); clear HBX HBY; have HBX := hH hbx; have HBY := hH hby; clear hk1 hbx hby
 cases o1 with
 | false =>
  have HE := hH (show o = false by rw [HF.out]; rfl); go_wp2; go_ret; exact ⟨by simp [HE.out], HK1.out⟩
 | true =>
  go_wp2_with fail; refine (HSY.out _ HY1.out).mono ?_; rintro e w2 ⟨rfl, hk2⟩; clear x0 y0 x1 y1 x2 y2 x3 y3 x4 y4 x5 y5 x6 y6
  have hbx := HBX.out.keeps hk2 fun h => h
  have hby := HBY.out.keeps hk2 fun h => h
  have x0 := hbx.cell 0; have y0 := hby.cell 0; have x1 := hbx.cell 1; have y1 := hby.cell 1; have x2 := hbx.cell 2; have y2 := hby.cell 2; have x3 := hbx.cell 3; have y3 := hby.cell 3; have x4 := hbx.cell 4; have y4 := hby.cell 4; have x5 := hbx.cell 5; have y5 := hby.cell 5; have x6 := hbx.cell 6; have y6 := hby.cell 6; simp at x0 y0 x1 y1 x2 y2 x3 y3 x4 y4 x5 y5 x6 y6; have HK2 := hH (HK1.out.trans hk2); have HX2 := hH (HX1.out.kept hk2); have HY2 := hH (HY1.out.kept hk2); clear hk2 hbx hby
  cases o2 with
  | false =>
   have HE := hH (show o = false by rw [HF.out]; rfl); go_wp2; go_ret; exact ⟨by simp [HE.out], HK2.out⟩
  | true =>
   have hv := HV.out (by simp); have HE := hH (show o = o3 by rw [HF.out]; rfl); go_wp2_with fail; refine (HMY.out _ HX2.out HY2.out (by omega)).mono ?_; rintro e w3 ⟨rfl, hk3⟩; have HK3 := hH (HK2.out.trans hk3); clear hk3; go_wp2; go_ret; exact ⟨by simp [HE.out], HK3.out⟩

def nextTo (x y : StL) : Nat → List Int
 | 0 => []
 | k + 1 => if wmayB x y ((k : Int) + 1) = true then nextTo x y k ++ [(k : Int) + 1] else nextTo x y k
def nextL (x y : StL) : List Int := nextTo x y 7
theorem nextTo_len (x y : StL) (k : Nat) : (nextTo x y k).length ≤ k := by
 induction k with
 | zero => simp [nextTo]
 | succ k ih =>
  unfold nextTo
  split
  ·simp; omega
  ·omega
theorem nextTo_yes {x y : StL} {k : Nat} (h : wmayB x y ((k : Int) + 1) = true) : nextTo x y (k + 1) = nextTo x y k ++ [(k : Int) + 1] := by rw [nextTo, if_pos h]
theorem nextTo_no {x y : StL} {k : Nat} (h : wmayB x y ((k : Int) + 1) = false) : nextTo x y (k + 1) = nextTo x y k := by rw [nextTo, if_neg (by rw [h]; decide)]
def RetInts (w : World) (xs : List Int) (e : Ending) (w' : World) : Prop :=
 ∃ A c, e = .returned (.slice A xs.length c) ∧ w'.ownsRow 0 3 1 (.slice A xs.length c) xs.length (vIs xs) ∧ (∀ g, (Value.slice A xs.length c).ownBlock = some g → w.heap.size ≤ g) ∧ Keeps noBlk w w'
theorem specNext_any (x y : StL) (A1 A2 A3 A4 B1 B2 B3 B4 : Option Addr) (c1 c2 c3 c4 d1 d2 d3 d4 : Nat) (w : World) (hx : StAt w x A1 A2 A3 A4) (hy : StAt w y B1 B2 B3 B4) :
  Calls Tryd.prog 39 #[stV x A1 A2 A3 A4 c1 c2 c3 c4, stV y B1 B2 B3 B4 d1 d2 d3 d4] w (RetInts w (nextL x y)) := by
 have HX := hH hx; have HY := hH hy; have HMY := hH (fun (k : Int) W (h : StAt W x A1 A2 A3 A4) (h' : StAt W y B1 B2 B3 B4) => specMay_any x y A1 A2 A3 A4 B1 B2 B3 B4 c1 c2 c3 c4 d1 d2 d3 d4 k W h h'); have HBX := hH (((Box.new w _ rfl 27 (stC x A1 A2 A3 A4 c1 c2 c3 c4)).alloc (.cells (stC y B1 B2 B3 B4 d1 d2 d3 d4) 27)).alloc (.cells #[] 3)); have HBY := hH ((Box.new (w.alloc (.cells (stC x A1 A2 A3 A4 c1 c2 c3 c4) 27)) (w.heap.size + 1) (by simp) 27 (stC y B1 B2 B3 B4 d1 d2 d3 d4)).alloc (.cells #[] 3)); have HK0 := hH ((((Keeps.refl noBlk w).alloc (.cells (stC x A1 A2 A3 A4 c1 c2 c3 c4) 27)).alloc (.cells (stC y B1 B2 B3 B4 d1 d2 d3 d4) 27)).alloc (.cells #[] 3)); have HE0 := hH (owns_lit0 ((w.alloc (.cells (stC x A1 A2 A3 A4 c1 c2 c3 c4) 27)).alloc (.cells (stC y B1 B2 B3 B4 d1 d2 d3 d4) 27)) (w.heap.size + 1 + 1) (by simp) 3 1); clear hx hy; unfold stV at HMY ⊢
 go_enter Tryd.func39, Tryd.ntmps39
 go_wp2
 go_loopw [5, 6] (fun V i wr => ∃ k : Nat, k ≤ 7 ∧ i = .int .i64 ((k : Int) + 1) ∧ wr.ownsRow 0 3 1 V (nextTo x y k).length (vIs (nextTo x y k)) ∧ (∀ g, V.ownBlock = some g → w.heap.size + 2 ≤ g) ∧ Box wr w.heap.size 27 (stC x A1 A2 A3 A4 c1 c2 c3 c4) ∧ Box wr (w.heap.size + 1) 27 (stC y B1 B2 B3 B4 d1 d2 d3 d4) ∧ Keeps noBlk w wr) (fun _ i _ => 8 - (intOf i).toNat)
 case atStart => exact ⟨0, by omega, rfl, HE0.out, fun g hg => by simp [Value.ownBlock] at hg; omega, HBX.out, HBY.out, HK0.out⟩
 case round =>
  obtain ⟨k, hk, rfl, hown, hlo, hbx, hby, hkp⟩ := hrel; have HO := hH hown; have HLO := hH hlo; have HK := hH hkp; have HBx := hH hbx; have HBy := hH hby; have hll := nextTo_len x y k; have x0 := hbx.cell 0; have y0 := hby.cell 0; have x1 := hbx.cell 1; have y1 := hby.cell 1; have x2 := hbx.cell 2; have y2 := hby.cell 2; have x3 := hbx.cell 3; have y3 := hby.cell 3; have x4 := hbx.cell 4; have y4 := hby.cell 4; have x5 := hbx.cell 5; have y5 := hby.cell 5; have x6 := hbx.cell 6; have y6 := hby.cell 6; simp at x0 y0 x1 y1 x2 y2 x3 y3 x4 y4 x5 y5 x6 y6; clear hown hlo hbx hby hkp
  by_cases hlt : k < 7
  ·have hle : (k : Int) + 1 ≤ 7 := by omega
   have HYES := hH (@nextTo_yes x y k); have HNO := hH (@nextTo_no x y k); have HM := hH (HMY.out ((k : Int) + 1)); generalize wmayB x y ((k : Int) + 1) = o at HYES HNO HM; go_wp2_with fail; refine (HM.out _ (HX.out.kept HK.out) (HY.out.kept HK.out)).mono ?_; rintro e w1 ⟨rfl, hk1⟩; have HK1 := hH (HK.out.trans hk1); have HO1 := hH (owns_keeps HO.out hk1 fun _ _ h => h); have HBx1 := hH (HBx.out.keeps hk1 fun h => h); have HBy1 := hH (HBy.out.keeps hk1 fun h => h); have hs1 := HBy1.out.lt; clear hk1 x0 y0 x1 y1 x2 y2 x3 y3 x4 y4 x5 y5 x6 y6
   cases o with
   | false =>
    go_wp2; refine ⟨⟨k + 1, by omega, by go_num, ?_, HLO.out, HBx1.out, HBy1.out, HK1.out⟩, by simp [intOf]; omega⟩; rw [HNO.out (by simp)]; exact HO1.out
   | true =>
    go_wp2_with (at_builtin; refine wpList_app1 _ rfl _ _ 25 rfl 3 (.int .i64 0) 1 8 Tryd.underlying25 info_int3 rfl (by decide) (by decide) _ _ _ rfl HO1.out _ rfl #[.int .i64 ((k : Int) + 1)] _ rfl rfl rfl ?qd ?qe ?_)
    case qd => first | rfl | exact one_ints (xs := [(k : Int) + 1])
    case qe => omega
    intro A' c' w3 ho3 hk3 hf3; have HO3 := hH ho3; have HK3 := hH (HK1.out.then hk3 fun i hi h => by have := HLO.out i h; omega); have HBx3 := hH (HBx1.out.keeps hk3 fun h => by have := HLO.out _ h; omega); have HBy3 := hH (HBy1.out.keeps hk3 fun h => by have := HLO.out _ h; omega); have HLO3 := hH (fun g (hg : (Value.slice A' ((nextTo x y k).length + 1) c').ownBlock = some g) => (show w.heap.size + 2 ≤ g by rcases hf3 g hg with h | h; exact HLO.out g h; omega)); clear ho3 hk3 hf3; go_wp2; refine ⟨⟨k + 1, by omega, by go_num, ?_, HLO3.out, HBx3.out, HBy3.out, HK3.out⟩, by simp [intOf]; omega⟩; rw [HYES.out (by simp), List.length_append, vIs_snoc]; exact HO3.out
  ·obtain rfl : k = 7 := by omega
   go_wp2; obtain ⟨A, c, rfl⟩ := (show Rw (fun _ => 0) 0 wr 3 1 u5 _ _ from ⟨HO.out, fun _ _ => rfl⟩).shape; go_ret; exact ⟨A, c, rfl, HO.out, fun g hg => by have := HLO.out g hg; omega, HK.out⟩
end Go.Proofs.YtjcbeihoeanhaaaDoor
