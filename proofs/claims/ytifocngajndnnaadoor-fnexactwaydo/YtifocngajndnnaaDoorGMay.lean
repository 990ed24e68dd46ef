/- l11May, l11Do, WayMay, WayNext of the model. -/
import Derived.Test.YtifocngajndnnaaDoorGWay
set_option linter.unusedVariables false
set_option linter.unusedSimpArgs false
namespace Go.Proofs.YtifocngajndnnaaDoor
open Go.RowKit

set_option maxRecDepth 100000 in
set_option maxHeartbeats 2000000 in
theorem l11May_1 (x y : StL) (A1 A2 A3 A4 B1 B2 B3 B4 : Option Addr) (c1 c2 c3 c4 d1 d2 d3 d4 : Nat) (w : World) (hx : StAt w x A1 A2 A3 A4) (hy : StAt w y B1 B2 B3 B4) (hv : -100 ≤ x.ver ∧ x.ver ≤ 100) :
    Calls Tryd.prog 48 #[stV x A1 A2 A3 A4 c1 c2 c3 c4, stV y B1 B2 B3 B4 d1 d2 d3 d4, .int .i64 1] w fun e w' => e = .returned (.bool (mayB x y 1)) ∧ Keeps noBlk w w' := by
  have HX := Lib.hid ((hx.alloc (.cells #[.int .i64 x.way, .int .i64 x.ver, .int .i64 x.want, .slice A1 x.sent.length c1, .slice A2 x.live.length c2, .slice A3 x.back.length c3, .slice A4 x.got.length c4] 31)).alloc (.cells #[.int .i64 y.way, .int .i64 y.ver, .int .i64 y.want, .slice B1 y.sent.length d1, .slice B2 y.live.length d2, .slice B3 y.back.length d3, .slice B4 y.got.length d4] 31))
  have HY := Lib.hid ((hy.alloc (.cells #[.int .i64 x.way, .int .i64 x.ver, .int .i64 x.want, .slice A1 x.sent.length c1, .slice A2 x.live.length c2, .slice A3 x.back.length c3, .slice A4 x.got.length c4] 31)).alloc (.cells #[.int .i64 y.way, .int .i64 y.ver, .int .i64 y.want, .slice B1 y.sent.length d1, .slice B2 y.live.length d2, .slice B3 y.back.length d3, .slice B4 y.got.length d4] 31))
  have HLX := Lib.hid (fun W (h : StAt W x A1 A2 A3 A4) => l3Live_eq x A1 A2 A3 A4 c1 c2 c3 c4 W h)
  have HLY := Lib.hid (fun W (h : StAt W y B1 B2 B3 B4) => l3Live_eq y B1 B2 B3 B4 d1 d2 d3 d4 W h)
  have HK := Lib.hid (((Keeps.refl noBlk w).alloc (.cells #[.int .i64 x.way, .int .i64 x.ver, .int .i64 x.want, .slice A1 x.sent.length c1, .slice A2 x.live.length c2, .slice A3 x.back.length c3, .slice A4 x.got.length c4] 31)).alloc (.cells #[.int .i64 y.way, .int .i64 y.ver, .int .i64 y.want, .slice B1 y.sent.length d1, .slice B2 y.live.length d2, .slice B3 y.back.length d3, .slice B4 y.got.length d4] 31))
  have hbx := (Box.new w _ rfl 31 #[.int .i64 x.way, .int .i64 x.ver, .int .i64 x.want, .slice A1 x.sent.length c1, .slice A2 x.live.length c2, .slice A3 x.back.length c3, .slice A4 x.got.length c4]).alloc (.cells #[.int .i64 y.way, .int .i64 y.ver, .int .i64 y.want, .slice B1 y.sent.length d1, .slice B2 y.live.length d2, .slice B3 y.back.length d3, .slice B4 y.got.length d4] 31)
  have hby := Box.new (w.alloc (.cells #[.int .i64 x.way, .int .i64 x.ver, .int .i64 x.want, .slice A1 x.sent.length c1, .slice A2 x.live.length c2, .slice A3 x.back.length c3, .slice A4 x.got.length c4] 31)) (w.heap.size + 1) (by simp) 31 #[.int .i64 y.way, .int .i64 y.ver, .int .i64 y.want, .slice B1 y.sent.length d1, .slice B2 y.live.length d2, .slice B3 y.back.length d3, .slice B4 y.got.length d4]
  have hz : w.heap.size + 1 < ((w.alloc (.cells #[.int .i64 x.way, .int .i64 x.ver, .int .i64 x.want, .slice A1 x.sent.length c1, .slice A2 x.live.length c2, .slice A3 x.back.length c3, .slice A4 x.got.length c4] 31)).alloc (.cells #[.int .i64 y.way, .int .i64 y.ver, .int .i64 y.want, .slice B1 y.sent.length d1, .slice B2 y.live.length d2, .slice B3 y.back.length d3, .slice B4 y.got.length d4] 31)).heap.size := by simp
  clear hx hy
  unfold stV at HLX HLY ⊢
  go_enter Tryd.func48, Tryd.ntmps48
  by_cases q0 : x.way = 0
  · have eq0 : (x.way == 0) = true := by simp [q0]
    have HF := Lib.hid (show mayB x y 1 = true by simp [mayB, q0])
    clear q0
    have TX : True := trivial
    go_wp2_with (first | (clear TX; go_at_call 78; refine (HLX.out _ HX.out).mono ?_; rintro e w' ⟨rfl, rfl⟩) | (go_at_call 78; refine (HLY.out _ (HY.out.alloc _)).mono ?_; rintro e w' ⟨rfl, rfl⟩))
    go_ret
    exact ⟨by simp [HF.out], by first | exact HK.out | exact HK.out.alloc _ | exact (HK.out.alloc _).alloc _⟩
  · have eq0 : (x.way == 0) = false := by simp [q0]
    have HF := Lib.hid (show mayB x y 1 = false by simp [mayB, q0])
    clear q0
    have TX : True := trivial
    go_wp2_with (first | (clear TX; go_at_call 78; refine (HLX.out _ HX.out).mono ?_; rintro e w' ⟨rfl, rfl⟩) | (go_at_call 78; refine (HLY.out _ (HY.out.alloc _)).mono ?_; rintro e w' ⟨rfl, rfl⟩))
    go_ret
    exact ⟨by simp [HF.out], by first | exact HK.out | exact HK.out.alloc _ | exact (HK.out.alloc _).alloc _⟩
set_option maxRecDepth 100000 in
set_option maxHeartbeats 2000000 in
theorem l11May_2 (x y : StL) (A1 A2 A3 A4 B1 B2 B3 B4 : Option Addr) (c1 c2 c3 c4 d1 d2 d3 d4 : Nat) (w : World) (hx : StAt w x A1 A2 A3 A4) (hy : StAt w y B1 B2 B3 B4) (hv : -100 ≤ x.ver ∧ x.ver ≤ 100) :
    Calls Tryd.prog 48 #[stV x A1 A2 A3 A4 c1 c2 c3 c4, stV y B1 B2 B3 B4 d1 d2 d3 d4, .int .i64 2] w fun e w' => e = .returned (.bool (mayB x y 2)) ∧ Keeps noBlk w w' := by
  have HX := Lib.hid ((hx.alloc (.cells #[.int .i64 x.way, .int .i64 x.ver, .int .i64 x.want, .slice A1 x.sent.length c1, .slice A2 x.live.length c2, .slice A3 x.back.length c3, .slice A4 x.got.length c4] 31)).alloc (.cells #[.int .i64 y.way, .int .i64 y.ver, .int .i64 y.want, .slice B1 y.sent.length d1, .slice B2 y.live.length d2, .slice B3 y.back.length d3, .slice B4 y.got.length d4] 31))
  have HY := Lib.hid ((hy.alloc (.cells #[.int .i64 x.way, .int .i64 x.ver, .int .i64 x.want, .slice A1 x.sent.length c1, .slice A2 x.live.length c2, .slice A3 x.back.length c3, .slice A4 x.got.length c4] 31)).alloc (.cells #[.int .i64 y.way, .int .i64 y.ver, .int .i64 y.want, .slice B1 y.sent.length d1, .slice B2 y.live.length d2, .slice B3 y.back.length d3, .slice B4 y.got.length d4] 31))
  have HLX := Lib.hid (fun W (h : StAt W x A1 A2 A3 A4) => l3Live_eq x A1 A2 A3 A4 c1 c2 c3 c4 W h)
  have HLY := Lib.hid (fun W (h : StAt W y B1 B2 B3 B4) => l3Live_eq y B1 B2 B3 B4 d1 d2 d3 d4 W h)
  have HK := Lib.hid (((Keeps.refl noBlk w).alloc (.cells #[.int .i64 x.way, .int .i64 x.ver, .int .i64 x.want, .slice A1 x.sent.length c1, .slice A2 x.live.length c2, .slice A3 x.back.length c3, .slice A4 x.got.length c4] 31)).alloc (.cells #[.int .i64 y.way, .int .i64 y.ver, .int .i64 y.want, .slice B1 y.sent.length d1, .slice B2 y.live.length d2, .slice B3 y.back.length d3, .slice B4 y.got.length d4] 31))
  have hbx := (Box.new w _ rfl 31 #[.int .i64 x.way, .int .i64 x.ver, .int .i64 x.want, .slice A1 x.sent.length c1, .slice A2 x.live.length c2, .slice A3 x.back.length c3, .slice A4 x.got.length c4]).alloc (.cells #[.int .i64 y.way, .int .i64 y.ver, .int .i64 y.want, .slice B1 y.sent.length d1, .slice B2 y.live.length d2, .slice B3 y.back.length d3, .slice B4 y.got.length d4] 31)
  have hby := Box.new (w.alloc (.cells #[.int .i64 x.way, .int .i64 x.ver, .int .i64 x.want, .slice A1 x.sent.length c1, .slice A2 x.live.length c2, .slice A3 x.back.length c3, .slice A4 x.got.length c4] 31)) (w.heap.size + 1) (by simp) 31 #[.int .i64 y.way, .int .i64 y.ver, .int .i64 y.want, .slice B1 y.sent.length d1, .slice B2 y.live.length d2, .slice B3 y.back.length d3, .slice B4 y.got.length d4]
  have hz : w.heap.size + 1 < ((w.alloc (.cells #[.int .i64 x.way, .int .i64 x.ver, .int .i64 x.want, .slice A1 x.sent.length c1, .slice A2 x.live.length c2, .slice A3 x.back.length c3, .slice A4 x.got.length c4] 31)).alloc (.cells #[.int .i64 y.way, .int .i64 y.ver, .int .i64 y.want, .slice B1 y.sent.length d1, .slice B2 y.live.length d2, .slice B3 y.back.length d3, .slice B4 y.got.length d4] 31)).heap.size := by simp
  clear hx hy
  unfold stV at HLX HLY ⊢
  go_enter Tryd.func48, Tryd.ntmps48
  by_cases q0 : x.way ≤ 1
  · have eq0 : decide (x.way ≤ 1) = true := by simp [q0]
    by_cases q1 : y.way = 1
    · have eq1 : (y.way == 1) = true := by simp [q1]
      have HF := Lib.hid (show mayB x y 2 = true by simp [mayB, q0, q1])
      clear q0 q1
      have TX : True := trivial
      go_wp2_with (first | (clear TX; go_at_call 78; refine (HLX.out _ HX.out).mono ?_; rintro e w' ⟨rfl, rfl⟩) | (go_at_call 78; refine (HLY.out _ (HY.out.alloc _)).mono ?_; rintro e w' ⟨rfl, rfl⟩))
      go_ret
      exact ⟨by simp [HF.out], by first | exact HK.out | exact HK.out.alloc _ | exact (HK.out.alloc _).alloc _⟩
    · have eq1 : (y.way == 1) = false := by simp [q1]
      by_cases q2 : y.way = 2
      · have eq2 : (y.way == 2) = true := by simp [q2]
        have HF := Lib.hid (show mayB x y 2 = true by simp [mayB, q0, q1, q2])
        clear q0 q1 q2
        have TX : True := trivial
        go_wp2_with (first | (clear TX; go_at_call 78; refine (HLX.out _ HX.out).mono ?_; rintro e w' ⟨rfl, rfl⟩) | (go_at_call 78; refine (HLY.out _ (HY.out.alloc _)).mono ?_; rintro e w' ⟨rfl, rfl⟩))
        go_ret
        exact ⟨by simp [HF.out], by first | exact HK.out | exact HK.out.alloc _ | exact (HK.out.alloc _).alloc _⟩
      · have eq2 : (y.way == 2) = false := by simp [q2]
        have HF := Lib.hid (show mayB x y 2 = false by simp [mayB, q0, q1, q2])
        clear q0 q1 q2
        have TX : True := trivial
        go_wp2_with (first | (clear TX; go_at_call 78; refine (HLX.out _ HX.out).mono ?_; rintro e w' ⟨rfl, rfl⟩) | (go_at_call 78; refine (HLY.out _ (HY.out.alloc _)).mono ?_; rintro e w' ⟨rfl, rfl⟩))
        go_ret
        exact ⟨by simp [HF.out], by first | exact HK.out | exact HK.out.alloc _ | exact (HK.out.alloc _).alloc _⟩
  · have eq0 : decide (x.way ≤ 1) = false := by simp [q0]
    have HF := Lib.hid (show mayB x y 2 = false by simp [mayB, q0])
    clear q0
    have TX : True := trivial
    go_wp2_with (first | (clear TX; go_at_call 78; refine (HLX.out _ HX.out).mono ?_; rintro e w' ⟨rfl, rfl⟩) | (go_at_call 78; refine (HLY.out _ (HY.out.alloc _)).mono ?_; rintro e w' ⟨rfl, rfl⟩))
    go_ret
    exact ⟨by simp [HF.out], by first | exact HK.out | exact HK.out.alloc _ | exact (HK.out.alloc _).alloc _⟩
set_option maxRecDepth 100000 in
set_option maxHeartbeats 2000000 in
theorem l11May_3 (x y : StL) (A1 A2 A3 A4 B1 B2 B3 B4 : Option Addr) (c1 c2 c3 c4 d1 d2 d3 d4 : Nat) (w : World) (hx : StAt w x A1 A2 A3 A4) (hy : StAt w y B1 B2 B3 B4) (hv : -100 ≤ x.ver ∧ x.ver ≤ 100) :
    Calls Tryd.prog 48 #[stV x A1 A2 A3 A4 c1 c2 c3 c4, stV y B1 B2 B3 B4 d1 d2 d3 d4, .int .i64 3] w fun e w' => e = .returned (.bool (mayB x y 3)) ∧ Keeps noBlk w w' := by
  have HX := Lib.hid ((hx.alloc (.cells #[.int .i64 x.way, .int .i64 x.ver, .int .i64 x.want, .slice A1 x.sent.length c1, .slice A2 x.live.length c2, .slice A3 x.back.length c3, .slice A4 x.got.length c4] 31)).alloc (.cells #[.int .i64 y.way, .int .i64 y.ver, .int .i64 y.want, .slice B1 y.sent.length d1, .slice B2 y.live.length d2, .slice B3 y.back.length d3, .slice B4 y.got.length d4] 31))
  have HY := Lib.hid ((hy.alloc (.cells #[.int .i64 x.way, .int .i64 x.ver, .int .i64 x.want, .slice A1 x.sent.length c1, .slice A2 x.live.length c2, .slice A3 x.back.length c3, .slice A4 x.got.length c4] 31)).alloc (.cells #[.int .i64 y.way, .int .i64 y.ver, .int .i64 y.want, .slice B1 y.sent.length d1, .slice B2 y.live.length d2, .slice B3 y.back.length d3, .slice B4 y.got.length d4] 31))
  have HLX := Lib.hid (fun W (h : StAt W x A1 A2 A3 A4) => l3Live_eq x A1 A2 A3 A4 c1 c2 c3 c4 W h)
  have HLY := Lib.hid (fun W (h : StAt W y B1 B2 B3 B4) => l3Live_eq y B1 B2 B3 B4 d1 d2 d3 d4 W h)
  have HK := Lib.hid (((Keeps.refl noBlk w).alloc (.cells #[.int .i64 x.way, .int .i64 x.ver, .int .i64 x.want, .slice A1 x.sent.length c1, .slice A2 x.live.length c2, .slice A3 x.back.length c3, .slice A4 x.got.length c4] 31)).alloc (.cells #[.int .i64 y.way, .int .i64 y.ver, .int .i64 y.want, .slice B1 y.sent.length d1, .slice B2 y.live.length d2, .slice B3 y.back.length d3, .slice B4 y.got.length d4] 31))
  have hbx := (Box.new w _ rfl 31 #[.int .i64 x.way, .int .i64 x.ver, .int .i64 x.want, .slice A1 x.sent.length c1, .slice A2 x.live.length c2, .slice A3 x.back.length c3, .slice A4 x.got.length c4]).alloc (.cells #[.int .i64 y.way, .int .i64 y.ver, .int .i64 y.want, .slice B1 y.sent.length d1, .slice B2 y.live.length d2, .slice B3 y.back.length d3, .slice B4 y.got.length d4] 31)
  have hby := Box.new (w.alloc (.cells #[.int .i64 x.way, .int .i64 x.ver, .int .i64 x.want, .slice A1 x.sent.length c1, .slice A2 x.live.length c2, .slice A3 x.back.length c3, .slice A4 x.got.length c4] 31)) (w.heap.size + 1) (by simp) 31 #[.int .i64 y.way, .int .i64 y.ver, .int .i64 y.want, .slice B1 y.sent.length d1, .slice B2 y.live.length d2, .slice B3 y.back.length d3, .slice B4 y.got.length d4]
  have hz : w.heap.size + 1 < ((w.alloc (.cells #[.int .i64 x.way, .int .i64 x.ver, .int .i64 x.want, .slice A1 x.sent.length c1, .slice A2 x.live.length c2, .slice A3 x.back.length c3, .slice A4 x.got.length c4] 31)).alloc (.cells #[.int .i64 y.way, .int .i64 y.ver, .int .i64 y.want, .slice B1 y.sent.length d1, .slice B2 y.live.length d2, .slice B3 y.back.length d3, .slice B4 y.got.length d4] 31)).heap.size := by simp
  clear hx hy
  unfold stV at HLX HLY ⊢
  go_enter Tryd.func48, Tryd.ntmps48
  by_cases q0 : x.way = 1
  · have eq0 : (x.way == 1) = true := by simp [q0]
    by_cases q1 : 2 ≤ y.way
    · have eq1 : decide (2 ≤ y.way) = true := by simp [q1]
      have HF := Lib.hid (show mayB x y 3 = true by simp [mayB, q0, q1])
      clear q0 q1
      have TX : True := trivial
      go_wp2_with (first | (clear TX; go_at_call 78; refine (HLX.out _ HX.out).mono ?_; rintro e w' ⟨rfl, rfl⟩) | (go_at_call 78; refine (HLY.out _ (HY.out.alloc _)).mono ?_; rintro e w' ⟨rfl, rfl⟩))
      go_ret
      exact ⟨by simp [HF.out], by first | exact HK.out | exact HK.out.alloc _ | exact (HK.out.alloc _).alloc _⟩
    · have eq1 : decide (2 ≤ y.way) = false := by simp [q1]
      have HF := Lib.hid (show mayB x y 3 = false by simp [mayB, q0, q1])
      clear q0 q1
      have TX : True := trivial
      go_wp2_with (first | (clear TX; go_at_call 78; refine (HLX.out _ HX.out).mono ?_; rintro e w' ⟨rfl, rfl⟩) | (go_at_call 78; refine (HLY.out _ (HY.out.alloc _)).mono ?_; rintro e w' ⟨rfl, rfl⟩))
      go_ret
      exact ⟨by simp [HF.out], by first | exact HK.out | exact HK.out.alloc _ | exact (HK.out.alloc _).alloc _⟩
  · have eq0 : (x.way == 1) = false := by simp [q0]
    have HF := Lib.hid (show mayB x y 3 = false by simp [mayB, q0])
    clear q0
    have TX : True := trivial
    go_wp2_with (first | (clear TX; go_at_call 78; refine (HLX.out _ HX.out).mono ?_; rintro e w' ⟨rfl, rfl⟩) | (go_at_call 78; refine (HLY.out _ (HY.out.alloc _)).mono ?_; rintro e w' ⟨rfl, rfl⟩))
    go_ret
    exact ⟨by simp [HF.out], by first | exact HK.out | exact HK.out.alloc _ | exact (HK.out.alloc _).alloc _⟩
set_option maxRecDepth 100000 in
set_option maxHeartbeats 2000000 in
theorem l11May_4 (x y : StL) (A1 A2 A3 A4 B1 B2 B3 B4 : Option Addr) (c1 c2 c3 c4 d1 d2 d3 d4 : Nat) (w : World) (hx : StAt w x A1 A2 A3 A4) (hy : StAt w y B1 B2 B3 B4) (hv : -100 ≤ x.ver ∧ x.ver ≤ 100) :
    Calls Tryd.prog 48 #[stV x A1 A2 A3 A4 c1 c2 c3 c4, stV y B1 B2 B3 B4 d1 d2 d3 d4, .int .i64 4] w fun e w' => e = .returned (.bool (mayB x y 4)) ∧ Keeps noBlk w w' := by
  have HX := Lib.hid ((hx.alloc (.cells #[.int .i64 x.way, .int .i64 x.ver, .int .i64 x.want, .slice A1 x.sent.length c1, .slice A2 x.live.length c2, .slice A3 x.back.length c3, .slice A4 x.got.length c4] 31)).alloc (.cells #[.int .i64 y.way, .int .i64 y.ver, .int .i64 y.want, .slice B1 y.sent.length d1, .slice B2 y.live.length d2, .slice B3 y.back.length d3, .slice B4 y.got.length d4] 31))
  have HY := Lib.hid ((hy.alloc (.cells #[.int .i64 x.way, .int .i64 x.ver, .int .i64 x.want, .slice A1 x.sent.length c1, .slice A2 x.live.length c2, .slice A3 x.back.length c3, .slice A4 x.got.length c4] 31)).alloc (.cells #[.int .i64 y.way, .int .i64 y.ver, .int .i64 y.want, .slice B1 y.sent.length d1, .slice B2 y.live.length d2, .slice B3 y.back.length d3, .slice B4 y.got.length d4] 31))
  have HLX := Lib.hid (fun W (h : StAt W x A1 A2 A3 A4) => l3Live_eq x A1 A2 A3 A4 c1 c2 c3 c4 W h)
  have HLY := Lib.hid (fun W (h : StAt W y B1 B2 B3 B4) => l3Live_eq y B1 B2 B3 B4 d1 d2 d3 d4 W h)
  have HK := Lib.hid (((Keeps.refl noBlk w).alloc (.cells #[.int .i64 x.way, .int .i64 x.ver, .int .i64 x.want, .slice A1 x.sent.length c1, .slice A2 x.live.length c2, .slice A3 x.back.length c3, .slice A4 x.got.length c4] 31)).alloc (.cells #[.int .i64 y.way, .int .i64 y.ver, .int .i64 y.want, .slice B1 y.sent.length d1, .slice B2 y.live.length d2, .slice B3 y.back.length d3, .slice B4 y.got.length d4] 31))
  have hbx := (Box.new w _ rfl 31 #[.int .i64 x.way, .int .i64 x.ver, .int .i64 x.want, .slice A1 x.sent.length c1, .slice A2 x.live.length c2, .slice A3 x.back.length c3, .slice A4 x.got.length c4]).alloc (.cells #[.int .i64 y.way, .int .i64 y.ver, .int .i64 y.want, .slice B1 y.sent.length d1, .slice B2 y.live.length d2, .slice B3 y.back.length d3, .slice B4 y.got.length d4] 31)
  have hby := Box.new (w.alloc (.cells #[.int .i64 x.way, .int .i64 x.ver, .int .i64 x.want, .slice A1 x.sent.length c1, .slice A2 x.live.length c2, .slice A3 x.back.length c3, .slice A4 x.got.length c4] 31)) (w.heap.size + 1) (by simp) 31 #[.int .i64 y.way, .int .i64 y.ver, .int .i64 y.want, .slice B1 y.sent.length d1, .slice B2 y.live.length d2, .slice B3 y.back.length d3, .slice B4 y.got.length d4]
  have hz : w.heap.size + 1 < ((w.alloc (.cells #[.int .i64 x.way, .int .i64 x.ver, .int .i64 x.want, .slice A1 x.sent.length c1, .slice A2 x.live.length c2, .slice A3 x.back.length c3, .slice A4 x.got.length c4] 31)).alloc (.cells #[.int .i64 y.way, .int .i64 y.ver, .int .i64 y.want, .slice B1 y.sent.length d1, .slice B2 y.live.length d2, .slice B3 y.back.length d3, .slice B4 y.got.length d4] 31)).heap.size := by simp
  clear hx hy
  unfold stV at HLX HLY ⊢
  go_enter Tryd.func48, Tryd.ntmps48
  by_cases q0 : x.way = 2
  · have eq0 : (x.way == 2) = true := by simp [q0]
    by_cases q1 : 2 ≤ y.way
    · have eq1 : decide (2 ≤ y.way) = true := by simp [q1]
      have HF := Lib.hid (show mayB x y 4 = true by simp [mayB, q0, q1])
      clear q0 q1
      have TX : True := trivial
      go_wp2_with (first | (clear TX; go_at_call 78; refine (HLX.out _ HX.out).mono ?_; rintro e w' ⟨rfl, rfl⟩) | (go_at_call 78; refine (HLY.out _ (HY.out.alloc _)).mono ?_; rintro e w' ⟨rfl, rfl⟩))
      go_ret
      exact ⟨by simp [HF.out], by first | exact HK.out | exact HK.out.alloc _ | exact (HK.out.alloc _).alloc _⟩
    · have eq1 : decide (2 ≤ y.way) = false := by simp [q1]
      have HF := Lib.hid (show mayB x y 4 = false by simp [mayB, q0, q1])
      clear q0 q1
      have TX : True := trivial
      go_wp2_with (first | (clear TX; go_at_call 78; refine (HLX.out _ HX.out).mono ?_; rintro e w' ⟨rfl, rfl⟩) | (go_at_call 78; refine (HLY.out _ (HY.out.alloc _)).mono ?_; rintro e w' ⟨rfl, rfl⟩))
      go_ret
      exact ⟨by simp [HF.out], by first | exact HK.out | exact HK.out.alloc _ | exact (HK.out.alloc _).alloc _⟩
  · have eq0 : (x.way == 2) = false := by simp [q0]
    have HF := Lib.hid (show mayB x y 4 = false by simp [mayB, q0])
    clear q0
    have TX : True := trivial
    go_wp2_with (first | (clear TX; go_at_call 78; refine (HLX.out _ HX.out).mono ?_; rintro e w' ⟨rfl, rfl⟩) | (go_at_call 78; refine (HLY.out _ (HY.out.alloc _)).mono ?_; rintro e w' ⟨rfl, rfl⟩))
    go_ret
    exact ⟨by simp [HF.out], by first | exact HK.out | exact HK.out.alloc _ | exact (HK.out.alloc _).alloc _⟩
set_option maxRecDepth 100000 in
set_option maxHeartbeats 2000000 in
theorem l11May_5 (x y : StL) (A1 A2 A3 A4 B1 B2 B3 B4 : Option Addr) (c1 c2 c3 c4 d1 d2 d3 d4 : Nat) (w : World) (hx : StAt w x A1 A2 A3 A4) (hy : StAt w y B1 B2 B3 B4) (hv : -100 ≤ x.ver ∧ x.ver ≤ 100) :
    Calls Tryd.prog 48 #[stV x A1 A2 A3 A4 c1 c2 c3 c4, stV y B1 B2 B3 B4 d1 d2 d3 d4, .int .i64 5] w fun e w' => e = .returned (.bool (mayB x y 5)) ∧ Keeps noBlk w w' := by
  have HX := Lib.hid ((hx.alloc (.cells #[.int .i64 x.way, .int .i64 x.ver, .int .i64 x.want, .slice A1 x.sent.length c1, .slice A2 x.live.length c2, .slice A3 x.back.length c3, .slice A4 x.got.length c4] 31)).alloc (.cells #[.int .i64 y.way, .int .i64 y.ver, .int .i64 y.want, .slice B1 y.sent.length d1, .slice B2 y.live.length d2, .slice B3 y.back.length d3, .slice B4 y.got.length d4] 31))
  have HY := Lib.hid ((hy.alloc (.cells #[.int .i64 x.way, .int .i64 x.ver, .int .i64 x.want, .slice A1 x.sent.length c1, .slice A2 x.live.length c2, .slice A3 x.back.length c3, .slice A4 x.got.length c4] 31)).alloc (.cells #[.int .i64 y.way, .int .i64 y.ver, .int .i64 y.want, .slice B1 y.sent.length d1, .slice B2 y.live.length d2, .slice B3 y.back.length d3, .slice B4 y.got.length d4] 31))
  have HLX := Lib.hid (fun W (h : StAt W x A1 A2 A3 A4) => l3Live_eq x A1 A2 A3 A4 c1 c2 c3 c4 W h)
  have HLY := Lib.hid (fun W (h : StAt W y B1 B2 B3 B4) => l3Live_eq y B1 B2 B3 B4 d1 d2 d3 d4 W h)
  have HK := Lib.hid (((Keeps.refl noBlk w).alloc (.cells #[.int .i64 x.way, .int .i64 x.ver, .int .i64 x.want, .slice A1 x.sent.length c1, .slice A2 x.live.length c2, .slice A3 x.back.length c3, .slice A4 x.got.length c4] 31)).alloc (.cells #[.int .i64 y.way, .int .i64 y.ver, .int .i64 y.want, .slice B1 y.sent.length d1, .slice B2 y.live.length d2, .slice B3 y.back.length d3, .slice B4 y.got.length d4] 31))
  have hbx := (Box.new w _ rfl 31 #[.int .i64 x.way, .int .i64 x.ver, .int .i64 x.want, .slice A1 x.sent.length c1, .slice A2 x.live.length c2, .slice A3 x.back.length c3, .slice A4 x.got.length c4]).alloc (.cells #[.int .i64 y.way, .int .i64 y.ver, .int .i64 y.want, .slice B1 y.sent.length d1, .slice B2 y.live.length d2, .slice B3 y.back.length d3, .slice B4 y.got.length d4] 31)
  have hby := Box.new (w.alloc (.cells #[.int .i64 x.way, .int .i64 x.ver, .int .i64 x.want, .slice A1 x.sent.length c1, .slice A2 x.live.length c2, .slice A3 x.back.length c3, .slice A4 x.got.length c4] 31)) (w.heap.size + 1) (by simp) 31 #[.int .i64 y.way, .int .i64 y.ver, .int .i64 y.want, .slice B1 y.sent.length d1, .slice B2 y.live.length d2, .slice B3 y.back.length d3, .slice B4 y.got.length d4]
  have hz : w.heap.size + 1 < ((w.alloc (.cells #[.int .i64 x.way, .int .i64 x.ver, .int .i64 x.want, .slice A1 x.sent.length c1, .slice A2 x.live.length c2, .slice A3 x.back.length c3, .slice A4 x.got.length c4] 31)).alloc (.cells #[.int .i64 y.way, .int .i64 y.ver, .int .i64 y.want, .slice B1 y.sent.length d1, .slice B2 y.live.length d2, .slice B3 y.back.length d3, .slice B4 y.got.length d4] 31)).heap.size := by simp
  clear hx hy
  unfold stV at HLX HLY ⊢
  go_enter Tryd.func48, Tryd.ntmps48
  by_cases q0 : x.way = 3
  · have eq0 : (x.way == 3) = true := by simp [q0]
    by_cases q1 : x.ver < 9
    · have eq1 : decide (x.ver < 9) = true := by simp [q1]
      have HF := Lib.hid (show mayB x y 5 = true by simp [mayB, q0, q1])
      clear q0 q1
      have TX : True := trivial
      go_wp2_with (first | (clear TX; go_at_call 78; refine (HLX.out _ HX.out).mono ?_; rintro e w' ⟨rfl, rfl⟩) | (go_at_call 78; refine (HLY.out _ (HY.out.alloc _)).mono ?_; rintro e w' ⟨rfl, rfl⟩))
      go_ret
      exact ⟨by simp [HF.out], by first | exact HK.out | exact HK.out.alloc _ | exact (HK.out.alloc _).alloc _⟩
    · have eq1 : decide (x.ver < 9) = false := by simp [q1]
      have HF := Lib.hid (show mayB x y 5 = false by simp [mayB, q0, q1])
      clear q0 q1
      have TX : True := trivial
      go_wp2_with (first | (clear TX; go_at_call 78; refine (HLX.out _ HX.out).mono ?_; rintro e w' ⟨rfl, rfl⟩) | (go_at_call 78; refine (HLY.out _ (HY.out.alloc _)).mono ?_; rintro e w' ⟨rfl, rfl⟩))
      go_ret
      exact ⟨by simp [HF.out], by first | exact HK.out | exact HK.out.alloc _ | exact (HK.out.alloc _).alloc _⟩
  · have eq0 : (x.way == 3) = false := by simp [q0]
    have HF := Lib.hid (show mayB x y 5 = false by simp [mayB, q0])
    clear q0
    have TX : True := trivial
    go_wp2_with (first | (clear TX; go_at_call 78; refine (HLX.out _ HX.out).mono ?_; rintro e w' ⟨rfl, rfl⟩) | (go_at_call 78; refine (HLY.out _ (HY.out.alloc _)).mono ?_; rintro e w' ⟨rfl, rfl⟩))
    go_ret
    exact ⟨by simp [HF.out], by first | exact HK.out | exact HK.out.alloc _ | exact (HK.out.alloc _).alloc _⟩
set_option maxRecDepth 100000 in
set_option maxHeartbeats 2000000 in
theorem l11May_6 (x y : StL) (A1 A2 A3 A4 B1 B2 B3 B4 : Option Addr) (c1 c2 c3 c4 d1 d2 d3 d4 : Nat) (w : World) (hx : StAt w x A1 A2 A3 A4) (hy : StAt w y B1 B2 B3 B4) (hv : -100 ≤ x.ver ∧ x.ver ≤ 100) :
    Calls Tryd.prog 48 #[stV x A1 A2 A3 A4 c1 c2 c3 c4, stV y B1 B2 B3 B4 d1 d2 d3 d4, .int .i64 6] w fun e w' => e = .returned (.bool (mayB x y 6)) ∧ Keeps noBlk w w' := by
  have HX := Lib.hid ((hx.alloc (.cells #[.int .i64 x.way, .int .i64 x.ver, .int .i64 x.want, .slice A1 x.sent.length c1, .slice A2 x.live.length c2, .slice A3 x.back.length c3, .slice A4 x.got.length c4] 31)).alloc (.cells #[.int .i64 y.way, .int .i64 y.ver, .int .i64 y.want, .slice B1 y.sent.length d1, .slice B2 y.live.length d2, .slice B3 y.back.length d3, .slice B4 y.got.length d4] 31))
  have HY := Lib.hid ((hy.alloc (.cells #[.int .i64 x.way, .int .i64 x.ver, .int .i64 x.want, .slice A1 x.sent.length c1, .slice A2 x.live.length c2, .slice A3 x.back.length c3, .slice A4 x.got.length c4] 31)).alloc (.cells #[.int .i64 y.way, .int .i64 y.ver, .int .i64 y.want, .slice B1 y.sent.length d1, .slice B2 y.live.length d2, .slice B3 y.back.length d3, .slice B4 y.got.length d4] 31))
  have HLX := Lib.hid (fun W (h : StAt W x A1 A2 A3 A4) => l3Live_eq x A1 A2 A3 A4 c1 c2 c3 c4 W h)
  have HLY := Lib.hid (fun W (h : StAt W y B1 B2 B3 B4) => l3Live_eq y B1 B2 B3 B4 d1 d2 d3 d4 W h)
  have HK := Lib.hid (((Keeps.refl noBlk w).alloc (.cells #[.int .i64 x.way, .int .i64 x.ver, .int .i64 x.want, .slice A1 x.sent.length c1, .slice A2 x.live.length c2, .slice A3 x.back.length c3, .slice A4 x.got.length c4] 31)).alloc (.cells #[.int .i64 y.way, .int .i64 y.ver, .int .i64 y.want, .slice B1 y.sent.length d1, .slice B2 y.live.length d2, .slice B3 y.back.length d3, .slice B4 y.got.length d4] 31))
  have hbx := (Box.new w _ rfl 31 #[.int .i64 x.way, .int .i64 x.ver, .int .i64 x.want, .slice A1 x.sent.length c1, .slice A2 x.live.length c2, .slice A3 x.back.length c3, .slice A4 x.got.length c4]).alloc (.cells #[.int .i64 y.way, .int .i64 y.ver, .int .i64 y.want, .slice B1 y.sent.length d1, .slice B2 y.live.length d2, .slice B3 y.back.length d3, .slice B4 y.got.length d4] 31)
  have hby := Box.new (w.alloc (.cells #[.int .i64 x.way, .int .i64 x.ver, .int .i64 x.want, .slice A1 x.sent.length c1, .slice A2 x.live.length c2, .slice A3 x.back.length c3, .slice A4 x.got.length c4] 31)) (w.heap.size + 1) (by simp) 31 #[.int .i64 y.way, .int .i64 y.ver, .int .i64 y.want, .slice B1 y.sent.length d1, .slice B2 y.live.length d2, .slice B3 y.back.length d3, .slice B4 y.got.length d4]
  have hz : w.heap.size + 1 < ((w.alloc (.cells #[.int .i64 x.way, .int .i64 x.ver, .int .i64 x.want, .slice A1 x.sent.length c1, .slice A2 x.live.length c2, .slice A3 x.back.length c3, .slice A4 x.got.length c4] 31)).alloc (.cells #[.int .i64 y.way, .int .i64 y.ver, .int .i64 y.want, .slice B1 y.sent.length d1, .slice B2 y.live.length d2, .slice B3 y.back.length d3, .slice B4 y.got.length d4] 31)).heap.size := by simp
  clear hx hy
  unfold stV at HLX HLY ⊢
  go_enter Tryd.func48, Tryd.ntmps48
  by_cases q0 : x.way = 3
  · have eq0 : (x.way == 3) = true := by simp [q0]
    by_cases q1 : y.way = 4
    · have eq1 : (y.way == 4) = true := by simp [q1]
      by_cases q2 : y.want = x.ver + 1
      · have eq2 : (y.want == x.ver + 1) = true := by simp [q2]
        have HF := Lib.hid (show mayB x y 6 = true by simp [mayB, q0, q1, q2])
        clear q0 q1 q2
        have TX : True := trivial
        go_wp2_with (first | (clear TX; go_at_call 78; refine (HLX.out _ HX.out).mono ?_; rintro e w' ⟨rfl, rfl⟩) | (go_at_call 78; refine (HLY.out _ (HY.out.alloc _)).mono ?_; rintro e w' ⟨rfl, rfl⟩))
        go_ret
        exact ⟨by simp [HF.out], by first | exact HK.out | exact HK.out.alloc _ | exact (HK.out.alloc _).alloc _⟩
      · have eq2 : (y.want == x.ver + 1) = false := by simp [q2]
        have HF := Lib.hid (show mayB x y 6 = false by simp [mayB, q0, q1, q2])
        clear q0 q1 q2
        have TX : True := trivial
        go_wp2_with (first | (clear TX; go_at_call 78; refine (HLX.out _ HX.out).mono ?_; rintro e w' ⟨rfl, rfl⟩) | (go_at_call 78; refine (HLY.out _ (HY.out.alloc _)).mono ?_; rintro e w' ⟨rfl, rfl⟩))
        go_ret
        exact ⟨by simp [HF.out], by first | exact HK.out | exact HK.out.alloc _ | exact (HK.out.alloc _).alloc _⟩
    · have eq1 : (y.way == 4) = false := by simp [q1]
      have HF := Lib.hid (show mayB x y 6 = false by simp [mayB, q0, q1])
      clear q0 q1
      have TX : True := trivial
      go_wp2_with (first | (clear TX; go_at_call 78; refine (HLX.out _ HX.out).mono ?_; rintro e w' ⟨rfl, rfl⟩) | (go_at_call 78; refine (HLY.out _ (HY.out.alloc _)).mono ?_; rintro e w' ⟨rfl, rfl⟩))
      go_ret
      exact ⟨by simp [HF.out], by first | exact HK.out | exact HK.out.alloc _ | exact (HK.out.alloc _).alloc _⟩
  · have eq0 : (x.way == 3) = false := by simp [q0]
    have HF := Lib.hid (show mayB x y 6 = false by simp [mayB, q0])
    clear q0
    have TX : True := trivial
    go_wp2_with (first | (clear TX; go_at_call 78; refine (HLX.out _ HX.out).mono ?_; rintro e w' ⟨rfl, rfl⟩) | (go_at_call 78; refine (HLY.out _ (HY.out.alloc _)).mono ?_; rintro e w' ⟨rfl, rfl⟩))
    go_ret
    exact ⟨by simp [HF.out], by first | exact HK.out | exact HK.out.alloc _ | exact (HK.out.alloc _).alloc _⟩
set_option maxRecDepth 100000 in
set_option maxHeartbeats 2000000 in
theorem l11May_7 (x y : StL) (A1 A2 A3 A4 B1 B2 B3 B4 : Option Addr) (c1 c2 c3 c4 d1 d2 d3 d4 : Nat) (w : World) (hx : StAt w x A1 A2 A3 A4) (hy : StAt w y B1 B2 B3 B4) (hv : -100 ≤ x.ver ∧ x.ver ≤ 100) :
    Calls Tryd.prog 48 #[stV x A1 A2 A3 A4 c1 c2 c3 c4, stV y B1 B2 B3 B4 d1 d2 d3 d4, .int .i64 7] w fun e w' => e = .returned (.bool (mayB x y 7)) ∧ Keeps noBlk w w' := by
  have HX := Lib.hid ((hx.alloc (.cells #[.int .i64 x.way, .int .i64 x.ver, .int .i64 x.want, .slice A1 x.sent.length c1, .slice A2 x.live.length c2, .slice A3 x.back.length c3, .slice A4 x.got.length c4] 31)).alloc (.cells #[.int .i64 y.way, .int .i64 y.ver, .int .i64 y.want, .slice B1 y.sent.length d1, .slice B2 y.live.length d2, .slice B3 y.back.length d3, .slice B4 y.got.length d4] 31))
  have HY := Lib.hid ((hy.alloc (.cells #[.int .i64 x.way, .int .i64 x.ver, .int .i64 x.want, .slice A1 x.sent.length c1, .slice A2 x.live.length c2, .slice A3 x.back.length c3, .slice A4 x.got.length c4] 31)).alloc (.cells #[.int .i64 y.way, .int .i64 y.ver, .int .i64 y.want, .slice B1 y.sent.length d1, .slice B2 y.live.length d2, .slice B3 y.back.length d3, .slice B4 y.got.length d4] 31))
  have HLX := Lib.hid (fun W (h : StAt W x A1 A2 A3 A4) => l3Live_eq x A1 A2 A3 A4 c1 c2 c3 c4 W h)
  have HLY := Lib.hid (fun W (h : StAt W y B1 B2 B3 B4) => l3Live_eq y B1 B2 B3 B4 d1 d2 d3 d4 W h)
  have HK := Lib.hid (((Keeps.refl noBlk w).alloc (.cells #[.int .i64 x.way, .int .i64 x.ver, .int .i64 x.want, .slice A1 x.sent.length c1, .slice A2 x.live.length c2, .slice A3 x.back.length c3, .slice A4 x.got.length c4] 31)).alloc (.cells #[.int .i64 y.way, .int .i64 y.ver, .int .i64 y.want, .slice B1 y.sent.length d1, .slice B2 y.live.length d2, .slice B3 y.back.length d3, .slice B4 y.got.length d4] 31))
  have hbx := (Box.new w _ rfl 31 #[.int .i64 x.way, .int .i64 x.ver, .int .i64 x.want, .slice A1 x.sent.length c1, .slice A2 x.live.length c2, .slice A3 x.back.length c3, .slice A4 x.got.length c4]).alloc (.cells #[.int .i64 y.way, .int .i64 y.ver, .int .i64 y.want, .slice B1 y.sent.length d1, .slice B2 y.live.length d2, .slice B3 y.back.length d3, .slice B4 y.got.length d4] 31)
  have hby := Box.new (w.alloc (.cells #[.int .i64 x.way, .int .i64 x.ver, .int .i64 x.want, .slice A1 x.sent.length c1, .slice A2 x.live.length c2, .slice A3 x.back.length c3, .slice A4 x.got.length c4] 31)) (w.heap.size + 1) (by simp) 31 #[.int .i64 y.way, .int .i64 y.ver, .int .i64 y.want, .slice B1 y.sent.length d1, .slice B2 y.live.length d2, .slice B3 y.back.length d3, .slice B4 y.got.length d4]
  have hz : w.heap.size + 1 < ((w.alloc (.cells #[.int .i64 x.way, .int .i64 x.ver, .int .i64 x.want, .slice A1 x.sent.length c1, .slice A2 x.live.length c2, .slice A3 x.back.length c3, .slice A4 x.got.length c4] 31)).alloc (.cells #[.int .i64 y.way, .int .i64 y.ver, .int .i64 y.want, .slice B1 y.sent.length d1, .slice B2 y.live.length d2, .slice B3 y.back.length d3, .slice B4 y.got.length d4] 31)).heap.size := by simp
  clear hx hy
  unfold stV at HLX HLY ⊢
  go_enter Tryd.func48, Tryd.ntmps48
  by_cases q0 : x.way = 4
  · have eq0 : (x.way == 4) = true := by simp [q0]
    by_cases q1 : liveN x = 0
    · have eq1 : ((liveN x : Int) == 0) = true := by simp [q1]
      by_cases q2 : y.way = 4
      · have eq2 : (y.way == 4) = true := by simp [q2]
        by_cases q3 : y.want = x.want
        · have eq3 : (y.want == x.want) = true := by simp [q3]
          by_cases q4 : liveN y = 0
          · have eq4 : ((liveN y : Int) == 0) = true := by simp [q4]
            have HF := Lib.hid (show mayB x y 7 = true by simp [mayB, q0, q1, q2, q3, q4])
            clear q0 q1 q2 q3 q4
            have TX : True := trivial
            go_wp2_with (first | (clear TX; go_at_call 78; refine (HLX.out _ HX.out).mono ?_; rintro e w' ⟨rfl, rfl⟩) | (go_at_call 78; refine (HLY.out _ (HY.out.alloc _)).mono ?_; rintro e w' ⟨rfl, rfl⟩))
            go_ret
            exact ⟨by simp [HF.out], by first | exact HK.out | exact HK.out.alloc _ | exact (HK.out.alloc _).alloc _⟩
          · have eq4 : ((liveN y : Int) == 0) = false := by simp [q4]
            by_cases q5 : y.ver = x.want
            · have eq5 : (y.ver == x.want) = true := by simp [q5]
              have HF := Lib.hid (show mayB x y 7 = true by simp [mayB, q0, q1, q2, q3, q4, q5])
              clear q0 q1 q2 q3 q4 q5
              have TX : True := trivial
              go_wp2_with (first | (clear TX; go_at_call 78; refine (HLX.out _ HX.out).mono ?_; rintro e w' ⟨rfl, rfl⟩) | (go_at_call 78; refine (HLY.out _ (HY.out.alloc _)).mono ?_; rintro e w' ⟨rfl, rfl⟩))
              go_ret
              exact ⟨by simp [HF.out], by first | exact HK.out | exact HK.out.alloc _ | exact (HK.out.alloc _).alloc _⟩
            · have eq5 : (y.ver == x.want) = false := by simp [q5]
              have HF := Lib.hid (show mayB x y 7 = false by simp [mayB, q0, q1, q2, q3, q4, q5])
              clear q0 q1 q2 q3 q4 q5
              have TX : True := trivial
              go_wp2_with (first | (clear TX; go_at_call 78; refine (HLX.out _ HX.out).mono ?_; rintro e w' ⟨rfl, rfl⟩) | (go_at_call 78; refine (HLY.out _ (HY.out.alloc _)).mono ?_; rintro e w' ⟨rfl, rfl⟩))
              go_ret
              exact ⟨by simp [HF.out], by first | exact HK.out | exact HK.out.alloc _ | exact (HK.out.alloc _).alloc _⟩
        · have eq3 : (y.want == x.want) = false := by simp [q3]
          by_cases q4 : y.ver = x.want
          · have eq4 : (y.ver == x.want) = true := by simp [q4]
            have HF := Lib.hid (show mayB x y 7 = true by simp [mayB, q0, q1, q2, q3, q4])
            clear q0 q1 q2 q3 q4
            have TX : True := trivial
            go_wp2_with (first | (clear TX; go_at_call 78; refine (HLX.out _ HX.out).mono ?_; rintro e w' ⟨rfl, rfl⟩) | (go_at_call 78; refine (HLY.out _ (HY.out.alloc _)).mono ?_; rintro e w' ⟨rfl, rfl⟩))
            go_ret
            exact ⟨by simp [HF.out], by first | exact HK.out | exact HK.out.alloc _ | exact (HK.out.alloc _).alloc _⟩
          · have eq4 : (y.ver == x.want) = false := by simp [q4]
            have HF := Lib.hid (show mayB x y 7 = false by simp [mayB, q0, q1, q2, q3, q4])
            clear q0 q1 q2 q3 q4
            have TX : True := trivial
            go_wp2_with (first | (clear TX; go_at_call 78; refine (HLX.out _ HX.out).mono ?_; rintro e w' ⟨rfl, rfl⟩) | (go_at_call 78; refine (HLY.out _ (HY.out.alloc _)).mono ?_; rintro e w' ⟨rfl, rfl⟩))
            go_ret
            exact ⟨by simp [HF.out], by first | exact HK.out | exact HK.out.alloc _ | exact (HK.out.alloc _).alloc _⟩
      · have eq2 : (y.way == 4) = false := by simp [q2]
        by_cases q3 : y.ver = x.want
        · have eq3 : (y.ver == x.want) = true := by simp [q3]
          have HF := Lib.hid (show mayB x y 7 = true by simp [mayB, q0, q1, q2, q3])
          clear q0 q1 q2 q3
          have TX : True := trivial
          go_wp2_with (first | (clear TX; go_at_call 78; refine (HLX.out _ HX.out).mono ?_; rintro e w' ⟨rfl, rfl⟩) | (go_at_call 78; refine (HLY.out _ (HY.out.alloc _)).mono ?_; rintro e w' ⟨rfl, rfl⟩))
          go_ret
          exact ⟨by simp [HF.out], by first | exact HK.out | exact HK.out.alloc _ | exact (HK.out.alloc _).alloc _⟩
        · have eq3 : (y.ver == x.want) = false := by simp [q3]
          have HF := Lib.hid (show mayB x y 7 = false by simp [mayB, q0, q1, q2, q3])
          clear q0 q1 q2 q3
          have TX : True := trivial
          go_wp2_with (first | (clear TX; go_at_call 78; refine (HLX.out _ HX.out).mono ?_; rintro e w' ⟨rfl, rfl⟩) | (go_at_call 78; refine (HLY.out _ (HY.out.alloc _)).mono ?_; rintro e w' ⟨rfl, rfl⟩))
          go_ret
          exact ⟨by simp [HF.out], by first | exact HK.out | exact HK.out.alloc _ | exact (HK.out.alloc _).alloc _⟩
    · have eq1 : ((liveN x : Int) == 0) = false := by simp [q1]
      have HF := Lib.hid (show mayB x y 7 = false by simp [mayB, q0, q1])
      clear q0 q1
      have TX : True := trivial
      go_wp2_with (first | (clear TX; go_at_call 78; refine (HLX.out _ HX.out).mono ?_; rintro e w' ⟨rfl, rfl⟩) | (go_at_call 78; refine (HLY.out _ (HY.out.alloc _)).mono ?_; rintro e w' ⟨rfl, rfl⟩))
      go_ret
      exact ⟨by simp [HF.out], by first | exact HK.out | exact HK.out.alloc _ | exact (HK.out.alloc _).alloc _⟩
  · have eq0 : (x.way == 4) = false := by simp [q0]
    have HF := Lib.hid (show mayB x y 7 = false by simp [mayB, q0])
    clear q0
    have TX : True := trivial
    go_wp2_with (first | (clear TX; go_at_call 78; refine (HLX.out _ HX.out).mono ?_; rintro e w' ⟨rfl, rfl⟩) | (go_at_call 78; refine (HLY.out _ (HY.out.alloc _)).mono ?_; rintro e w' ⟨rfl, rfl⟩))
    go_ret
    exact ⟨by simp [HF.out], by first | exact HK.out | exact HK.out.alloc _ | exact (HK.out.alloc _).alloc _⟩
set_option maxRecDepth 100000 in
set_option maxHeartbeats 2000000 in
theorem l11May_no (x y : StL) (A1 A2 A3 A4 B1 B2 B3 B4 : Option Addr) (c1 c2 c3 c4 d1 d2 d3 d4 : Nat) (k : Int) (hn : k < 1 ∨ 7 < k) (w : World) (hx : StAt w x A1 A2 A3 A4) (hy : StAt w y B1 B2 B3 B4) (hv : -100 ≤ x.ver ∧ x.ver ≤ 100) :
    Calls Tryd.prog 48 #[stV x A1 A2 A3 A4 c1 c2 c3 c4, stV y B1 B2 B3 B4 d1 d2 d3 d4, .int .i64 k] w fun e w' => e = .returned (.bool (mayB x y k)) ∧ Keeps noBlk w w' := by
  have HX := Lib.hid ((hx.alloc (.cells #[.int .i64 x.way, .int .i64 x.ver, .int .i64 x.want, .slice A1 x.sent.length c1, .slice A2 x.live.length c2, .slice A3 x.back.length c3, .slice A4 x.got.length c4] 31)).alloc (.cells #[.int .i64 y.way, .int .i64 y.ver, .int .i64 y.want, .slice B1 y.sent.length d1, .slice B2 y.live.length d2, .slice B3 y.back.length d3, .slice B4 y.got.length d4] 31))
  have HY := Lib.hid ((hy.alloc (.cells #[.int .i64 x.way, .int .i64 x.ver, .int .i64 x.want, .slice A1 x.sent.length c1, .slice A2 x.live.length c2, .slice A3 x.back.length c3, .slice A4 x.got.length c4] 31)).alloc (.cells #[.int .i64 y.way, .int .i64 y.ver, .int .i64 y.want, .slice B1 y.sent.length d1, .slice B2 y.live.length d2, .slice B3 y.back.length d3, .slice B4 y.got.length d4] 31))
  have HLX := Lib.hid (fun W (h : StAt W x A1 A2 A3 A4) => l3Live_eq x A1 A2 A3 A4 c1 c2 c3 c4 W h)
  have HLY := Lib.hid (fun W (h : StAt W y B1 B2 B3 B4) => l3Live_eq y B1 B2 B3 B4 d1 d2 d3 d4 W h)
  have HK := Lib.hid (((Keeps.refl noBlk w).alloc (.cells #[.int .i64 x.way, .int .i64 x.ver, .int .i64 x.want, .slice A1 x.sent.length c1, .slice A2 x.live.length c2, .slice A3 x.back.length c3, .slice A4 x.got.length c4] 31)).alloc (.cells #[.int .i64 y.way, .int .i64 y.ver, .int .i64 y.want, .slice B1 y.sent.length d1, .slice B2 y.live.length d2, .slice B3 y.back.length d3, .slice B4 y.got.length d4] 31))
  have hbx := (Box.new w _ rfl 31 #[.int .i64 x.way, .int .i64 x.ver, .int .i64 x.want, .slice A1 x.sent.length c1, .slice A2 x.live.length c2, .slice A3 x.back.length c3, .slice A4 x.got.length c4]).alloc (.cells #[.int .i64 y.way, .int .i64 y.ver, .int .i64 y.want, .slice B1 y.sent.length d1, .slice B2 y.live.length d2, .slice B3 y.back.length d3, .slice B4 y.got.length d4] 31)
  have hby := Box.new (w.alloc (.cells #[.int .i64 x.way, .int .i64 x.ver, .int .i64 x.want, .slice A1 x.sent.length c1, .slice A2 x.live.length c2, .slice A3 x.back.length c3, .slice A4 x.got.length c4] 31)) (w.heap.size + 1) (by simp) 31 #[.int .i64 y.way, .int .i64 y.ver, .int .i64 y.want, .slice B1 y.sent.length d1, .slice B2 y.live.length d2, .slice B3 y.back.length d3, .slice B4 y.got.length d4]
  have hz : w.heap.size + 1 < ((w.alloc (.cells #[.int .i64 x.way, .int .i64 x.ver, .int .i64 x.want, .slice A1 x.sent.length c1, .slice A2 x.live.length c2, .slice A3 x.back.length c3, .slice A4 x.got.length c4] 31)).alloc (.cells #[.int .i64 y.way, .int .i64 y.ver, .int .i64 y.want, .slice B1 y.sent.length d1, .slice B2 y.live.length d2, .slice B3 y.back.length d3, .slice B4 y.got.length d4] 31)).heap.size := by simp
  clear hx hy
  unfold stV at HLX HLY ⊢
  go_enter Tryd.func48, Tryd.ntmps48
  have e1 : (k == 1) = false := by simp; omega
  have e2 : (k == 2) = false := by simp; omega
  have e3 : (k == 3) = false := by simp; omega
  have e4 : (k == 4) = false := by simp; omega
  have e5 : (k == 5) = false := by simp; omega
  have e6 : (k == 6) = false := by simp; omega
  have e7 : (k == 7) = false := by simp; omega
  have HF := Lib.hid (show mayB x y k = false by unfold mayB; rw [if_neg (by omega), if_neg (by omega), if_neg (by omega), if_neg (by omega), if_neg (by omega), if_neg (by omega), if_neg (by omega)])
  clear hn
  go_wp2
  go_ret
  exact ⟨by simp [HF.out], HK.out⟩
theorem l11May_any (x y : StL) (A1 A2 A3 A4 B1 B2 B3 B4 : Option Addr) (c1 c2 c3 c4 d1 d2 d3 d4 : Nat) (k : Int) (w : World) (hx : StAt w x A1 A2 A3 A4) (hy : StAt w y B1 B2 B3 B4) (hv : -100 ≤ x.ver ∧ x.ver ≤ 100) :
    Calls Tryd.prog 48 #[stV x A1 A2 A3 A4 c1 c2 c3 c4, stV y B1 B2 B3 B4 d1 d2 d3 d4, .int .i64 k] w fun e w' => e = .returned (.bool (mayB x y k)) ∧ Keeps noBlk w w' := by
  by_cases hn : k < 1 ∨ 7 < k
  · exact l11May_no x y A1 A2 A3 A4 B1 B2 B3 B4 c1 c2 c3 c4 d1 d2 d3 d4 k hn w hx hy hv
  · have h7 : k = 1 ∨ k = 2 ∨ k = 3 ∨ k = 4 ∨ k = 5 ∨ k = 6 ∨ k = 7 := by omega
    rcases h7 with rfl | rfl | rfl | rfl | rfl | rfl | rfl
    · exact l11May_1 x y A1 A2 A3 A4 B1 B2 B3 B4 c1 c2 c3 c4 d1 d2 d3 d4 w hx hy hv
    · exact l11May_2 x y A1 A2 A3 A4 B1 B2 B3 B4 c1 c2 c3 c4 d1 d2 d3 d4 w hx hy hv
    · exact l11May_3 x y A1 A2 A3 A4 B1 B2 B3 B4 c1 c2 c3 c4 d1 d2 d3 d4 w hx hy hv
    · exact l11May_4 x y A1 A2 A3 A4 B1 B2 B3 B4 c1 c2 c3 c4 d1 d2 d3 d4 w hx hy hv
    · exact l11May_5 x y A1 A2 A3 A4 B1 B2 B3 B4 c1 c2 c3 c4 d1 d2 d3 d4 w hx hy hv
    · exact l11May_6 x y A1 A2 A3 A4 B1 B2 B3 B4 c1 c2 c3 c4 d1 d2 d3 d4 w hx hy hv
    · exact l11May_7 x y A1 A2 A3 A4 B1 B2 B3 B4 c1 c2 c3 c4 d1 d2 d3 d4 w hx hy hv
end Go.Proofs.YtifocngajndnnaaDoor
