/- l3Live, l11May, l11Do of the model: what a channel end may do, and what it becomes. l11May, l11Do, WayMay, WayNext of the model. l11Do, WayMay, WayNext of the model. -/
import Derived.Test.YtcnbephpadmboaaGreatDoorUGh
import Derived.Test.YtcnbephpadmboaaGreatDoorSS
set_option linter.unusedVariables false
set_option linter.unusedSimpArgs false
/-! GWay -/
namespace Go.Proofs.YtcnbephpadmboaaGreatDoor
open Go.RowKit

/-- How many of a list are true. -/
def cntT : List Bool → Nat
  | [] => 0
  | b :: l => (if b = true then 1 else 0) + cntT l
def liveN (x : StL) : Nat := cntT x.live
theorem cntT_take_step {l : List Bool} {k : Nat} (h : k < l.length) : cntT (l.take (k + 1)) = cntT (l.take k) + (if l.getD k false = true then 1 else 0) := by
  induction l generalizing k with
  | nil => simp at h
  | cons a l ih =>
    cases k with
    | zero => simp [cntT]
    | succ k =>
      have := ih (k := k) (by simpa using h)
      simp only [List.take_succ_cons, cntT, List.getD_cons_succ]
      omega
theorem cntT_le (l : List Bool) : cntT l ≤ l.length := by
  induction l with
  | nil => simp [cntT]
  | cons a l ih =>
    simp only [cntT, List.length_cons]
    split <;> omega

set_option maxHeartbeats 1000000 in
theorem l3Live_eq (x : StL) (A1 A2 A3 A4 : Option Addr) (c1 c2 c3 c4 : Nat) (w : World) (hx : StAt w x A1 A2 A3 A4) :
    Calls Tryz.prog 111 #[stV x A1 A2 A3 A4 c1 c2 c3 c4] w fun e w' => e = .returned (.int .i64 (liveN x)) ∧ w' = w.alloc (.cells #[.int .i64 x.way, .int .i64 x.ver, .int .i64 x.want, .slice A1 x.sent.length c1, .slice A2 x.live.length c2, .slice A3 x.back.length c3, .slice A4 x.got.length c4] 39) := by
  have HX := Lib.hid (hx.alloc (.cells #[.int .i64 x.way, .int .i64 x.ver, .int .i64 x.want, .slice A1 x.sent.length c1, .slice A2 x.live.length c2, .slice A3 x.back.length c3, .slice A4 x.got.length c4] 39))
  have hm := hx.2.2.1
  unfold maxLen at hm
  clear hx
  have hb := Box.new w _ rfl 39 #[.int .i64 x.way, .int .i64 x.ver, .int .i64 x.want, .slice A1 x.sent.length c1, .slice A2 x.live.length c2, .slice A3 x.back.length c3, .slice A4 x.got.length c4]
  have a4 : (w.alloc (.cells #[.int .i64 x.way, .int .i64 x.ver, .int .i64 x.want, .slice A1 x.sent.length c1, .slice A2 x.live.length c2, .slice A3 x.back.length c3, .slice A4 x.got.length c4] 39)).cell? ⟨w.heap.size, 4, none⟩ = some (.slice A2 x.live.length c2) := hb.cell 4
  clear hb
  unfold stV
  go_enter Tryz.func111, Tryz.ntmps111
  go_wp2
  generalize hW : (w.alloc (.cells #[.int .i64 x.way, .int .i64 x.ver, .int .i64 x.want, .slice A1 x.sent.length c1, .slice A2 x.live.length c2, .slice A3 x.back.length c3, .slice A4 x.got.length c4] 39)) = W at HX a4
  have HW := Lib.hid hW
  clear hW
  go_loopw [3, 4] (fun n i wr => ∃ k : Nat, k ≤ x.live.length ∧ i = .int .i64 k ∧ n = .int .i64 (cntT (x.live.take k) : Nat) ∧ wr = W) (fun _ i _ => x.live.length - (intOf i).toNat)
  case atStart => exact ⟨0, Nat.zero_le _, rfl, rfl, rfl⟩
  case round =>
    obtain ⟨k, hk, rfl, rfl, rfl⟩ := hrel
    have hc := cntT_le (x.live.take k)
    have hc2 : (x.live.take k).length ≤ k := List.length_take_le _ _
    by_cases hlt : k < x.live.length
    · have HS := Lib.hid (cntT_take_step hlt)
      obtain ⟨b2, off2, rfl, e2, d2⟩ := HX.out.1.2.1.at_ hlt
      generalize x.live.getD k false = lv at d2 HS
      generalize cntT (x.live.take k) = c at hc HS
      have hcb : (c : Int) ≤ 9223372036854775806 := by omega
      clear hc2
      cases lv with
      | true =>
        go_wp2
        refine ⟨⟨k + 1, by omega, by go_num, ?_, trivial⟩, by simp [intOf]; omega⟩
        rw [HS.out]
        simp
      | false =>
        go_wp2
        refine ⟨⟨k + 1, by omega, by go_num, ?_, trivial⟩, by simp [intOf]; omega⟩
        rw [HS.out]
        simp
    · obtain rfl : k = x.live.length := by omega
      go_wp2
      go_ret
      exact ⟨by simp [liveN], HW.out.symm⟩

/-- Whether a step may be done. -/
def mayB (x y : StL) (k : Int) : Bool :=
  if k = 1 then decide (x.way = 0) else if k = 2 then decide (x.way ≤ 1 ∧ (y.way = 1 ∨ y.way = 2)) else if k = 3 then decide (x.way = 1 ∧ 2 ≤ y.way) else
  if k = 4 then decide (x.way = 2 ∧ 2 ≤ y.way) else if k = 5 then decide (x.way = 3 ∧ x.ver < 9) else if k = 6 then decide (x.way = 3 ∧ y.way = 4 ∧ y.want = x.ver + 1) else
  if k = 7 then decide (x.way = 4 ∧ liveN x = 0 ∧ ((y.way = 4 ∧ y.want = x.want ∧ liveN y = 0) ∨ y.ver = x.want)) else false
end Go.Proofs.YtcnbephpadmboaaGreatDoor

/-! GMay -/
namespace Go.Proofs.YtcnbephpadmboaaGreatDoor
open Go.RowKit

set_option maxRecDepth 100000 in
set_option maxHeartbeats 2000000 in
theorem l11May_1 (x y : StL) (A1 A2 A3 A4 B1 B2 B3 B4 : Option Addr) (c1 c2 c3 c4 d1 d2 d3 d4 : Nat) (w : World) (hx : StAt w x A1 A2 A3 A4) (hy : StAt w y B1 B2 B3 B4) (hv : -100 ≤ x.ver ∧ x.ver ≤ 100) :
    Calls Tryz.prog 92 #[stV x A1 A2 A3 A4 c1 c2 c3 c4, stV y B1 B2 B3 B4 d1 d2 d3 d4, .int .i64 1] w fun e w' => e = .returned (.bool (mayB x y 1)) ∧ Keeps noBlk w w' := by
  have HX := Lib.hid ((hx.alloc (.cells #[.int .i64 x.way, .int .i64 x.ver, .int .i64 x.want, .slice A1 x.sent.length c1, .slice A2 x.live.length c2, .slice A3 x.back.length c3, .slice A4 x.got.length c4] 39)).alloc (.cells #[.int .i64 y.way, .int .i64 y.ver, .int .i64 y.want, .slice B1 y.sent.length d1, .slice B2 y.live.length d2, .slice B3 y.back.length d3, .slice B4 y.got.length d4] 39))
  have HY := Lib.hid ((hy.alloc (.cells #[.int .i64 x.way, .int .i64 x.ver, .int .i64 x.want, .slice A1 x.sent.length c1, .slice A2 x.live.length c2, .slice A3 x.back.length c3, .slice A4 x.got.length c4] 39)).alloc (.cells #[.int .i64 y.way, .int .i64 y.ver, .int .i64 y.want, .slice B1 y.sent.length d1, .slice B2 y.live.length d2, .slice B3 y.back.length d3, .slice B4 y.got.length d4] 39))
  have HLX := Lib.hid (fun W (h : StAt W x A1 A2 A3 A4) => l3Live_eq x A1 A2 A3 A4 c1 c2 c3 c4 W h)
  have HLY := Lib.hid (fun W (h : StAt W y B1 B2 B3 B4) => l3Live_eq y B1 B2 B3 B4 d1 d2 d3 d4 W h)
  have HK := Lib.hid (((Keeps.refl noBlk w).alloc (.cells #[.int .i64 x.way, .int .i64 x.ver, .int .i64 x.want, .slice A1 x.sent.length c1, .slice A2 x.live.length c2, .slice A3 x.back.length c3, .slice A4 x.got.length c4] 39)).alloc (.cells #[.int .i64 y.way, .int .i64 y.ver, .int .i64 y.want, .slice B1 y.sent.length d1, .slice B2 y.live.length d2, .slice B3 y.back.length d3, .slice B4 y.got.length d4] 39))
  have hbx := (Box.new w _ rfl 39 #[.int .i64 x.way, .int .i64 x.ver, .int .i64 x.want, .slice A1 x.sent.length c1, .slice A2 x.live.length c2, .slice A3 x.back.length c3, .slice A4 x.got.length c4]).alloc (.cells #[.int .i64 y.way, .int .i64 y.ver, .int .i64 y.want, .slice B1 y.sent.length d1, .slice B2 y.live.length d2, .slice B3 y.back.length d3, .slice B4 y.got.length d4] 39)
  have hby := Box.new (w.alloc (.cells #[.int .i64 x.way, .int .i64 x.ver, .int .i64 x.want, .slice A1 x.sent.length c1, .slice A2 x.live.length c2, .slice A3 x.back.length c3, .slice A4 x.got.length c4] 39)) (w.heap.size + 1) (by simp) 39 #[.int .i64 y.way, .int .i64 y.ver, .int .i64 y.want, .slice B1 y.sent.length d1, .slice B2 y.live.length d2, .slice B3 y.back.length d3, .slice B4 y.got.length d4]
  have hz : w.heap.size + 1 < ((w.alloc (.cells #[.int .i64 x.way, .int .i64 x.ver, .int .i64 x.want, .slice A1 x.sent.length c1, .slice A2 x.live.length c2, .slice A3 x.back.length c3, .slice A4 x.got.length c4] 39)).alloc (.cells #[.int .i64 y.way, .int .i64 y.ver, .int .i64 y.want, .slice B1 y.sent.length d1, .slice B2 y.live.length d2, .slice B3 y.back.length d3, .slice B4 y.got.length d4] 39)).heap.size := by simp
  clear hx hy
  unfold stV at HLX HLY ⊢
  go_enter Tryz.func92, Tryz.ntmps92
  by_cases q0 : x.way = 0
  · have eq0 : (x.way == 0) = true := by simp [q0]
    have HF := Lib.hid (show mayB x y 1 = true by simp [mayB, q0])
    clear q0
    have TX : True := trivial
    go_wp2_with (first | (clear TX; go_at_call 111; refine (HLX.out _ HX.out).mono ?_; rintro e w' ⟨rfl, rfl⟩) | (go_at_call 111; refine (HLY.out _ (HY.out.alloc _)).mono ?_; rintro e w' ⟨rfl, rfl⟩))
    go_ret
    exact ⟨by simp [HF.out], by first | exact HK.out | exact HK.out.alloc _ | exact (HK.out.alloc _).alloc _⟩
  · have eq0 : (x.way == 0) = false := by simp [q0]
    have HF := Lib.hid (show mayB x y 1 = false by simp [mayB, q0])
    clear q0
    have TX : True := trivial
    go_wp2_with (first | (clear TX; go_at_call 111; refine (HLX.out _ HX.out).mono ?_; rintro e w' ⟨rfl, rfl⟩) | (go_at_call 111; refine (HLY.out _ (HY.out.alloc _)).mono ?_; rintro e w' ⟨rfl, rfl⟩))
    go_ret
    exact ⟨by simp [HF.out], by first | exact HK.out | exact HK.out.alloc _ | exact (HK.out.alloc _).alloc _⟩
set_option maxRecDepth 100000 in
set_option maxHeartbeats 2000000 in
theorem l11May_2 (x y : StL) (A1 A2 A3 A4 B1 B2 B3 B4 : Option Addr) (c1 c2 c3 c4 d1 d2 d3 d4 : Nat) (w : World) (hx : StAt w x A1 A2 A3 A4) (hy : StAt w y B1 B2 B3 B4) (hv : -100 ≤ x.ver ∧ x.ver ≤ 100) :
    Calls Tryz.prog 92 #[stV x A1 A2 A3 A4 c1 c2 c3 c4, stV y B1 B2 B3 B4 d1 d2 d3 d4, .int .i64 2] w fun e w' => e = .returned (.bool (mayB x y 2)) ∧ Keeps noBlk w w' := by
  have HX := Lib.hid ((hx.alloc (.cells #[.int .i64 x.way, .int .i64 x.ver, .int .i64 x.want, .slice A1 x.sent.length c1, .slice A2 x.live.length c2, .slice A3 x.back.length c3, .slice A4 x.got.length c4] 39)).alloc (.cells #[.int .i64 y.way, .int .i64 y.ver, .int .i64 y.want, .slice B1 y.sent.length d1, .slice B2 y.live.length d2, .slice B3 y.back.length d3, .slice B4 y.got.length d4] 39))
  have HY := Lib.hid ((hy.alloc (.cells #[.int .i64 x.way, .int .i64 x.ver, .int .i64 x.want, .slice A1 x.sent.length c1, .slice A2 x.live.length c2, .slice A3 x.back.length c3, .slice A4 x.got.length c4] 39)).alloc (.cells #[.int .i64 y.way, .int .i64 y.ver, .int .i64 y.want, .slice B1 y.sent.length d1, .slice B2 y.live.length d2, .slice B3 y.back.length d3, .slice B4 y.got.length d4] 39))
  have HLX := Lib.hid (fun W (h : StAt W x A1 A2 A3 A4) => l3Live_eq x A1 A2 A3 A4 c1 c2 c3 c4 W h)
  have HLY := Lib.hid (fun W (h : StAt W y B1 B2 B3 B4) => l3Live_eq y B1 B2 B3 B4 d1 d2 d3 d4 W h)
  have HK := Lib.hid (((Keeps.refl noBlk w).alloc (.cells #[.int .i64 x.way, .int .i64 x.ver, .int .i64 x.want, .slice A1 x.sent.length c1, .slice A2 x.live.length c2, .slice A3 x.back.length c3, .slice A4 x.got.length c4] 39)).alloc (.cells #[.int .i64 y.way, .int .i64 y.ver, .int .i64 y.want, .slice B1 y.sent.length d1, .slice B2 y.live.length d2, .slice B3 y.back.length d3, .slice B4 y.got.length d4] 39))
  have hbx := (Box.new w _ rfl 39 #[.int .i64 x.way, .int .i64 x.ver, .int .i64 x.want, .slice A1 x.sent.length c1, .slice A2 x.live.length c2, .slice A3 x.back.length c3, .slice A4 x.got.length c4]).alloc (.cells #[.int .i64 y.way, .int .i64 y.ver, .int .i64 y.want, .slice B1 y.sent.length d1, .slice B2 y.live.length d2, .slice B3 y.back.length d3, .slice B4 y.got.length d4] 39)
  have hby := Box.new (w.alloc (.cells #[.int .i64 x.way, .int .i64 x.ver, .int .i64 x.want, .slice A1 x.sent.length c1, .slice A2 x.live.length c2, .slice A3 x.back.length c3, .slice A4 x.got.length c4] 39)) (w.heap.size + 1) (by simp) 39 #[.int .i64 y.way, .int .i64 y.ver, .int .i64 y.want, .slice B1 y.sent.length d1, .slice B2 y.live.length d2, .slice B3 y.back.length d3, .slice B4 y.got.length d4]
  have hz : w.heap.size + 1 < ((w.alloc (.cells #[.int .i64 x.way, .int .i64 x.ver, .int .i64 x.want, .slice A1 x.sent.length c1, .slice A2 x.live.length c2, .slice A3 x.back.length c3, .slice A4 x.got.length c4] 39)).alloc (.cells #[.int .i64 y.way, .int .i64 y.ver, .int .i64 y.want, .slice B1 y.sent.length d1, .slice B2 y.live.length d2, .slice B3 y.back.length d3, .slice B4 y.got.length d4] 39)).heap.size := by simp
  clear hx hy
  unfold stV at HLX HLY ⊢
  go_enter Tryz.func92, Tryz.ntmps92
  by_cases q0 : x.way ≤ 1
  · have eq0 : decide (x.way ≤ 1) = true := by simp [q0]
    by_cases q1 : y.way = 1
    · have eq1 : (y.way == 1) = true := by simp [q1]
      have HF := Lib.hid (show mayB x y 2 = true by simp [mayB, q0, q1])
      clear q0 q1
      have TX : True := trivial
      go_wp2_with (first | (clear TX; go_at_call 111; refine (HLX.out _ HX.out).mono ?_; rintro e w' ⟨rfl, rfl⟩) | (go_at_call 111; refine (HLY.out _ (HY.out.alloc _)).mono ?_; rintro e w' ⟨rfl, rfl⟩))
      go_ret
      exact ⟨by simp [HF.out], by first | exact HK.out | exact HK.out.alloc _ | exact (HK.out.alloc _).alloc _⟩
    · have eq1 : (y.way == 1) = false := by simp [q1]
      by_cases q2 : y.way = 2
      · have eq2 : (y.way == 2) = true := by simp [q2]
        have HF := Lib.hid (show mayB x y 2 = true by simp [mayB, q0, q1, q2])
        clear q0 q1 q2
        have TX : True := trivial
        go_wp2_with (first | (clear TX; go_at_call 111; refine (HLX.out _ HX.out).mono ?_; rintro e w' ⟨rfl, rfl⟩) | (go_at_call 111; refine (HLY.out _ (HY.out.alloc _)).mono ?_; rintro e w' ⟨rfl, rfl⟩))
        go_ret
        exact ⟨by simp [HF.out], by first | exact HK.out | exact HK.out.alloc _ | exact (HK.out.alloc _).alloc _⟩
      · have eq2 : (y.way == 2) = false := by simp [q2]
        have HF := Lib.hid (show mayB x y 2 = false by simp [mayB, q0, q1, q2])
        clear q0 q1 q2
        have TX : True := trivial
        go_wp2_with (first | (clear TX; go_at_call 111; refine (HLX.out _ HX.out).mono ?_; rintro e w' ⟨rfl, rfl⟩) | (go_at_call 111; refine (HLY.out _ (HY.out.alloc _)).mono ?_; rintro e w' ⟨rfl, rfl⟩))
        go_ret
        exact ⟨by simp [HF.out], by first | exact HK.out | exact HK.out.alloc _ | exact (HK.out.alloc _).alloc _⟩
  · have eq0 : decide (x.way ≤ 1) = false := by simp [q0]
    have HF := Lib.hid (show mayB x y 2 = false by simp [mayB, q0])
    clear q0
    have TX : True := trivial
    go_wp2_with (first | (clear TX; go_at_call 111; refine (HLX.out _ HX.out).mono ?_; rintro e w' ⟨rfl, rfl⟩) | (go_at_call 111; refine (HLY.out _ (HY.out.alloc _)).mono ?_; rintro e w' ⟨rfl, rfl⟩))
    go_ret
    exact ⟨by simp [HF.out], by first | exact HK.out | exact HK.out.alloc _ | exact (HK.out.alloc _).alloc _⟩
set_option maxRecDepth 100000 in
set_option maxHeartbeats 2000000 in
theorem l11May_3 (x y : StL) (A1 A2 A3 A4 B1 B2 B3 B4 : Option Addr) (c1 c2 c3 c4 d1 d2 d3 d4 : Nat) (w : World) (hx : StAt w x A1 A2 A3 A4) (hy : StAt w y B1 B2 B3 B4) (hv : -100 ≤ x.ver ∧ x.ver ≤ 100) :
    Calls Tryz.prog 92 #[stV x A1 A2 A3 A4 c1 c2 c3 c4, stV y B1 B2 B3 B4 d1 d2 d3 d4, .int .i64 3] w fun e w' => e = .returned (.bool (mayB x y 3)) ∧ Keeps noBlk w w' := by
  have HX := Lib.hid ((hx.alloc (.cells #[.int .i64 x.way, .int .i64 x.ver, .int .i64 x.want, .slice A1 x.sent.length c1, .slice A2 x.live.length c2, .slice A3 x.back.length c3, .slice A4 x.got.length c4] 39)).alloc (.cells #[.int .i64 y.way, .int .i64 y.ver, .int .i64 y.want, .slice B1 y.sent.length d1, .slice B2 y.live.length d2, .slice B3 y.back.length d3, .slice B4 y.got.length d4] 39))
  have HY := Lib.hid ((hy.alloc (.cells #[.int .i64 x.way, .int .i64 x.ver, .int .i64 x.want, .slice A1 x.sent.length c1, .slice A2 x.live.length c2, .slice A3 x.back.length c3, .slice A4 x.got.length c4] 39)).alloc (.cells #[.int .i64 y.way, .int .i64 y.ver, .int .i64 y.want, .slice B1 y.sent.length d1, .slice B2 y.live.length d2, .slice B3 y.back.length d3, .slice B4 y.got.length d4] 39))
  have HLX := Lib.hid (fun W (h : StAt W x A1 A2 A3 A4) => l3Live_eq x A1 A2 A3 A4 c1 c2 c3 c4 W h)
  have HLY := Lib.hid (fun W (h : StAt W y B1 B2 B3 B4) => l3Live_eq y B1 B2 B3 B4 d1 d2 d3 d4 W h)
  have HK := Lib.hid (((Keeps.refl noBlk w).alloc (.cells #[.int .i64 x.way, .int .i64 x.ver, .int .i64 x.want, .slice A1 x.sent.length c1, .slice A2 x.live.length c2, .slice A3 x.back.length c3, .slice A4 x.got.length c4] 39)).alloc (.cells #[.int .i64 y.way, .int .i64 y.ver, .int .i64 y.want, .slice B1 y.sent.length d1, .slice B2 y.live.length d2, .slice B3 y.back.length d3, .slice B4 y.got.length d4] 39))
  have hbx := (Box.new w _ rfl 39 #[.int .i64 x.way, .int .i64 x.ver, .int .i64 x.want, .slice A1 x.sent.length c1, .slice A2 x.live.length c2, .slice A3 x.back.length c3, .slice A4 x.got.length c4]).alloc (.cells #[.int .i64 y.way, .int .i64 y.ver, .int .i64 y.want, .slice B1 y.sent.length d1, .slice B2 y.live.length d2, .slice B3 y.back.length d3, .slice B4 y.got.length d4] 39)
  have hby := Box.new (w.alloc (.cells #[.int .i64 x.way, .int .i64 x.ver, .int .i64 x.want, .slice A1 x.sent.length c1, .slice A2 x.live.length c2, .slice A3 x.back.length c3, .slice A4 x.got.length c4] 39)) (w.heap.size + 1) (by simp) 39 #[.int .i64 y.way, .int .i64 y.ver, .int .i64 y.want, .slice B1 y.sent.length d1, .slice B2 y.live.length d2, .slice B3 y.back.length d3, .slice B4 y.got.length d4]
  have hz : w.heap.size + 1 < ((w.alloc (.cells #[.int .i64 x.way, .int .i64 x.ver, .int .i64 x.want, .slice A1 x.sent.length c1, .slice A2 x.live.length c2, .slice A3 x.back.length c3, .slice A4 x.got.length c4] 39)).alloc (.cells #[.int .i64 y.way, .int .i64 y.ver, .int .i64 y.want, .slice B1 y.sent.length d1, .slice B2 y.live.length d2, .slice B3 y.back.length d3, .slice B4 y.got.length d4] 39)).heap.size := by simp
  clear hx hy
  unfold stV at HLX HLY ⊢
  go_enter Tryz.func92, Tryz.ntmps92
  by_cases q0 : x.way = 1
  · have eq0 : (x.way == 1) = true := by simp [q0]
    by_cases q1 : 2 ≤ y.way
    · have eq1 : decide (2 ≤ y.way) = true := by simp [q1]
      have HF := Lib.hid (show mayB x y 3 = true by simp [mayB, q0, q1])
      clear q0 q1
      have TX : True := trivial
      go_wp2_with (first | (clear TX; go_at_call 111; refine (HLX.out _ HX.out).mono ?_; rintro e w' ⟨rfl, rfl⟩) | (go_at_call 111; refine (HLY.out _ (HY.out.alloc _)).mono ?_; rintro e w' ⟨rfl, rfl⟩))
      go_ret
      exact ⟨by simp [HF.out], by first | exact HK.out | exact HK.out.alloc _ | exact (HK.out.alloc _).alloc _⟩
    · have eq1 : decide (2 ≤ y.way) = false := by simp [q1]
      have HF := Lib.hid (show mayB x y 3 = false by simp [mayB, q0, q1])
      clear q0 q1
      have TX : True := trivial
      go_wp2_with (first | (clear TX; go_at_call 111; refine (HLX.out _ HX.out).mono ?_; rintro e w' ⟨rfl, rfl⟩) | (go_at_call 111; refine (HLY.out _ (HY.out.alloc _)).mono ?_; rintro e w' ⟨rfl, rfl⟩))
      go_ret
      exact ⟨by simp [HF.out], by first | exact HK.out | exact HK.out.alloc _ | exact (HK.out.alloc _).alloc _⟩
  · have eq0 : (x.way == 1) = false := by simp [q0]
    have HF := Lib.hid (show mayB x y 3 = false by simp [mayB, q0])
    clear q0
    have TX : True := trivial
    go_wp2_with (first | (clear TX; go_at_call 111; refine (HLX.out _ HX.out).mono ?_; rintro e w' ⟨rfl, rfl⟩) | (go_at_call 111; refine (HLY.out _ (HY.out.alloc _)).mono ?_; rintro e w' ⟨rfl, rfl⟩))
    go_ret
    exact ⟨by simp [HF.out], by first | exact HK.out | exact HK.out.alloc _ | exact (HK.out.alloc _).alloc _⟩
set_option maxRecDepth 100000 in
set_option maxHeartbeats 2000000 in
theorem l11May_4 (x y : StL) (A1 A2 A3 A4 B1 B2 B3 B4 : Option Addr) (c1 c2 c3 c4 d1 d2 d3 d4 : Nat) (w : World) (hx : StAt w x A1 A2 A3 A4) (hy : StAt w y B1 B2 B3 B4) (hv : -100 ≤ x.ver ∧ x.ver ≤ 100) :
    Calls Tryz.prog 92 #[stV x A1 A2 A3 A4 c1 c2 c3 c4, stV y B1 B2 B3 B4 d1 d2 d3 d4, .int .i64 4] w fun e w' => e = .returned (.bool (mayB x y 4)) ∧ Keeps noBlk w w' := by
  have HX := Lib.hid ((hx.alloc (.cells #[.int .i64 x.way, .int .i64 x.ver, .int .i64 x.want, .slice A1 x.sent.length c1, .slice A2 x.live.length c2, .slice A3 x.back.length c3, .slice A4 x.got.length c4] 39)).alloc (.cells #[.int .i64 y.way, .int .i64 y.ver, .int .i64 y.want, .slice B1 y.sent.length d1, .slice B2 y.live.length d2, .slice B3 y.back.length d3, .slice B4 y.got.length d4] 39))
  have HY := Lib.hid ((hy.alloc (.cells #[.int .i64 x.way, .int .i64 x.ver, .int .i64 x.want, .slice A1 x.sent.length c1, .slice A2 x.live.length c2, .slice A3 x.back.length c3, .slice A4 x.got.length c4] 39)).alloc (.cells #[.int .i64 y.way, .int .i64 y.ver, .int .i64 y.want, .slice B1 y.sent.length d1, .slice B2 y.live.length d2, .slice B3 y.back.length d3, .slice B4 y.got.length d4] 39))
  have HLX := Lib.hid (fun W (h : StAt W x A1 A2 A3 A4) => l3Live_eq x A1 A2 A3 A4 c1 c2 c3 c4 W h)
  have HLY := Lib.hid (fun W (h : StAt W y B1 B2 B3 B4) => l3Live_eq y B1 B2 B3 B4 d1 d2 d3 d4 W h)
  have HK := Lib.hid (((Keeps.refl noBlk w).alloc (.cells #[.int .i64 x.way, .int .i64 x.ver, .int .i64 x.want, .slice A1 x.sent.length c1, .slice A2 x.live.length c2, .slice A3 x.back.length c3, .slice A4 x.got.length c4] 39)).alloc (.cells #[.int .i64 y.way, .int .i64 y.ver, .int .i64 y.want, .slice B1 y.sent.length d1, .slice B2 y.live.length d2, .slice B3 y.back.length d3, .slice B4 y.got.length d4] 39))
  have hbx := (Box.new w _ rfl 39 #[.int .i64 x.way, .int .i64 x.ver, .int .i64 x.want, .slice A1 x.sent.length c1, .slice A2 x.live.length c2, .slice A3 x.back.length c3, .slice A4 x.got.length c4]).alloc (.cells #[.int .i64 y.way, .int .i64 y.ver, .int .i64 y.want, .slice B1 y.sent.length d1, .slice B2 y.live.length d2, .slice B3 y.back.length d3, .slice B4 y.got.length d4] 39)
  have hby := Box.new (w.alloc (.cells #[.int .i64 x.way, .int .i64 x.ver, .int .i64 x.want, .slice A1 x.sent.length c1, .slice A2 x.live.length c2, .slice A3 x.back.length c3, .slice A4 x.got.length c4] 39)) (w.heap.size + 1) (by simp) 39 #[.int .i64 y.way, .int .i64 y.ver, .int .i64 y.want, .slice B1 y.sent.length d1, .slice B2 y.live.length d2, .slice B3 y.back.length d3, .slice B4 y.got.length d4]
  have hz : w.heap.size + 1 < ((w.alloc (.cells #[.int .i64 x.way, .int .i64 x.ver, .int .i64 x.want, .slice A1 x.sent.length c1, .slice A2 x.live.length c2, .slice A3 x.back.length c3, .slice A4 x.got.length c4] 39)).alloc (.cells #[.int .i64 y.way, .int .i64 y.ver, .int .i64 y.want, .slice B1 y.sent.length d1, .slice B2 y.live.length d2, .slice B3 y.back.length d3, .slice B4 y.got.length d4] 39)).heap.size := by simp
  clear hx hy
  unfold stV at HLX HLY ⊢
  go_enter Tryz.func92, Tryz.ntmps92
  by_cases q0 : x.way = 2
  · have eq0 : (x.way == 2) = true := by simp [q0]
    by_cases q1 : 2 ≤ y.way
    · have eq1 : decide (2 ≤ y.way) = true := by simp [q1]
      have HF := Lib.hid (show mayB x y 4 = true by simp [mayB, q0, q1])
      clear q0 q1
      have TX : True := trivial
      go_wp2_with (first | (clear TX; go_at_call 111; refine (HLX.out _ HX.out).mono ?_; rintro e w' ⟨rfl, rfl⟩) | (go_at_call 111; refine (HLY.out _ (HY.out.alloc _)).mono ?_; rintro e w' ⟨rfl, rfl⟩))
      go_ret
      exact ⟨by simp [HF.out], by first | exact HK.out | exact HK.out.alloc _ | exact (HK.out.alloc _).alloc _⟩
    · have eq1 : decide (2 ≤ y.way) = false := by simp [q1]
      have HF := Lib.hid (show mayB x y 4 = false by simp [mayB, q0, q1])
      clear q0 q1
      have TX : True := trivial
      go_wp2_with (first | (clear TX; go_at_call 111; refine (HLX.out _ HX.out).mono ?_; rintro e w' ⟨rfl, rfl⟩) | (go_at_call 111; refine (HLY.out _ (HY.out.alloc _)).mono ?_; rintro e w' ⟨rfl, rfl⟩))
      go_ret
      exact ⟨by simp [HF.out], by first | exact HK.out | exact HK.out.alloc _ | exact (HK.out.alloc _).alloc _⟩
  · have eq0 : (x.way == 2) = false := by simp [q0]
    have HF := Lib.hid (show mayB x y 4 = false by simp [mayB, q0])
    clear q0
    have TX : True := trivial
    go_wp2_with (first | (clear TX; go_at_call 111; refine (HLX.out _ HX.out).mono ?_; rintro e w' ⟨rfl, rfl⟩) | (go_at_call 111; refine (HLY.out _ (HY.out.alloc _)).mono ?_; rintro e w' ⟨rfl, rfl⟩))
    go_ret
    exact ⟨by simp [HF.out], by first | exact HK.out | exact HK.out.alloc _ | exact (HK.out.alloc _).alloc _⟩
set_option maxRecDepth 100000 in
set_option maxHeartbeats 2000000 in
theorem l11May_5 (x y : StL) (A1 A2 A3 A4 B1 B2 B3 B4 : Option Addr) (c1 c2 c3 c4 d1 d2 d3 d4 : Nat) (w : World) (hx : StAt w x A1 A2 A3 A4) (hy : StAt w y B1 B2 B3 B4) (hv : -100 ≤ x.ver ∧ x.ver ≤ 100) :
    Calls Tryz.prog 92 #[stV x A1 A2 A3 A4 c1 c2 c3 c4, stV y B1 B2 B3 B4 d1 d2 d3 d4, .int .i64 5] w fun e w' => e = .returned (.bool (mayB x y 5)) ∧ Keeps noBlk w w' := by
  have HX := Lib.hid ((hx.alloc (.cells #[.int .i64 x.way, .int .i64 x.ver, .int .i64 x.want, .slice A1 x.sent.length c1, .slice A2 x.live.length c2, .slice A3 x.back.length c3, .slice A4 x.got.length c4] 39)).alloc (.cells #[.int .i64 y.way, .int .i64 y.ver, .int .i64 y.want, .slice B1 y.sent.length d1, .slice B2 y.live.length d2, .slice B3 y.back.length d3, .slice B4 y.got.length d4] 39))
  have HY := Lib.hid ((hy.alloc (.cells #[.int .i64 x.way, .int .i64 x.ver, .int .i64 x.want, .slice A1 x.sent.length c1, .slice A2 x.live.length c2, .slice A3 x.back.length c3, .slice A4 x.got.length c4] 39)).alloc (.cells #[.int .i64 y.way, .int .i64 y.ver, .int .i64 y.want, .slice B1 y.sent.length d1, .slice B2 y.live.length d2, .slice B3 y.back.length d3, .slice B4 y.got.length d4] 39))
  have HLX := Lib.hid (fun W (h : StAt W x A1 A2 A3 A4) => l3Live_eq x A1 A2 A3 A4 c1 c2 c3 c4 W h)
  have HLY := Lib.hid (fun W (h : StAt W y B1 B2 B3 B4) => l3Live_eq y B1 B2 B3 B4 d1 d2 d3 d4 W h)
  have HK := Lib.hid (((Keeps.refl noBlk w).alloc (.cells #[.int .i64 x.way, .int .i64 x.ver, .int .i64 x.want, .slice A1 x.sent.length c1, .slice A2 x.live.length c2, .slice A3 x.back.length c3, .slice A4 x.got.length c4] 39)).alloc (.cells #[.int .i64 y.way, .int .i64 y.ver, .int .i64 y.want, .slice B1 y.sent.length d1, .slice B2 y.live.length d2, .slice B3 y.back.length d3, .slice B4 y.got.length d4] 39))
  have hbx := (Box.new w _ rfl 39 #[.int .i64 x.way, .int .i64 x.ver, .int .i64 x.want, .slice A1 x.sent.length c1, .slice A2 x.live.length c2, .slice A3 x.back.length c3, .slice A4 x.got.length c4]).alloc (.cells #[.int .i64 y.way, .int .i64 y.ver, .int .i64 y.want, .slice B1 y.sent.length d1, .slice B2 y.live.length d2, .slice B3 y.back.length d3, .slice B4 y.got.length d4] 39)
  have hby := Box.new (w.alloc (.cells #[.int .i64 x.way, .int .i64 x.ver, .int .i64 x.want, .slice A1 x.sent.length c1, .slice A2 x.live.length c2, .slice A3 x.back.length c3, .slice A4 x.got.length c4] 39)) (w.heap.size + 1) (by simp) 39 #[.int .i64 y.way, .int .i64 y.ver, .int .i64 y.want, .slice B1 y.sent.length d1, .slice B2 y.live.length d2, .slice B3 y.back.length d3, .slice B4 y.got.length d4]
  have hz : w.heap.size + 1 < ((w.alloc (.cells #[.int .i64 x.way, .int .i64 x.ver, .int .i64 x.want, .slice A1 x.sent.length c1, .slice A2 x.live.length c2, .slice A3 x.back.length c3, .slice A4 x.got.length c4] 39)).alloc (.cells #[.int .i64 y.way, .int .i64 y.ver, .int .i64 y.want, .slice B1 y.sent.length d1, .slice B2 y.live.length d2, .slice B3 y.back.length d3, .slice B4 y.got.length d4] 39)).heap.size := by simp
  clear hx hy
  unfold stV at HLX HLY ⊢
  go_enter Tryz.func92, Tryz.ntmps92
  by_cases q0 : x.way = 3
  · have eq0 : (x.way == 3) = true := by simp [q0]
    by_cases q1 : x.ver < 9
    · have eq1 : decide (x.ver < 9) = true := by simp [q1]
      have HF := Lib.hid (show mayB x y 5 = true by simp [mayB, q0, q1])
      clear q0 q1
      have TX : True := trivial
      go_wp2_with (first | (clear TX; go_at_call 111; refine (HLX.out _ HX.out).mono ?_; rintro e w' ⟨rfl, rfl⟩) | (go_at_call 111; refine (HLY.out _ (HY.out.alloc _)).mono ?_; rintro e w' ⟨rfl, rfl⟩))
      go_ret
      exact ⟨by simp [HF.out], by first | exact HK.out | exact HK.out.alloc _ | exact (HK.out.alloc _).alloc _⟩
    · have eq1 : decide (x.ver < 9) = false := by simp [q1]
      have HF := Lib.hid (show mayB x y 5 = false by simp [mayB, q0, q1])
      clear q0 q1
      have TX : True := trivial
      go_wp2_with (first | (clear TX; go_at_call 111; refine (HLX.out _ HX.out).mono ?_; rintro e w' ⟨rfl, rfl⟩) | (go_at_call 111; refine (HLY.out _ (HY.out.alloc _)).mono ?_; rintro e w' ⟨rfl, rfl⟩))
      go_ret
      exact ⟨by simp [HF.out], by first | exact HK.out | exact HK.out.alloc _ | exact (HK.out.alloc _).alloc _⟩
  · have eq0 : (x.way == 3) = false := by simp [q0]
    have HF := Lib.hid (show mayB x y 5 = false by simp [mayB, q0])
    clear q0
    have TX : True := trivial
    go_wp2_with (first | (clear TX; go_at_call 111; refine (HLX.out _ HX.out).mono ?_; rintro e w' ⟨rfl, rfl⟩) | (go_at_call 111; refine (HLY.out _ (HY.out.alloc _)).mono ?_; rintro e w' ⟨rfl, rfl⟩))
    go_ret
    exact ⟨by simp [HF.out], by first | exact HK.out | exact HK.out.alloc _ | exact (HK.out.alloc _).alloc _⟩
set_option maxRecDepth 100000 in
set_option maxHeartbeats 2000000 in
theorem l11May_6 (x y : StL) (A1 A2 A3 A4 B1 B2 B3 B4 : Option Addr) (c1 c2 c3 c4 d1 d2 d3 d4 : Nat) (w : World) (hx : StAt w x A1 A2 A3 A4) (hy : StAt w y B1 B2 B3 B4) (hv : -100 ≤ x.ver ∧ x.ver ≤ 100) :
    Calls Tryz.prog 92 #[stV x A1 A2 A3 A4 c1 c2 c3 c4, stV y B1 B2 B3 B4 d1 d2 d3 d4, .int .i64 6] w fun e w' => e = .returned (.bool (mayB x y 6)) ∧ Keeps noBlk w w' := by
  have HX := Lib.hid ((hx.alloc (.cells #[.int .i64 x.way, .int .i64 x.ver, .int .i64 x.want, .slice A1 x.sent.length c1, .slice A2 x.live.length c2, .slice A3 x.back.length c3, .slice A4 x.got.length c4] 39)).alloc (.cells #[.int .i64 y.way, .int .i64 y.ver, .int .i64 y.want, .slice B1 y.sent.length d1, .slice B2 y.live.length d2, .slice B3 y.back.length d3, .slice B4 y.got.length d4] 39))
  have HY := Lib.hid ((hy.alloc (.cells #[.int .i64 x.way, .int .i64 x.ver, .int .i64 x.want, .slice A1 x.sent.length c1, .slice A2 x.live.length c2, .slice A3 x.back.length c3, .slice A4 x.got.length c4] 39)).alloc (.cells #[.int .i64 y.way, .int .i64 y.ver, .int .i64 y.want, .slice B1 y.sent.length d1, .slice B2 y.live.length d2, .slice B3 y.back.length d3, .slice B4 y.got.length d4] 39))
  have HLX := Lib.hid (fun W (h : StAt W x A1 A2 A3 A4) => l3Live_eq x A1 A2 A3 A4 c1 c2 c3 c4 W h)
  have HLY := Lib.hid (fun W (h : StAt W y B1 B2 B3 B4) => l3Live_eq y B1 B2 B3 B4 d1 d2 d3 d4 W h)
  have HK := Lib.hid (((Keeps.refl noBlk w).alloc (.cells #[.int .i64 x.way, .int .i64 x.ver, .int .i64 x.want, .slice A1 x.sent.length c1, .slice A2 x.live.length c2, .slice A3 x.back.length c3, .slice A4 x.got.length c4] 39)).alloc (.cells #[.int .i64 y.way, .int .i64 y.ver, .int .i64 y.want, .slice B1 y.sent.length d1, .slice B2 y.live.length d2, .slice B3 y.back.length d3, .slice B4 y.got.length d4] 39))
  have hbx := (Box.new w _ rfl 39 #[.int .i64 x.way, .int .i64 x.ver, .int .i64 x.want, .slice A1 x.sent.length c1, .slice A2 x.live.length c2, .slice A3 x.back.length c3, .slice A4 x.got.length c4]).alloc (.cells #[.int .i64 y.way, .int .i64 y.ver, .int .i64 y.want, .slice B1 y.sent.length d1, .slice B2 y.live.length d2, .slice B3 y.back.length d3, .slice B4 y.got.length d4] 39)
  have hby := Box.new (w.alloc (.cells #[.int .i64 x.way, .int .i64 x.ver, .int .i64 x.want, .slice A1 x.sent.length c1, .slice A2 x.live.length c2, .slice A3 x.back.length c3, .slice A4 x.got.length c4] 39)) (w.heap.size + 1) (by simp) 39 #[.int .i64 y.way, .int .i64 y.ver, .int .i64 y.want, .slice B1 y.sent.length d1, .slice B2 y.live.length d2, .slice B3 y.back.length d3, .slice B4 y.got.length d4]
  have hz : w.heap.size + 1 < ((w.alloc (.cells #[.int .i64 x.way, .int .i64 x.ver, .int .i64 x.want, .slice A1 x.sent.length c1, .slice A2 x.live.length c2, .slice A3 x.back.length c3, .slice A4 x.got.length c4] 39)).alloc (.cells #[.int .i64 y.way, .int .i64 y.ver, .int .i64 y.want, .slice B1 y.sent.length d1, .slice B2 y.live.length d2, .slice B3 y.back.length d3, .slice B4 y.got.length d4] 39)).heap.size := by simp
  clear hx hy
  unfold stV at HLX HLY ⊢
  go_enter Tryz.func92, Tryz.ntmps92
  by_cases q0 : x.way = 3
  · have eq0 : (x.way == 3) = true := by simp [q0]
    by_cases q1 : y.way = 4
    · have eq1 : (y.way == 4) = true := by simp [q1]
      by_cases q2 : y.want = x.ver + 1
      · have eq2 : (y.want == x.ver + 1) = true := by simp [q2]
        have HF := Lib.hid (show mayB x y 6 = true by simp [mayB, q0, q1, q2])
        clear q0 q1 q2
        have TX : True := trivial
        go_wp2_with (first | (clear TX; go_at_call 111; refine (HLX.out _ HX.out).mono ?_; rintro e w' ⟨rfl, rfl⟩) | (go_at_call 111; refine (HLY.out _ (HY.out.alloc _)).mono ?_; rintro e w' ⟨rfl, rfl⟩))
        go_ret
        exact ⟨by simp [HF.out], by first | exact HK.out | exact HK.out.alloc _ | exact (HK.out.alloc _).alloc _⟩
      · have eq2 : (y.want == x.ver + 1) = false := by simp [q2]
        have HF := Lib.hid (show mayB x y 6 = false by simp [mayB, q0, q1, q2])
        clear q0 q1 q2
        have TX : True := trivial
        go_wp2_with (first | (clear TX; go_at_call 111; refine (HLX.out _ HX.out).mono ?_; rintro e w' ⟨rfl, rfl⟩) | (go_at_call 111; refine (HLY.out _ (HY.out.alloc _)).mono ?_; rintro e w' ⟨rfl, rfl⟩))
        go_ret
        exact ⟨by simp [HF.out], by first | exact HK.out | exact HK.out.alloc _ | exact (HK.out.alloc _).alloc _⟩
    · have eq1 : (y.way == 4) = false := by simp [q1]
      have HF := Lib.hid (show mayB x y 6 = false by simp [mayB, q0, q1])
      clear q0 q1
      have TX : True := trivial
      go_wp2_with (first | (clear TX; go_at_call 111; refine (HLX.out _ HX.out).mono ?_; rintro e w' ⟨rfl, rfl⟩) | (go_at_call 111; refine (HLY.out _ (HY.out.alloc _)).mono ?_; rintro e w' ⟨rfl, rfl⟩))
      go_ret
      exact ⟨by simp [HF.out], by first | exact HK.out | exact HK.out.alloc _ | exact (HK.out.alloc _).alloc _⟩
  · have eq0 : (x.way == 3) = false := by simp [q0]
    have HF := Lib.hid (show mayB x y 6 = false by simp [mayB, q0])
    clear q0
    have TX : True := trivial
    go_wp2_with (first | (clear TX; go_at_call 111; refine (HLX.out _ HX.out).mono ?_; rintro e w' ⟨rfl, rfl⟩) | (go_at_call 111; refine (HLY.out _ (HY.out.alloc _)).mono ?_; rintro e w' ⟨rfl, rfl⟩))
    go_ret
    exact ⟨by simp [HF.out], by first | exact HK.out | exact HK.out.alloc _ | exact (HK.out.alloc _).alloc _⟩
set_option maxRecDepth 100000 in
set_option maxHeartbeats 2000000 in
theorem l11May_7 (x y : StL) (A1 A2 A3 A4 B1 B2 B3 B4 : Option Addr) (c1 c2 c3 c4 d1 d2 d3 d4 : Nat) (w : World) (hx : StAt w x A1 A2 A3 A4) (hy : StAt w y B1 B2 B3 B4) (hv : -100 ≤ x.ver ∧ x.ver ≤ 100) :
    Calls Tryz.prog 92 #[stV x A1 A2 A3 A4 c1 c2 c3 c4, stV y B1 B2 B3 B4 d1 d2 d3 d4, .int .i64 7] w fun e w' => e = .returned (.bool (mayB x y 7)) ∧ Keeps noBlk w w' := by
  have HX := Lib.hid ((hx.alloc (.cells #[.int .i64 x.way, .int .i64 x.ver, .int .i64 x.want, .slice A1 x.sent.length c1, .slice A2 x.live.length c2, .slice A3 x.back.length c3, .slice A4 x.got.length c4] 39)).alloc (.cells #[.int .i64 y.way, .int .i64 y.ver, .int .i64 y.want, .slice B1 y.sent.length d1, .slice B2 y.live.length d2, .slice B3 y.back.length d3, .slice B4 y.got.length d4] 39))
  have HY := Lib.hid ((hy.alloc (.cells #[.int .i64 x.way, .int .i64 x.ver, .int .i64 x.want, .slice A1 x.sent.length c1, .slice A2 x.live.length c2, .slice A3 x.back.length c3, .slice A4 x.got.length c4] 39)).alloc (.cells #[.int .i64 y.way, .int .i64 y.ver, .int .i64 y.want, .slice B1 y.sent.length d1, .slice B2 y.live.length d2, .slice B3 y.back.length d3, .slice B4 y.got.length d4] 39))
  have HLX := Lib.hid (fun W (h : StAt W x A1 A2 A3 A4) => l3Live_eq x A1 A2 A3 A4 c1 c2 c3 c4 W h)
  have HLY := Lib.hid (fun W (h : StAt W y B1 B2 B3 B4) => l3Live_eq y B1 B2 B3 B4 d1 d2 d3 d4 W h)
  have HK := Lib.hid (((Keeps.refl noBlk w).alloc (.cells #[.int .i64 x.way, .int .i64 x.ver, .int .i64 x.want, .slice A1 x.sent.length c1, .slice A2 x.live.length c2, .slice A3 x.back.length c3, .slice A4 x.got.length c4] 39)).alloc (.cells #[.int .i64 y.way, .int .i64 y.ver, .int .i64 y.want, .slice B1 y.sent.length d1, .slice B2 y.live.length d2, .slice B3 y.back.length d3, .slice B4 y.got.length d4] 39))
  have hbx := (Box.new w _ rfl 39 #[.int .i64 x.way, .int .i64 x.ver, .int .i64 x.want, .slice A1 x.sent.length c1, .slice A2 x.live.length c2, .slice A3 x.back.length c3, .slice A4 x.got.length c4]).alloc (.cells #[.int .i64 y.way, .int .i64 y.ver, .int .i64 y.want, .slice B1 y.sent.length d1, .slice B2 y.live.length d2, .slice B3 y.back.length d3, .slice B4 y.got.length d4] 39)
  have hby := Box.new (w.alloc (.cells #[.int .i64 x.way, .int .i64 x.ver, .int .i64 x.want, .slice A1 x.sent.length c1, .slice A2 x.live.length c2, .slice A3 x.back.length c3, .slice A4 x.got.length c4] 39)) (w.heap.size + 1) (by simp) 39 #[.int .i64 y.way, .int .i64 y.ver, .int .i64 y.want, .slice B1 y.sent.length d1, .slice B2 y.live.length d2, .slice B3 y.back.length d3, .slice B4 y.got.length d4]
  have hz : w.heap.size + 1 < ((w.alloc (.cells #[.int .i64 x.way, .int .i64 x.ver, .int .i64 x.want, .slice A1 x.sent.length c1, .slice A2 x.live.length c2, .slice A3 x.back.length c3, .slice A4 x.got.length c4] 39)).alloc (.cells #[.int .i64 y.way, .int .i64 y.ver, .int .i64 y.want, .slice B1 y.sent.length d1, .slice B2 y.live.length d2, .slice B3 y.back.length d3, .slice B4 y.got.length d4] 39)).heap.size := by simp
  clear hx hy
  unfold stV at HLX HLY ⊢
  go_enter Tryz.func92, Tryz.ntmps92
  by_cases q0 : x.way = 4
  · have eq0 : (x.way == 4) = true := by simp [q0]
    by_cases q1 : liveN x = 0
    · have eq1 : ((liveN x : Int) == 0) = true := by simp [q1]
      by_cases q2 : y.way = 4
      · have eq2 : (y.way == 4) = true := by simp [q2]
        by_cases q3 : y.want = x.want
        · have eq3 : (y.want == x.want) = true := by simp [q3]
          by_cases q4 : liveN y = 0
          · have eq4 : ((liveN y : Int) == 0) = true := by simp [q4]
            have HF := Lib.hid (show mayB x y 7 = true by simp [mayB, q0, q1, q2, q3, q4])
            clear q0 q1 q2 q3 q4
            have TX : True := trivial
            go_wp2_with (first | (clear TX; go_at_call 111; refine (HLX.out _ HX.out).mono ?_; rintro e w' ⟨rfl, rfl⟩) | (go_at_call 111; refine (HLY.out _ (HY.out.alloc _)).mono ?_; rintro e w' ⟨rfl, rfl⟩))
            go_ret
            exact ⟨by simp [HF.out], by first | exact HK.out | exact HK.out.alloc _ | exact (HK.out.alloc _).alloc _⟩
          · have eq4 : ((liveN y : Int) == 0) = false := by simp [q4]
            by_cases q5 : y.ver = x.want
            · have eq5 : (y.ver == x.want) = true := by simp [q5]
              have HF := Lib.hid (show mayB x y 7 = true by simp [mayB, q0, q1, q2, q3, q4, q5])
              clear q0 q1 q2 q3 q4 q5
              have TX : True := trivial
              go_wp2_with (first | (clear TX; go_at_call 111; refine (HLX.out _ HX.out).mono ?_; rintro e w' ⟨rfl, rfl⟩) | (go_at_call 111; refine (HLY.out _ (HY.out.alloc _)).mono ?_; rintro e w' ⟨rfl, rfl⟩))
              go_ret
              exact ⟨by simp [HF.out], by first | exact HK.out | exact HK.out.alloc _ | exact (HK.out.alloc _).alloc _⟩
            · have eq5 : (y.ver == x.want) = false := by simp [q5]
              have HF := Lib.hid (show mayB x y 7 = false by simp [mayB, q0, q1, q2, q3, q4, q5])
              clear q0 q1 q2 q3 q4 q5
              have TX : True := trivial
              go_wp2_with (first | (clear TX; go_at_call 111; refine (HLX.out _ HX.out).mono ?_; rintro e w' ⟨rfl, rfl⟩) | (go_at_call 111; refine (HLY.out _ (HY.out.alloc _)).mono ?_; rintro e w' ⟨rfl, rfl⟩))
              go_ret
              exact ⟨by simp [HF.out], by first | exact HK.out | exact HK.out.alloc _ | exact (HK.out.alloc _).alloc _⟩
        · have eq3 : (y.want == x.want) = false := by simp [q3]
          by_cases q4 : y.ver = x.want
          · have eq4 : (y.ver == x.want) = true := by simp [q4]
            have HF := Lib.hid (show mayB x y 7 = true by simp [mayB, q0, q1, q2, q3, q4])
            clear q0 q1 q2 q3 q4
            have TX : True := trivial
            go_wp2_with (first | (clear TX; go_at_call 111; refine (HLX.out _ HX.out).mono ?_; rintro e w' ⟨rfl, rfl⟩) | (go_at_call 111; refine (HLY.out _ (HY.out.alloc _)).mono ?_; rintro e w' ⟨rfl, rfl⟩))
            go_ret
            exact ⟨by simp [HF.out], by first | exact HK.out | exact HK.out.alloc _ | exact (HK.out.alloc _).alloc _⟩
          · have eq4 : (y.ver == x.want) = false := by simp [q4]
            have HF := Lib.hid (show mayB x y 7 = false by simp [mayB, q0, q1, q2, q3, q4])
            clear q0 q1 q2 q3 q4
            have TX : True := trivial
            go_wp2_with (first | (clear TX; go_at_call 111; refine (HLX.out _ HX.out).mono ?_; rintro e w' ⟨rfl, rfl⟩) | (go_at_call 111; refine (HLY.out _ (HY.out.alloc _)).mono ?_; rintro e w' ⟨rfl, rfl⟩))
            go_ret
            exact ⟨by simp [HF.out], by first | exact HK.out | exact HK.out.alloc _ | exact (HK.out.alloc _).alloc _⟩
      · have eq2 : (y.way == 4) = false := by simp [q2]
        by_cases q3 : y.ver = x.want
        · have eq3 : (y.ver == x.want) = true := by simp [q3]
          have HF := Lib.hid (show mayB x y 7 = true by simp [mayB, q0, q1, q2, q3])
          clear q0 q1 q2 q3
          have TX : True := trivial
          go_wp2_with (first | (clear TX; go_at_call 111; refine (HLX.out _ HX.out).mono ?_; rintro e w' ⟨rfl, rfl⟩) | (go_at_call 111; refine (HLY.out _ (HY.out.alloc _)).mono ?_; rintro e w' ⟨rfl, rfl⟩))
          go_ret
          exact ⟨by simp [HF.out], by first | exact HK.out | exact HK.out.alloc _ | exact (HK.out.alloc _).alloc _⟩
        · have eq3 : (y.ver == x.want) = false := by simp [q3]
          have HF := Lib.hid (show mayB x y 7 = false by simp [mayB, q0, q1, q2, q3])
          clear q0 q1 q2 q3
          have TX : True := trivial
          go_wp2_with (first | (clear TX; go_at_call 111; refine (HLX.out _ HX.out).mono ?_; rintro e w' ⟨rfl, rfl⟩) | (go_at_call 111; refine (HLY.out _ (HY.out.alloc _)).mono ?_; rintro e w' ⟨rfl, rfl⟩))
          go_ret
          exact ⟨by simp [HF.out], by first | exact HK.out | exact HK.out.alloc _ | exact (HK.out.alloc _).alloc _⟩
    · have eq1 : ((liveN x : Int) == 0) = false := by simp [q1]
      have HF := Lib.hid (show mayB x y 7 = false by simp [mayB, q0, q1])
      clear q0 q1
      have TX : True := trivial
      go_wp2_with (first | (clear TX; go_at_call 111; refine (HLX.out _ HX.out).mono ?_; rintro e w' ⟨rfl, rfl⟩) | (go_at_call 111; refine (HLY.out _ (HY.out.alloc _)).mono ?_; rintro e w' ⟨rfl, rfl⟩))
      go_ret
      exact ⟨by simp [HF.out], by first | exact HK.out | exact HK.out.alloc _ | exact (HK.out.alloc _).alloc _⟩
  · have eq0 : (x.way == 4) = false := by simp [q0]
    have HF := Lib.hid (show mayB x y 7 = false by simp [mayB, q0])
    clear q0
    have TX : True := trivial
    go_wp2_with (first | (clear TX; go_at_call 111; refine (HLX.out _ HX.out).mono ?_; rintro e w' ⟨rfl, rfl⟩) | (go_at_call 111; refine (HLY.out _ (HY.out.alloc _)).mono ?_; rintro e w' ⟨rfl, rfl⟩))
    go_ret
    exact ⟨by simp [HF.out], by first | exact HK.out | exact HK.out.alloc _ | exact (HK.out.alloc _).alloc _⟩
set_option maxRecDepth 100000 in
set_option maxHeartbeats 2000000 in
theorem l11May_no (x y : StL) (A1 A2 A3 A4 B1 B2 B3 B4 : Option Addr) (c1 c2 c3 c4 d1 d2 d3 d4 : Nat) (k : Int) (hn : k < 1 ∨ 7 < k) (w : World) (hx : StAt w x A1 A2 A3 A4) (hy : StAt w y B1 B2 B3 B4) (hv : -100 ≤ x.ver ∧ x.ver ≤ 100) :
    Calls Tryz.prog 92 #[stV x A1 A2 A3 A4 c1 c2 c3 c4, stV y B1 B2 B3 B4 d1 d2 d3 d4, .int .i64 k] w fun e w' => e = .returned (.bool (mayB x y k)) ∧ Keeps noBlk w w' := by
  have HX := Lib.hid ((hx.alloc (.cells #[.int .i64 x.way, .int .i64 x.ver, .int .i64 x.want, .slice A1 x.sent.length c1, .slice A2 x.live.length c2, .slice A3 x.back.length c3, .slice A4 x.got.length c4] 39)).alloc (.cells #[.int .i64 y.way, .int .i64 y.ver, .int .i64 y.want, .slice B1 y.sent.length d1, .slice B2 y.live.length d2, .slice B3 y.back.length d3, .slice B4 y.got.length d4] 39))
  have HY := Lib.hid ((hy.alloc (.cells #[.int .i64 x.way, .int .i64 x.ver, .int .i64 x.want, .slice A1 x.sent.length c1, .slice A2 x.live.length c2, .slice A3 x.back.length c3, .slice A4 x.got.length c4] 39)).alloc (.cells #[.int .i64 y.way, .int .i64 y.ver, .int .i64 y.want, .slice B1 y.sent.length d1, .slice B2 y.live.length d2, .slice B3 y.back.length d3, .slice B4 y.got.length d4] 39))
  have HLX := Lib.hid (fun W (h : StAt W x A1 A2 A3 A4) => l3Live_eq x A1 A2 A3 A4 c1 c2 c3 c4 W h)
  have HLY := Lib.hid (fun W (h : StAt W y B1 B2 B3 B4) => l3Live_eq y B1 B2 B3 B4 d1 d2 d3 d4 W h)
  have HK := Lib.hid (((Keeps.refl noBlk w).alloc (.cells #[.int .i64 x.way, .int .i64 x.ver, .int .i64 x.want, .slice A1 x.sent.length c1, .slice A2 x.live.length c2, .slice A3 x.back.length c3, .slice A4 x.got.length c4] 39)).alloc (.cells #[.int .i64 y.way, .int .i64 y.ver, .int .i64 y.want, .slice B1 y.sent.length d1, .slice B2 y.live.length d2, .slice B3 y.back.length d3, .slice B4 y.got.length d4] 39))
  have hbx := (Box.new w _ rfl 39 #[.int .i64 x.way, .int .i64 x.ver, .int .i64 x.want, .slice A1 x.sent.length c1, .slice A2 x.live.length c2, .slice A3 x.back.length c3, .slice A4 x.got.length c4]).alloc (.cells #[.int .i64 y.way, .int .i64 y.ver, .int .i64 y.want, .slice B1 y.sent.length d1, .slice B2 y.live.length d2, .slice B3 y.back.length d3, .slice B4 y.got.length d4] 39)
  have hby := Box.new (w.alloc (.cells #[.int .i64 x.way, .int .i64 x.ver, .int .i64 x.want, .slice A1 x.sent.length c1, .slice A2 x.live.length c2, .slice A3 x.back.length c3, .slice A4 x.got.length c4] 39)) (w.heap.size + 1) (by simp) 39 #[.int .i64 y.way, .int .i64 y.ver, .int .i64 y.want, .slice B1 y.sent.length d1, .slice B2 y.live.length d2, .slice B3 y.back.length d3, .slice B4 y.got.length d4]
  have hz : w.heap.size + 1 < ((w.alloc (.cells #[.int .i64 x.way, .int .i64 x.ver, .int .i64 x.want, .slice A1 x.sent.length c1, .slice A2 x.live.length c2, .slice A3 x.back.length c3, .slice A4 x.got.length c4] 39)).alloc (.cells #[.int .i64 y.way, .int .i64 y.ver, .int .i64 y.want, .slice B1 y.sent.length d1, .slice B2 y.live.length d2, .slice B3 y.back.length d3, .slice B4 y.got.length d4] 39)).heap.size := by simp
  clear hx hy
  unfold stV at HLX HLY ⊢
  go_enter Tryz.func92, Tryz.ntmps92
  have e1 : (k == 1) = false := by simp; omega
  have e2 : (k == 2) = false := by simp; omega
  have e3 : (k == 3) = false := by simp; omega
  have e4 : (k == 4) = false := by simp; omega
  have e5 : (k == 5) = false := by simp; omega
  have e6 : (k == 6) = false := by simp; omega
  have e7 : (k == 7) = false := by simp; omega
  have HF := Lib.hid (show mayB x y k = false by unfold mayB; rw [if_neg (by omega), if_neg (by omega), if_neg (by omega), if_neg (by omega), if_neg (by omega), if_neg (by omega), if_neg (by omega)])
  clear hn
  go_wp2
  go_ret
  exact ⟨by simp [HF.out], HK.out⟩
theorem l11May_any (x y : StL) (A1 A2 A3 A4 B1 B2 B3 B4 : Option Addr) (c1 c2 c3 c4 d1 d2 d3 d4 : Nat) (k : Int) (w : World) (hx : StAt w x A1 A2 A3 A4) (hy : StAt w y B1 B2 B3 B4) (hv : -100 ≤ x.ver ∧ x.ver ≤ 100) :
    Calls Tryz.prog 92 #[stV x A1 A2 A3 A4 c1 c2 c3 c4, stV y B1 B2 B3 B4 d1 d2 d3 d4, .int .i64 k] w fun e w' => e = .returned (.bool (mayB x y k)) ∧ Keeps noBlk w w' := by
  by_cases hn : k < 1 ∨ 7 < k
  · exact l11May_no x y A1 A2 A3 A4 B1 B2 B3 B4 c1 c2 c3 c4 d1 d2 d3 d4 k hn w hx hy hv
  · have h7 : k = 1 ∨ k = 2 ∨ k = 3 ∨ k = 4 ∨ k = 5 ∨ k = 6 ∨ k = 7 := by omega
    rcases h7 with rfl | rfl | rfl | rfl | rfl | rfl | rfl
    · exact l11May_1 x y A1 A2 A3 A4 B1 B2 B3 B4 c1 c2 c3 c4 d1 d2 d3 d4 w hx hy hv
    · exact l11May_2 x y A1 A2 A3 A4 B1 B2 B3 B4 c1 c2 c3 c4 d1 d2 d3 d4 w hx hy hv
    · exact l11May_3 x y A1 A2 A3 A4 B1 B2 B3 B4 c1 c2 c3 c4 d1 d2 d3 d4 w hx hy hv
    · exact l11May_4 x y A1 A2 A3 A4 B1 B2 B3 B4 c1 c2 c3 c4 d1 d2 d3 d4 w hx hy hv
    · exact l11May_5 x y A1 A2 A3 A4 B1 B2 B3 B4 c1 c2 c3 c4 d1 d2 d3 d4 w hx hy hv
    · exact l11May_6 x y A1 A2 A3 A4 B1 B2 B3 B4 c1 c2 c3 c4 d1 d2 d3 d4 w hx hy hv
    · exact l11May_7 x y A1 A2 A3 A4 B1 B2 B3 B4 c1 c2 c3 c4 d1 d2 d3 d4 w hx hy hv
end Go.Proofs.YtcnbephpadmboaaGreatDoor

/-! GDo -/
namespace Go.Proofs.YtcnbephpadmboaaGreatDoor
open Go.RowKit

/-- A state behind a step. -/
def doSt (x y : StL) (k : Int) : StL :=
  if k = 1 then { x with way := 1 } else if k = 2 then { x with way := 2 } else if k = 3 ∨ k = 4 then { x with way := 3 } else if k = 5 then { x with way := 4, want := x.ver + 1 } else
  if k = 6 then { x with way := 4, want := y.want } else if k = 7 then { x with way := 3, ver := x.want, want := 0 } else x
set_option maxRecDepth 100000 in
set_option maxHeartbeats 2000000 in
theorem l11Do_1 (x y : StL) (A1 A2 A3 A4 B1 B2 B3 B4 : Option Addr) (c1 c2 c3 c4 d1 d2 d3 d4 : Nat) (w : World) (hv : -100 ≤ x.ver ∧ x.ver ≤ 100) :
    Calls Tryz.prog 93 #[stV x A1 A2 A3 A4 c1 c2 c3 c4, stV y B1 B2 B3 B4 d1 d2 d3 d4, .int .i64 1] w fun e w' => e = .returned (stV (doSt x y 1) A1 A2 A3 A4 c1 c2 c3 c4) ∧ Keeps noBlk w w' := by
  have HK := Lib.hid ((((Keeps.refl noBlk w).alloc (.cells #[.int .i64 x.way, .int .i64 x.ver, .int .i64 x.want, .slice A1 x.sent.length c1, .slice A2 x.live.length c2, .slice A3 x.back.length c3, .slice A4 x.got.length c4] 39)).alloc (.cells #[.int .i64 y.way, .int .i64 y.ver, .int .i64 y.want, .slice B1 y.sent.length d1, .slice B2 y.live.length d2, .slice B3 y.back.length d3, .slice B4 y.got.length d4] 39)).alloc (.cells #[.int .i64 0, .int .i64 0, .int .i64 0, .slice none 0 0, .slice none 0 0, .slice none 0 0, .slice none 0 0] 39))
  have HF := Lib.hid (show doSt x y 1 = ⟨1, x.ver, x.want, x.sent, x.live, x.back, x.got⟩ by simp [doSt])
  unfold stV
  go_enter Tryz.func93, Tryz.ntmps93
  go_wp2
  refine bodyPost_ret (v := .agg #[.int .i64 (1), .int .i64 (x.ver), .int .i64 (x.want), .slice A1 x.sent.length c1, .slice A2 x.live.length c2, .slice A3 x.back.length c3, .slice A4 x.got.length c4]) (by simp [results, Tryz.results93, go_sem, *]) rfl ⟨by rw [HF.out], ?_⟩
  exact (((Keeps.refl _ _).alloc _).alloc _).alloc _
set_option maxRecDepth 100000 in
set_option maxHeartbeats 2000000 in
theorem l11Do_2 (x y : StL) (A1 A2 A3 A4 B1 B2 B3 B4 : Option Addr) (c1 c2 c3 c4 d1 d2 d3 d4 : Nat) (w : World) (hv : -100 ≤ x.ver ∧ x.ver ≤ 100) :
    Calls Tryz.prog 93 #[stV x A1 A2 A3 A4 c1 c2 c3 c4, stV y B1 B2 B3 B4 d1 d2 d3 d4, .int .i64 2] w fun e w' => e = .returned (stV (doSt x y 2) A1 A2 A3 A4 c1 c2 c3 c4) ∧ Keeps noBlk w w' := by
  have HK := Lib.hid ((((Keeps.refl noBlk w).alloc (.cells #[.int .i64 x.way, .int .i64 x.ver, .int .i64 x.want, .slice A1 x.sent.length c1, .slice A2 x.live.length c2, .slice A3 x.back.length c3, .slice A4 x.got.length c4] 39)).alloc (.cells #[.int .i64 y.way, .int .i64 y.ver, .int .i64 y.want, .slice B1 y.sent.length d1, .slice B2 y.live.length d2, .slice B3 y.back.length d3, .slice B4 y.got.length d4] 39)).alloc (.cells #[.int .i64 0, .int .i64 0, .int .i64 0, .slice none 0 0, .slice none 0 0, .slice none 0 0, .slice none 0 0] 39))
  have HF := Lib.hid (show doSt x y 2 = ⟨2, x.ver, x.want, x.sent, x.live, x.back, x.got⟩ by simp [doSt])
  unfold stV
  go_enter Tryz.func93, Tryz.ntmps93
  go_wp2
  refine bodyPost_ret (v := .agg #[.int .i64 (2), .int .i64 (x.ver), .int .i64 (x.want), .slice A1 x.sent.length c1, .slice A2 x.live.length c2, .slice A3 x.back.length c3, .slice A4 x.got.length c4]) (by simp [results, Tryz.results93, go_sem, *]) rfl ⟨by rw [HF.out], ?_⟩
  exact (((Keeps.refl _ _).alloc _).alloc _).alloc _
set_option maxRecDepth 100000 in
set_option maxHeartbeats 2000000 in
theorem l11Do_3 (x y : StL) (A1 A2 A3 A4 B1 B2 B3 B4 : Option Addr) (c1 c2 c3 c4 d1 d2 d3 d4 : Nat) (w : World) (hv : -100 ≤ x.ver ∧ x.ver ≤ 100) :
    Calls Tryz.prog 93 #[stV x A1 A2 A3 A4 c1 c2 c3 c4, stV y B1 B2 B3 B4 d1 d2 d3 d4, .int .i64 3] w fun e w' => e = .returned (stV (doSt x y 3) A1 A2 A3 A4 c1 c2 c3 c4) ∧ Keeps noBlk w w' := by
  have HK := Lib.hid ((((Keeps.refl noBlk w).alloc (.cells #[.int .i64 x.way, .int .i64 x.ver, .int .i64 x.want, .slice A1 x.sent.length c1, .slice A2 x.live.length c2, .slice A3 x.back.length c3, .slice A4 x.got.length c4] 39)).alloc (.cells #[.int .i64 y.way, .int .i64 y.ver, .int .i64 y.want, .slice B1 y.sent.length d1, .slice B2 y.live.length d2, .slice B3 y.back.length d3, .slice B4 y.got.length d4] 39)).alloc (.cells #[.int .i64 0, .int .i64 0, .int .i64 0, .slice none 0 0, .slice none 0 0, .slice none 0 0, .slice none 0 0] 39))
  have HF := Lib.hid (show doSt x y 3 = ⟨3, x.ver, x.want, x.sent, x.live, x.back, x.got⟩ by simp [doSt])
  unfold stV
  go_enter Tryz.func93, Tryz.ntmps93
  go_wp2
  refine bodyPost_ret (v := .agg #[.int .i64 (3), .int .i64 (x.ver), .int .i64 (x.want), .slice A1 x.sent.length c1, .slice A2 x.live.length c2, .slice A3 x.back.length c3, .slice A4 x.got.length c4]) (by simp [results, Tryz.results93, go_sem, *]) rfl ⟨by rw [HF.out], ?_⟩
  exact (((Keeps.refl _ _).alloc _).alloc _).alloc _
set_option maxRecDepth 100000 in
set_option maxHeartbeats 2000000 in
theorem l11Do_4 (x y : StL) (A1 A2 A3 A4 B1 B2 B3 B4 : Option Addr) (c1 c2 c3 c4 d1 d2 d3 d4 : Nat) (w : World) (hv : -100 ≤ x.ver ∧ x.ver ≤ 100) :
    Calls Tryz.prog 93 #[stV x A1 A2 A3 A4 c1 c2 c3 c4, stV y B1 B2 B3 B4 d1 d2 d3 d4, .int .i64 4] w fun e w' => e = .returned (stV (doSt x y 4) A1 A2 A3 A4 c1 c2 c3 c4) ∧ Keeps noBlk w w' := by
  have HK := Lib.hid ((((Keeps.refl noBlk w).alloc (.cells #[.int .i64 x.way, .int .i64 x.ver, .int .i64 x.want, .slice A1 x.sent.length c1, .slice A2 x.live.length c2, .slice A3 x.back.length c3, .slice A4 x.got.length c4] 39)).alloc (.cells #[.int .i64 y.way, .int .i64 y.ver, .int .i64 y.want, .slice B1 y.sent.length d1, .slice B2 y.live.length d2, .slice B3 y.back.length d3, .slice B4 y.got.length d4] 39)).alloc (.cells #[.int .i64 0, .int .i64 0, .int .i64 0, .slice none 0 0, .slice none 0 0, .slice none 0 0, .slice none 0 0] 39))
  have HF := Lib.hid (show doSt x y 4 = ⟨3, x.ver, x.want, x.sent, x.live, x.back, x.got⟩ by simp [doSt])
  unfold stV
  go_enter Tryz.func93, Tryz.ntmps93
  go_wp2
  refine bodyPost_ret (v := .agg #[.int .i64 (3), .int .i64 (x.ver), .int .i64 (x.want), .slice A1 x.sent.length c1, .slice A2 x.live.length c2, .slice A3 x.back.length c3, .slice A4 x.got.length c4]) (by simp [results, Tryz.results93, go_sem, *]) rfl ⟨by rw [HF.out], ?_⟩
  exact (((Keeps.refl _ _).alloc _).alloc _).alloc _
set_option maxRecDepth 100000 in
set_option maxHeartbeats 2000000 in
theorem l11Do_5 (x y : StL) (A1 A2 A3 A4 B1 B2 B3 B4 : Option Addr) (c1 c2 c3 c4 d1 d2 d3 d4 : Nat) (w : World) (hv : -100 ≤ x.ver ∧ x.ver ≤ 100) :
    Calls Tryz.prog 93 #[stV x A1 A2 A3 A4 c1 c2 c3 c4, stV y B1 B2 B3 B4 d1 d2 d3 d4, .int .i64 5] w fun e w' => e = .returned (stV (doSt x y 5) A1 A2 A3 A4 c1 c2 c3 c4) ∧ Keeps noBlk w w' := by
  have HK := Lib.hid ((((Keeps.refl noBlk w).alloc (.cells #[.int .i64 x.way, .int .i64 x.ver, .int .i64 x.want, .slice A1 x.sent.length c1, .slice A2 x.live.length c2, .slice A3 x.back.length c3, .slice A4 x.got.length c4] 39)).alloc (.cells #[.int .i64 y.way, .int .i64 y.ver, .int .i64 y.want, .slice B1 y.sent.length d1, .slice B2 y.live.length d2, .slice B3 y.back.length d3, .slice B4 y.got.length d4] 39)).alloc (.cells #[.int .i64 0, .int .i64 0, .int .i64 0, .slice none 0 0, .slice none 0 0, .slice none 0 0, .slice none 0 0] 39))
  have HF := Lib.hid (show doSt x y 5 = ⟨4, x.ver, x.ver + 1, x.sent, x.live, x.back, x.got⟩ by simp [doSt])
  unfold stV
  go_enter Tryz.func93, Tryz.ntmps93
  go_wp2
  refine bodyPost_ret (v := .agg #[.int .i64 (4), .int .i64 (x.ver), .int .i64 (x.ver + 1), .slice A1 x.sent.length c1, .slice A2 x.live.length c2, .slice A3 x.back.length c3, .slice A4 x.got.length c4]) (by simp [results, Tryz.results93, go_sem, *]) rfl ⟨by rw [HF.out], ?_⟩
  exact (((Keeps.refl _ _).alloc _).alloc _).alloc _
set_option maxRecDepth 100000 in
set_option maxHeartbeats 2000000 in
theorem l11Do_6 (x y : StL) (A1 A2 A3 A4 B1 B2 B3 B4 : Option Addr) (c1 c2 c3 c4 d1 d2 d3 d4 : Nat) (w : World) (hv : -100 ≤ x.ver ∧ x.ver ≤ 100) :
    Calls Tryz.prog 93 #[stV x A1 A2 A3 A4 c1 c2 c3 c4, stV y B1 B2 B3 B4 d1 d2 d3 d4, .int .i64 6] w fun e w' => e = .returned (stV (doSt x y 6) A1 A2 A3 A4 c1 c2 c3 c4) ∧ Keeps noBlk w w' := by
  have HK := Lib.hid ((((Keeps.refl noBlk w).alloc (.cells #[.int .i64 x.way, .int .i64 x.ver, .int .i64 x.want, .slice A1 x.sent.length c1, .slice A2 x.live.length c2, .slice A3 x.back.length c3, .slice A4 x.got.length c4] 39)).alloc (.cells #[.int .i64 y.way, .int .i64 y.ver, .int .i64 y.want, .slice B1 y.sent.length d1, .slice B2 y.live.length d2, .slice B3 y.back.length d3, .slice B4 y.got.length d4] 39)).alloc (.cells #[.int .i64 0, .int .i64 0, .int .i64 0, .slice none 0 0, .slice none 0 0, .slice none 0 0, .slice none 0 0] 39))
  have HF := Lib.hid (show doSt x y 6 = ⟨4, x.ver, y.want, x.sent, x.live, x.back, x.got⟩ by simp [doSt])
  unfold stV
  go_enter Tryz.func93, Tryz.ntmps93
  go_wp2
  refine bodyPost_ret (v := .agg #[.int .i64 (4), .int .i64 (x.ver), .int .i64 (y.want), .slice A1 x.sent.length c1, .slice A2 x.live.length c2, .slice A3 x.back.length c3, .slice A4 x.got.length c4]) (by simp [results, Tryz.results93, go_sem, *]) rfl ⟨by rw [HF.out], ?_⟩
  exact (((Keeps.refl _ _).alloc _).alloc _).alloc _
set_option maxRecDepth 100000 in
set_option maxHeartbeats 2000000 in
theorem l11Do_7 (x y : StL) (A1 A2 A3 A4 B1 B2 B3 B4 : Option Addr) (c1 c2 c3 c4 d1 d2 d3 d4 : Nat) (w : World) (hv : -100 ≤ x.ver ∧ x.ver ≤ 100) :
    Calls Tryz.prog 93 #[stV x A1 A2 A3 A4 c1 c2 c3 c4, stV y B1 B2 B3 B4 d1 d2 d3 d4, .int .i64 7] w fun e w' => e = .returned (stV (doSt x y 7) A1 A2 A3 A4 c1 c2 c3 c4) ∧ Keeps noBlk w w' := by
  have HK := Lib.hid ((((Keeps.refl noBlk w).alloc (.cells #[.int .i64 x.way, .int .i64 x.ver, .int .i64 x.want, .slice A1 x.sent.length c1, .slice A2 x.live.length c2, .slice A3 x.back.length c3, .slice A4 x.got.length c4] 39)).alloc (.cells #[.int .i64 y.way, .int .i64 y.ver, .int .i64 y.want, .slice B1 y.sent.length d1, .slice B2 y.live.length d2, .slice B3 y.back.length d3, .slice B4 y.got.length d4] 39)).alloc (.cells #[.int .i64 0, .int .i64 0, .int .i64 0, .slice none 0 0, .slice none 0 0, .slice none 0 0, .slice none 0 0] 39))
  have HF := Lib.hid (show doSt x y 7 = ⟨3, x.want, 0, x.sent, x.live, x.back, x.got⟩ by simp [doSt])
  unfold stV
  go_enter Tryz.func93, Tryz.ntmps93
  go_wp2
  refine bodyPost_ret (v := .agg #[.int .i64 (3), .int .i64 (x.want), .int .i64 (0), .slice A1 x.sent.length c1, .slice A2 x.live.length c2, .slice A3 x.back.length c3, .slice A4 x.got.length c4]) (by simp [results, Tryz.results93, go_sem, *]) rfl ⟨by rw [HF.out], ?_⟩
  exact (((Keeps.refl _ _).alloc _).alloc _).alloc _
set_option maxRecDepth 100000 in
set_option maxHeartbeats 2000000 in
theorem l11Do_no (x y : StL) (A1 A2 A3 A4 B1 B2 B3 B4 : Option Addr) (c1 c2 c3 c4 d1 d2 d3 d4 : Nat) (k : Int) (hn : k < 1 ∨ 7 < k) (w : World) (hv : -100 ≤ x.ver ∧ x.ver ≤ 100) :
    Calls Tryz.prog 93 #[stV x A1 A2 A3 A4 c1 c2 c3 c4, stV y B1 B2 B3 B4 d1 d2 d3 d4, .int .i64 k] w fun e w' => e = .returned (stV (doSt x y k) A1 A2 A3 A4 c1 c2 c3 c4) ∧ Keeps noBlk w w' := by
  have HK := Lib.hid ((((Keeps.refl noBlk w).alloc (.cells #[.int .i64 x.way, .int .i64 x.ver, .int .i64 x.want, .slice A1 x.sent.length c1, .slice A2 x.live.length c2, .slice A3 x.back.length c3, .slice A4 x.got.length c4] 39)).alloc (.cells #[.int .i64 y.way, .int .i64 y.ver, .int .i64 y.want, .slice B1 y.sent.length d1, .slice B2 y.live.length d2, .slice B3 y.back.length d3, .slice B4 y.got.length d4] 39)).alloc (.cells #[.int .i64 0, .int .i64 0, .int .i64 0, .slice none 0 0, .slice none 0 0, .slice none 0 0, .slice none 0 0] 39))
  have e1 : (k == 1) = false := by simp; omega
  have e2 : (k == 2) = false := by simp; omega
  have e3 : (k == 3) = false := by simp; omega
  have e4 : (k == 4) = false := by simp; omega
  have e5 : (k == 5) = false := by simp; omega
  have e6 : (k == 6) = false := by simp; omega
  have e7 : (k == 7) = false := by simp; omega
  have HF := Lib.hid (show doSt x y k = x by unfold doSt; rw [if_neg (by omega), if_neg (by omega), if_neg (by omega), if_neg (by omega), if_neg (by omega), if_neg (by omega)])
  clear hn
  unfold stV
  go_enter Tryz.func93, Tryz.ntmps93
  go_wp2
  refine bodyPost_ret (v := .agg #[.int .i64 (x.way), .int .i64 (x.ver), .int .i64 (x.want), .slice A1 x.sent.length c1, .slice A2 x.live.length c2, .slice A3 x.back.length c3, .slice A4 x.got.length c4]) (by simp [results, Tryz.results93, go_sem, *]) rfl ⟨by rw [HF.out], ?_⟩
  exact (((Keeps.refl _ _).alloc _).alloc _).alloc _
theorem l11Do_any (x y : StL) (A1 A2 A3 A4 B1 B2 B3 B4 : Option Addr) (c1 c2 c3 c4 d1 d2 d3 d4 : Nat) (k : Int) (w : World) (hv : -100 ≤ x.ver ∧ x.ver ≤ 100) :
    Calls Tryz.prog 93 #[stV x A1 A2 A3 A4 c1 c2 c3 c4, stV y B1 B2 B3 B4 d1 d2 d3 d4, .int .i64 k] w fun e w' => e = .returned (stV (doSt x y k) A1 A2 A3 A4 c1 c2 c3 c4) ∧ Keeps noBlk w w' := by
  by_cases hn : k < 1 ∨ 7 < k
  · exact l11Do_no x y A1 A2 A3 A4 B1 B2 B3 B4 c1 c2 c3 c4 d1 d2 d3 d4 k hn w hv
  · have h7 : k = 1 ∨ k = 2 ∨ k = 3 ∨ k = 4 ∨ k = 5 ∨ k = 6 ∨ k = 7 := by omega
    rcases h7 with rfl | rfl | rfl | rfl | rfl | rfl | rfl
    · exact l11Do_1 x y A1 A2 A3 A4 B1 B2 B3 B4 c1 c2 c3 c4 d1 d2 d3 d4 w hv
    · exact l11Do_2 x y A1 A2 A3 A4 B1 B2 B3 B4 c1 c2 c3 c4 d1 d2 d3 d4 w hv
    · exact l11Do_3 x y A1 A2 A3 A4 B1 B2 B3 B4 c1 c2 c3 c4 d1 d2 d3 d4 w hv
    · exact l11Do_4 x y A1 A2 A3 A4 B1 B2 B3 B4 c1 c2 c3 c4 d1 d2 d3 d4 w hv
    · exact l11Do_5 x y A1 A2 A3 A4 B1 B2 B3 B4 c1 c2 c3 c4 d1 d2 d3 d4 w hv
    · exact l11Do_6 x y A1 A2 A3 A4 B1 B2 B3 B4 c1 c2 c3 c4 d1 d2 d3 d4 w hv
    · exact l11Do_7 x y A1 A2 A3 A4 B1 B2 B3 B4 c1 c2 c3 c4 d1 d2 d3 d4 w hv

def wmayB (x y : StL) (k : Int) : Bool := stB x && stB y && mayB x y k
end Go.Proofs.YtcnbephpadmboaaGreatDoor
