/- The program's steps: which may be done, stepAt, WayMay. The two tables read as the program's text lays them. The program's WayMay. The two tables read as the program's text lays them. -/
import Derived.Test.YtjcbeihoeanhaaaDoorUGDo
import Derived.Test.YtjcbeihoeanhaaaDoorUOwnB
import Derived.Laws.EntriesVeiled
set_option maxRecDepth 100000
set_option maxHeartbeats 2000000
set_option linter.unusedVariables false
set_option linter.unusedSimpArgs false
/-! IMay -/
namespace Go.Proofs.YtjcbeihoeanhaaaDoor
open Go.RowKit

theorem impl_mayInit (x y : StL) (A1 A2 A3 A4 B1 B2 B3 B4 : Option Addr) (c1 c2 c3 c4 d1 d2 d3 d4 : Nat) (w : World) (h0 : 0 ≤ x.way) (hv : -100 ≤ x.ver ∧ x.ver ≤ 100) :
  Calls Tryd.prog 64 #[stV x A1 A2 A3 A4 c1 c2 c3 c4, stV y B1 B2 B3 B4 d1 d2 d3 d4] w fun e w' => e = .returned (.bool (mayB x y 1)) ∧ Keeps noBlk w w' := by
 have HK := hH (((Keeps.refl noBlk w).alloc (.cells (stC x A1 A2 A3 A4 c1 c2 c3 c4) 27)).alloc (.cells (stC y B1 B2 B3 B4 d1 d2 d3 d4) 27)); unfold stV
 go_enter Tryd.func64, Tryd.ntmps64
 by_cases q0 : x.way = 0
 ·have eq0 : (x.way == 0) = true := by simp [q0]
  have HF := hH (show mayB x y 1 = true by simp [mayB]; omega); clear q0 h0; go_wp2; go_ret; exact ⟨by simp [HF.out], HK.out⟩
 ·have eq0 : (x.way == 0) = false := by simp [q0]
  have HF := hH (show mayB x y 1 = false by simp [mayB]; omega); clear q0 h0; go_wp2; go_ret; exact ⟨by simp [HF.out], HK.out⟩
theorem impl_mayTry (x y : StL) (A1 A2 A3 A4 B1 B2 B3 B4 : Option Addr) (c1 c2 c3 c4 d1 d2 d3 d4 : Nat) (w : World) (h0 : 0 ≤ x.way) (hv : -100 ≤ x.ver ∧ x.ver ≤ 100) :
  Calls Tryd.prog 66 #[stV x A1 A2 A3 A4 c1 c2 c3 c4, stV y B1 B2 B3 B4 d1 d2 d3 d4] w fun e w' => e = .returned (.bool (mayB x y 2)) ∧ Keeps noBlk w w' := by
 have HK := hH (((Keeps.refl noBlk w).alloc (.cells (stC x A1 A2 A3 A4 c1 c2 c3 c4) 27)).alloc (.cells (stC y B1 B2 B3 B4 d1 d2 d3 d4) 27)); unfold stV
 go_enter Tryd.func66, Tryd.ntmps66
 by_cases q0 : x.way = 0
 ·have eq0 : (x.way == 0) = true := by simp [q0]
  by_cases q1 : y.way = 1
  ·have eq1 : (y.way == 1) = true := by simp [q1]
   have HF := hH (show mayB x y 2 = true by simp [mayB]; omega); clear q0 q1 h0; go_wp2; go_ret; exact ⟨by simp [HF.out], HK.out⟩
  ·have eq1 : (y.way == 1) = false := by simp [q1]
   by_cases q2 : y.way = 2
   ·have eq2 : (y.way == 2) = true := by simp [q2]
    have HF := hH (show mayB x y 2 = true by simp [mayB]; omega); clear q0 q1 q2 h0; go_wp2; go_ret; exact ⟨by simp [HF.out], HK.out⟩
   ·have eq2 : (y.way == 2) = false := by simp [q2]
    have HF := hH (show mayB x y 2 = false by simp [mayB]; omega); clear q0 q1 q2 h0; go_wp2; go_ret; exact ⟨by simp [HF.out], HK.out⟩
 ·have eq0 : (x.way == 0) = false := by simp [q0]
  by_cases q1 : x.way = 1
  ·have eq1 : (x.way == 1) = true := by simp [q1]
   by_cases q2 : y.way = 1
   ·have eq2 : (y.way == 1) = true := by simp [q2]
    have HF := hH (show mayB x y 2 = true by simp [mayB]; omega); clear q0 q1 q2 h0; go_wp2; go_ret; exact ⟨by simp [HF.out], HK.out⟩
   ·have eq2 : (y.way == 1) = false := by simp [q2]
    by_cases q3 : y.way = 2
    ·have eq3 : (y.way == 2) = true := by simp [q3]
     have HF := hH (show mayB x y 2 = true by simp [mayB]; omega); clear q0 q1 q2 q3 h0; go_wp2; go_ret; exact ⟨by simp [HF.out], HK.out⟩
    ·have eq3 : (y.way == 2) = false := by simp [q3]
     have HF := hH (show mayB x y 2 = false by simp [mayB]; omega); clear q0 q1 q2 q3 h0; go_wp2; go_ret; exact ⟨by simp [HF.out], HK.out⟩
  ·have eq1 : (x.way == 1) = false := by simp [q1]
   have HF := hH (show mayB x y 2 = false by simp [mayB]; omega); clear q0 q1 h0; go_wp2; go_ret; exact ⟨by simp [HF.out], HK.out⟩
theorem impl_mayAck (x y : StL) (A1 A2 A3 A4 B1 B2 B3 B4 : Option Addr) (c1 c2 c3 c4 d1 d2 d3 d4 : Nat) (w : World) (h0 : 0 ≤ x.way) (hv : -100 ≤ x.ver ∧ x.ver ≤ 100) :
  Calls Tryd.prog 68 #[stV x A1 A2 A3 A4 c1 c2 c3 c4, stV y B1 B2 B3 B4 d1 d2 d3 d4] w fun e w' => e = .returned (.bool (mayB x y 3)) ∧ Keeps noBlk w w' := by
 have HK := hH (((Keeps.refl noBlk w).alloc (.cells (stC x A1 A2 A3 A4 c1 c2 c3 c4) 27)).alloc (.cells (stC y B1 B2 B3 B4 d1 d2 d3 d4) 27)); unfold stV
 go_enter Tryd.func68, Tryd.ntmps68
 by_cases q0 : x.way = 1
 ·have eq0 : (x.way == 1) = true := by simp [q0]
  by_cases q1 : 2 ≤ y.way
  ·have eq1 : decide (2 ≤ y.way) = true := by simp [q1]
   have HF := hH (show mayB x y 3 = true by simp [mayB]; omega); clear q0 q1 h0; go_wp2; go_ret; exact ⟨by simp [HF.out], HK.out⟩
  ·have eq1 : decide (2 ≤ y.way) = false := by simp [q1]
   have HF := hH (show mayB x y 3 = false by simp [mayB]; omega); clear q0 q1 h0; go_wp2; go_ret; exact ⟨by simp [HF.out], HK.out⟩
 ·have eq0 : (x.way == 1) = false := by simp [q0]
  have HF := hH (show mayB x y 3 = false by simp [mayB]; omega); clear q0 h0; go_wp2; go_ret; exact ⟨by simp [HF.out], HK.out⟩
theorem impl_mayDone (x y : StL) (A1 A2 A3 A4 B1 B2 B3 B4 : Option Addr) (c1 c2 c3 c4 d1 d2 d3 d4 : Nat) (w : World) (h0 : 0 ≤ x.way) (hv : -100 ≤ x.ver ∧ x.ver ≤ 100) :
  Calls Tryd.prog 70 #[stV x A1 A2 A3 A4 c1 c2 c3 c4, stV y B1 B2 B3 B4 d1 d2 d3 d4] w fun e w' => e = .returned (.bool (mayB x y 4)) ∧ Keeps noBlk w w' := by
 have HK := hH (((Keeps.refl noBlk w).alloc (.cells (stC x A1 A2 A3 A4 c1 c2 c3 c4) 27)).alloc (.cells (stC y B1 B2 B3 B4 d1 d2 d3 d4) 27)); unfold stV
 go_enter Tryd.func70, Tryd.ntmps70
 by_cases q0 : x.way = 2
 ·have eq0 : (x.way == 2) = true := by simp [q0]
  by_cases q1 : 2 ≤ y.way
  ·have eq1 : decide (2 ≤ y.way) = true := by simp [q1]
   have HF := hH (show mayB x y 4 = true by simp [mayB]; omega); clear q0 q1 h0; go_wp2; go_ret; exact ⟨by simp [HF.out], HK.out⟩
  ·have eq1 : decide (2 ≤ y.way) = false := by simp [q1]
   have HF := hH (show mayB x y 4 = false by simp [mayB]; omega); clear q0 q1 h0; go_wp2; go_ret; exact ⟨by simp [HF.out], HK.out⟩
 ·have eq0 : (x.way == 2) = false := by simp [q0]
  have HF := hH (show mayB x y 4 = false by simp [mayB]; omega); clear q0 h0; go_wp2; go_ret; exact ⟨by simp [HF.out], HK.out⟩
theorem impl_mayNew (x y : StL) (A1 A2 A3 A4 B1 B2 B3 B4 : Option Addr) (c1 c2 c3 c4 d1 d2 d3 d4 : Nat) (w : World) (h0 : 0 ≤ x.way) (hv : -100 ≤ x.ver ∧ x.ver ≤ 100) :
  Calls Tryd.prog 71 #[stV x A1 A2 A3 A4 c1 c2 c3 c4, stV y B1 B2 B3 B4 d1 d2 d3 d4] w fun e w' => e = .returned (.bool (mayB x y 5)) ∧ Keeps noBlk w w' := by
 have HK := hH (((Keeps.refl noBlk w).alloc (.cells (stC x A1 A2 A3 A4 c1 c2 c3 c4) 27)).alloc (.cells (stC y B1 B2 B3 B4 d1 d2 d3 d4) 27)); unfold stV
 go_enter Tryd.func71, Tryd.ntmps71
 by_cases q0 : x.way = 3
 ·have eq0 : (x.way == 3) = true := by simp [q0]
  by_cases q1 : x.ver < 9
  ·have eq1 : decide (x.ver < 9) = true := by simp [q1]
   have HF := hH (show mayB x y 5 = true by simp [mayB]; omega); clear q0 q1 h0; go_wp2; go_ret; exact ⟨by simp [HF.out], HK.out⟩
  ·have eq1 : decide (x.ver < 9) = false := by simp [q1]
   have HF := hH (show mayB x y 5 = false by simp [mayB]; omega); clear q0 q1 h0; go_wp2; go_ret; exact ⟨by simp [HF.out], HK.out⟩
 ·have eq0 : (x.way == 3) = false := by simp [q0]
  have HF := hH (show mayB x y 5 = false by simp [mayB]; omega); clear q0 h0; go_wp2; go_ret; exact ⟨by simp [HF.out], HK.out⟩
theorem impl_mayAlso (x y : StL) (A1 A2 A3 A4 B1 B2 B3 B4 : Option Addr) (c1 c2 c3 c4 d1 d2 d3 d4 : Nat) (w : World) (h0 : 0 ≤ x.way) (hv : -100 ≤ x.ver ∧ x.ver ≤ 100) :
  Calls Tryd.prog 73 #[stV x A1 A2 A3 A4 c1 c2 c3 c4, stV y B1 B2 B3 B4 d1 d2 d3 d4] w fun e w' => e = .returned (.bool (mayB x y 6)) ∧ Keeps noBlk w w' := by
 have HK := hH (((Keeps.refl noBlk w).alloc (.cells (stC x A1 A2 A3 A4 c1 c2 c3 c4) 27)).alloc (.cells (stC y B1 B2 B3 B4 d1 d2 d3 d4) 27)); unfold stV
 go_enter Tryd.func73, Tryd.ntmps73
 by_cases q0 : x.way = 3
 ·have eq0 : (x.way == 3) = true := by simp [q0]
  by_cases q1 : y.way = 4
  ·have eq1 : (y.way == 4) = true := by simp [q1]
   by_cases q2 : y.want = x.ver + 1
   ·have eq2 : (y.want == x.ver + 1) = true := by simp [q2]
    have HF := hH (show mayB x y 6 = true by simp [mayB]; omega); clear q0 q1 q2 h0; go_wp2; go_ret; exact ⟨by simp [HF.out], HK.out⟩
   ·have eq2 : (y.want == x.ver + 1) = false := by simp [q2]
    have HF := hH (show mayB x y 6 = false by simp [mayB]; omega); clear q0 q1 q2 h0; go_wp2; go_ret; exact ⟨by simp [HF.out], HK.out⟩
  ·have eq1 : (y.way == 4) = false := by simp [q1]
   have HF := hH (show mayB x y 6 = false by simp [mayB]; omega); clear q0 q1 h0; go_wp2; go_ret; exact ⟨by simp [HF.out], HK.out⟩
 ·have eq0 : (x.way == 3) = false := by simp [q0]
  have HF := hH (show mayB x y 6 = false by simp [mayB]; omega); clear q0 h0; go_wp2; go_ret; exact ⟨by simp [HF.out], HK.out⟩
theorem cntT_zero {l : List Bool} : cntT l = 0 ↔ ∀ k, k < l.length → l.getD k false = false := by
 induction l with
 | nil => simp [cntT]
 | cons a l ih =>
  constructor
  ·intro h k hk
   simp only [cntT] at h
   cases k with
   | zero => cases a <;> simp_all
   | succ k => rw [List.getD_cons_succ]; exact ih.1 (by omega) k (by simpa using hk)
  ·intro h
   have h1 := h 0 (by simp); rw [List.getD_cons_zero] at h1
   have h2 := ih.2 fun k hk => by have := h (k + 1) (by simpa using hk); rwa [List.getD_cons_succ] at this
   simp only [cntT, h1, h2]; simp
theorem liveTo_zero {x : StL} {n : Nat} : (liveTo x n).length = 0 ↔ ∀ k, k < n → x.live.getD k false = false := by
 induction n with
 | zero => simp [liveTo]
 | succ n ih =>
  rw [liveTo]
  split
  ·rename_i h
   constructor
   ·intro e; simp at e
   ·intro e; rw [e n (by omega)] at h; cases h
  ·rename_i h
   rw [ih]
   constructor
   ·intro e k hk
    by_cases hkn : k = n
    ·subst hkn; simpa using h
    ·exact e k (by omega)
   ·intro e k hk; exact e k (by omega)
theorem liveL_zero {x : StL} (h : stB x = true) (hl : x.live.length = x.sent.length) : ((liveL x).length = 0) ↔ liveN x = 0 := by
 unfold liveL liveN; rw [if_pos h, liveTo_zero, cntT_zero, hl]
theorem impl_nothingLive (x : StL) (A1 A2 A3 A4 : Option Addr) (c1 c2 c3 c4 : Nat) (w : World) (hx : StAt w x A1 A2 A3 A4) (ht : Tabs w) (h : stB x = true) (hl : x.live.length = x.sent.length) :
  Calls Tryd.prog 81 #[stV x A1 A2 A3 A4 c1 c2 c3 c4] w fun e w' => e = .returned (.bool (decide (liveN x = 0))) ∧ Keeps noBlk w w' := by
 have HL := hH (liveL_zero h hl); have HC := hH (implLive_any x A1 A2 A3 A4 c1 c2 c3 c4 (w.alloc (.cells (stC x A1 A2 A3 A4 c1 c2 c3 c4) 27)) (hx.alloc _) (ht.keeps ((Keeps.refl _ _).alloc _))); have HK := hH ((Keeps.refl noBlk w).alloc (.cells (stC x A1 A2 A3 A4 c1 c2 c3 c4) 27)); clear h hl; generalize liveL x = xs at HL HC; unfold stV at HC ⊢
 go_enter Tryd.func81, Tryd.ntmps81
 go_wp2_with fail; refine HC.out.mono ?_; rintro e w1 ⟨v, rfl, ho, hk1⟩; obtain ⟨A, c, rfl⟩ := (show Rw (fun _ => 0) 0 w1 3 1 v _ _ from ⟨owns_less ho, fun _ _ => rfl⟩).shape; have HK1 := hH (HK.out.trans hk1); clear ho hk1
 by_cases h0 : xs.length = 0
 ·have e0 : ((xs.length : Int) == 0) = true := by simp [h0]
  have HF := hH (HL.out.1 h0); clear h0; go_wp2; go_ret; exact ⟨by simp [HF.out], HK1.out⟩
 ·have e0 : ((xs.length : Int) == 0) = false := by rw [beq_eq_false_iff_ne]; omega
  have HF := hH (show ¬ liveN x = 0 from fun h => h0 (HL.out.2 h)); clear h0; go_wp2; go_ret; exact ⟨by simp [HF.out], HK1.out⟩
theorem impl_followed (x y : StL) (A1 A2 A3 A4 B1 B2 B3 B4 : Option Addr) (c1 c2 c3 c4 d1 d2 d3 d4 : Nat) (w : World) (hx : StAt w x A1 A2 A3 A4) (hy : StAt w y B1 B2 B3 B4) (ht : Tabs w) (h1 : stB x = true) (h2 : stB y = true) (l1 : x.live.length = x.sent.length) (l2 : y.live.length = y.sent.length) :
  Calls Tryd.prog 82 #[stV x A1 A2 A3 A4 c1 c2 c3 c4, stV y B1 B2 B3 B4 d1 d2 d3 d4] w fun e w' => e = .returned (.bool (decide ((y.way = 4 ∧ y.want = x.want ∧ liveN y = 0) ∨ y.ver = x.want))) ∧ Keeps noBlk w w' := by
 have HX := hH ((hx.alloc (.cells (stC x A1 A2 A3 A4 c1 c2 c3 c4) 27)).alloc (.cells (stC y B1 B2 B3 B4 d1 d2 d3 d4) 27)); have HY := hH ((hy.alloc (.cells (stC x A1 A2 A3 A4 c1 c2 c3 c4) 27)).alloc (.cells (stC y B1 B2 B3 B4 d1 d2 d3 d4) 27)); have HT := hH (ht.keeps (((Keeps.refl _ _).alloc (.cells (stC x A1 A2 A3 A4 c1 c2 c3 c4) 27)).alloc (.cells (stC y B1 B2 B3 B4 d1 d2 d3 d4) 27))); have HK := hH (((Keeps.refl noBlk w).alloc (.cells (stC x A1 A2 A3 A4 c1 c2 c3 c4) 27)).alloc (.cells (stC y B1 B2 B3 B4 d1 d2 d3 d4) 27)); have HBX := hH ((Box.new w _ rfl 27 (stC x A1 A2 A3 A4 c1 c2 c3 c4)).alloc (.cells (stC y B1 B2 B3 B4 d1 d2 d3 d4) 27)); have HBY := hH (Box.new (w.alloc (.cells (stC x A1 A2 A3 A4 c1 c2 c3 c4) 27)) (w.heap.size + 1) (by simp) 27 (stC y B1 B2 B3 B4 d1 d2 d3 d4)); have HN := hH (impl_nothingLive y B1 B2 B3 B4 d1 d2 d3 d4 _ HY.out HT.out h2 l2); clear hx hy ht h1 h2 l1 l2; unfold stV at HN ⊢
 go_enter Tryd.func82, Tryd.ntmps82
 by_cases q0 : y.ver = x.want
 ·have e0 : (y.ver == x.want) = true := by simp [q0]
  have HF := hH (show (decide ((y.way = 4 ∧ y.want = x.want ∧ liveN y = 0) ∨ y.ver = x.want)) = true by simp [q0]); clear q0; go_wp2; go_ret; exact ⟨by simp [HF.out], HK.out⟩
 ·have e0 : (y.ver == x.want) = false := by simp [q0]
  by_cases q1 : y.way = 4
  ·have e1 : (y.way == 4) = true := by simp [q1]
   by_cases q2 : y.want = x.want
   ·have e2 : (y.want == x.want) = true := by simp [q2]
    have HF := hH (show (decide ((y.way = 4 ∧ y.want = x.want ∧ liveN y = 0) ∨ y.ver = x.want)) = decide (liveN y = 0) by simp [q0, q1, q2]); clear q0 q1 q2; generalize decide (liveN y = 0) = o at HN HF; go_wp2_with fail; refine HN.out.mono ?_; rintro e w1 ⟨rfl, hk1⟩; have HK1 := hH (HK.out.trans hk1); clear hk1; go_wp2; go_ret; exact ⟨by simp [HF.out], HK1.out⟩
   ·have e2 : (y.want == x.want) = false := by simp [q2]
    have HF := hH (show (decide ((y.way = 4 ∧ y.want = x.want ∧ liveN y = 0) ∨ y.ver = x.want)) = false by simp [q0, q2]); clear q0 q1 q2; go_wp2; go_ret; exact ⟨by simp [HF.out], HK.out⟩
  ·have e1 : (y.way == 4) = false := by simp [q1]
   have HF := hH (show (decide ((y.way = 4 ∧ y.want = x.want ∧ liveN y = 0) ∨ y.ver = x.want)) = false by simp [q0, q1]); clear q0 q1; go_wp2; go_ret; exact ⟨by simp [HF.out], HK.out⟩
theorem impl_mayFresh (x y : StL) (A1 A2 A3 A4 B1 B2 B3 B4 : Option Addr) (c1 c2 c3 c4 d1 d2 d3 d4 : Nat) (w : World) (hx : StAt w x A1 A2 A3 A4) (hy : StAt w y B1 B2 B3 B4) (ht : Tabs w) (h1 : stB x = true) (h2 : stB y = true) (l1 : x.live.length = x.sent.length) (l2 : y.live.length = y.sent.length) :
  Calls Tryd.prog 74 #[stV x A1 A2 A3 A4 c1 c2 c3 c4, stV y B1 B2 B3 B4 d1 d2 d3 d4] w fun e w' => e = .returned (.bool (mayB x y 7)) ∧ Keeps noBlk w w' := by
 have HX := hH ((hx.alloc (.cells (stC x A1 A2 A3 A4 c1 c2 c3 c4) 27)).alloc (.cells (stC y B1 B2 B3 B4 d1 d2 d3 d4) 27)); have HY := hH ((hy.alloc (.cells (stC x A1 A2 A3 A4 c1 c2 c3 c4) 27)).alloc (.cells (stC y B1 B2 B3 B4 d1 d2 d3 d4) 27)); have HT := hH (ht.keeps (((Keeps.refl _ _).alloc (.cells (stC x A1 A2 A3 A4 c1 c2 c3 c4) 27)).alloc (.cells (stC y B1 B2 B3 B4 d1 d2 d3 d4) 27))); have HK := hH (((Keeps.refl noBlk w).alloc (.cells (stC x A1 A2 A3 A4 c1 c2 c3 c4) 27)).alloc (.cells (stC y B1 B2 B3 B4 d1 d2 d3 d4) 27)); have HBX := hH ((Box.new w _ rfl 27 (stC x A1 A2 A3 A4 c1 c2 c3 c4)).alloc (.cells (stC y B1 B2 B3 B4 d1 d2 d3 d4) 27)); have HBY := hH (Box.new (w.alloc (.cells (stC x A1 A2 A3 A4 c1 c2 c3 c4) 27)) (w.heap.size + 1) (by simp) 27 (stC y B1 B2 B3 B4 d1 d2 d3 d4)); have HN := hH (impl_nothingLive x A1 A2 A3 A4 c1 c2 c3 c4 _ HX.out HT.out h1 l1); have HFO := hH (fun W hX hY hT => impl_followed x y A1 A2 A3 A4 B1 B2 B3 B4 c1 c2 c3 c4 d1 d2 d3 d4 W hX hY hT h1 h2 l1 l2); clear hx hy ht h1 h2 l1 l2; have HM := hH (show mayB x y 7 = (decide (x.way = 4) && (decide (liveN x = 0) && decide ((y.way = 4 ∧ y.want = x.want ∧ liveN y = 0) ∨ y.ver = x.want))) by simp [mayB, Bool.decide_and]); generalize mayB x y 7 = o at HM; generalize decide ((y.way = 4 ∧ y.want = x.want ∧ liveN y = 0) ∨ y.ver = x.want) = o2 at HFO HM; generalize decide (liveN x = 0) = o1 at HN HM; unfold stV at HN HFO ⊢
 go_enter Tryd.func74, Tryd.ntmps74
 by_cases q0 : x.way = 4
 ·have e0 : (x.way == 4) = true := by simp [q0]
  have HF := hH (show o = (o1 && o2) by rw [HM.out]; simp [q0]); clear q0 HM; go_wp2_with fail; refine HN.out.mono ?_; rintro e w1 ⟨rfl, hk1⟩; have HK1 := hH (HK.out.trans hk1); have HX1 := hH (HX.out.kept hk1); have HY1 := hH (HY.out.kept hk1); have HT1 := hH (HT.out.keeps hk1)
  have hbx := HBX.out.keeps hk1 fun h => h
  have hby := HBY.out.keeps hk1 fun h => h
  have x0 := hbx.cell 0; have y0 := hby.cell 0; have x1 := hbx.cell 1; have y1 := hby.cell 1; have x2 := hbx.cell 2; have y2 := hby.cell 2; have x3 := hbx.cell 3; have y3 := hby.cell 3; have x4 := hbx.cell 4; have y4 := hby.cell 4; have x5 := hbx.cell 5; have y5 := hby.cell 5; have x6 := hbx.cell 6; have y6 := hby.cell 6; simp at x0 y0 x1 y1 x2 y2 x3 y3 x4 y4 x5 y5 x6 y6; have zx := hbx.lt; have zy := hby.lt; clear hbx hby hk1
  cases o1 with
  | false =>
   go_wp2; go_ret; exact ⟨by simp [HF.out], HK1.out⟩
  | true =>
   go_wp2_with fail; refine (HFO.out _ HX1.out HY1.out HT1.out).mono ?_; rintro e w2 ⟨rfl, hk2⟩; have HK2 := hH (HK1.out.trans hk2); clear hk2; go_wp2; go_ret; exact ⟨by simp [HF.out], HK2.out⟩
 ·have e0 : (x.way == 4) = false := by simp [q0]
  have HF := hH (show o = false by rw [HM.out]; simp [q0]); clear q0 HM; go_wp2; go_ret; exact ⟨by simp [HF.out], HK.out⟩
theorem impl_begun (x : StL) (A1 A2 A3 A4 : Option Addr) (c1 c2 c3 c4 : Nat) (w : World) (hv : -100 ≤ x.ver ∧ x.ver ≤ 100) :
  Calls Tryd.prog 65 #[stV x A1 A2 A3 A4 c1 c2 c3 c4] w fun e w' => e = .returned (stV ⟨1, x.ver, x.want, x.sent, x.live, x.back, x.got⟩ A1 A2 A3 A4 c1 c2 c3 c4) ∧ Keeps noBlk w w' := by
 unfold stV
 go_enter Tryd.func65, Tryd.ntmps65
 go_wp2; refine bodyPost_ret (v := .agg #[.int .i64 (1), .int .i64 (x.ver), .int .i64 (x.want), .slice A1 x.sent.length c1, .slice A2 x.live.length c2, .slice A3 x.back.length c3, .slice A4 x.got.length c4]) (by simp [results, Tryd.results65, go_sem, *]) rfl ⟨rfl, ?_⟩
 first | exact ((Keeps.refl _ _).alloc _).alloc _ | exact (Keeps.refl _ _).alloc _ | exact (((Keeps.refl _ _).alloc _).alloc _).alloc _
theorem impl_tried (x : StL) (A1 A2 A3 A4 : Option Addr) (c1 c2 c3 c4 : Nat) (w : World) (hv : -100 ≤ x.ver ∧ x.ver ≤ 100) :
  Calls Tryd.prog 67 #[stV x A1 A2 A3 A4 c1 c2 c3 c4] w fun e w' => e = .returned (stV ⟨2, x.ver, x.want, x.sent, x.live, x.back, x.got⟩ A1 A2 A3 A4 c1 c2 c3 c4) ∧ Keeps noBlk w w' := by
 unfold stV
 go_enter Tryd.func67, Tryd.ntmps67
 go_wp2; refine bodyPost_ret (v := .agg #[.int .i64 (2), .int .i64 (x.ver), .int .i64 (x.want), .slice A1 x.sent.length c1, .slice A2 x.live.length c2, .slice A3 x.back.length c3, .slice A4 x.got.length c4]) (by simp [results, Tryd.results67, go_sem, *]) rfl ⟨rfl, ?_⟩
 first | exact ((Keeps.refl _ _).alloc _).alloc _ | exact (Keeps.refl _ _).alloc _ | exact (((Keeps.refl _ _).alloc _).alloc _).alloc _
theorem impl_opened (x : StL) (A1 A2 A3 A4 : Option Addr) (c1 c2 c3 c4 : Nat) (w : World) (hv : -100 ≤ x.ver ∧ x.ver ≤ 100) :
  Calls Tryd.prog 69 #[stV x A1 A2 A3 A4 c1 c2 c3 c4] w fun e w' => e = .returned (stV ⟨3, x.ver, x.want, x.sent, x.live, x.back, x.got⟩ A1 A2 A3 A4 c1 c2 c3 c4) ∧ Keeps noBlk w w' := by
 unfold stV
 go_enter Tryd.func69, Tryd.ntmps69
 go_wp2; refine bodyPost_ret (v := .agg #[.int .i64 (3), .int .i64 (x.ver), .int .i64 (x.want), .slice A1 x.sent.length c1, .slice A2 x.live.length c2, .slice A3 x.back.length c3, .slice A4 x.got.length c4]) (by simp [results, Tryd.results69, go_sem, *]) rfl ⟨rfl, ?_⟩
 first | exact ((Keeps.refl _ _).alloc _).alloc _ | exact (Keeps.refl _ _).alloc _ | exact (((Keeps.refl _ _).alloc _).alloc _).alloc _
theorem impl_stepAt_1 (w : World) : Calls Tryd.prog 58 #[.int .i64 1] w fun e w' => e = .returned (.tuple #[.agg #[.func (.func 64) #[] #[], .func (.func 65) #[] #[]], .bool true]) ∧ Keeps noBlk w w' := by
 go_enter Tryd.func58, Tryd.ntmps58
 go_wp2; refine bodyPost_ret (v := .tuple #[.agg #[.func (.func 64) #[] #[], .func (.func 65) #[] #[]], .bool true]) (by simp [results, Tryd.results58, go_sem, *]) rfl ⟨rfl, ?_⟩
 first | exact ((Keeps.refl _ _).alloc _).alloc _ | exact (Keeps.refl _ _).alloc _ | exact (((Keeps.refl _ _).alloc _).alloc _).alloc _
theorem impl_stepAt_2 (w : World) : Calls Tryd.prog 58 #[.int .i64 2] w fun e w' => e = .returned (.tuple #[.agg #[.func (.func 66) #[] #[], .func (.func 67) #[] #[]], .bool true]) ∧ Keeps noBlk w w' := by
 go_enter Tryd.func58, Tryd.ntmps58
 go_wp2; refine bodyPost_ret (v := .tuple #[.agg #[.func (.func 66) #[] #[], .func (.func 67) #[] #[]], .bool true]) (by simp [results, Tryd.results58, go_sem, *]) rfl ⟨rfl, ?_⟩
 first | exact ((Keeps.refl _ _).alloc _).alloc _ | exact (Keeps.refl _ _).alloc _ | exact (((Keeps.refl _ _).alloc _).alloc _).alloc _
theorem impl_stepAt_3 (w : World) : Calls Tryd.prog 58 #[.int .i64 3] w fun e w' => e = .returned (.tuple #[.agg #[.func (.func 68) #[] #[], .func (.func 69) #[] #[]], .bool true]) ∧ Keeps noBlk w w' := by
 go_enter Tryd.func58, Tryd.ntmps58
 go_wp2; refine bodyPost_ret (v := .tuple #[.agg #[.func (.func 68) #[] #[], .func (.func 69) #[] #[]], .bool true]) (by simp [results, Tryd.results58, go_sem, *]) rfl ⟨rfl, ?_⟩
 first | exact ((Keeps.refl _ _).alloc _).alloc _ | exact (Keeps.refl _ _).alloc _ | exact (((Keeps.refl _ _).alloc _).alloc _).alloc _
theorem impl_stepAt_4 (w : World) : Calls Tryd.prog 58 #[.int .i64 4] w fun e w' => e = .returned (.tuple #[.agg #[.func (.func 70) #[] #[], .func (.func 69) #[] #[]], .bool true]) ∧ Keeps noBlk w w' := by
 go_enter Tryd.func58, Tryd.ntmps58
 go_wp2; refine bodyPost_ret (v := .tuple #[.agg #[.func (.func 70) #[] #[], .func (.func 69) #[] #[]], .bool true]) (by simp [results, Tryd.results58, go_sem, *]) rfl ⟨rfl, ?_⟩
 first | exact ((Keeps.refl _ _).alloc _).alloc _ | exact (Keeps.refl _ _).alloc _ | exact (((Keeps.refl _ _).alloc _).alloc _).alloc _
theorem impl_stepAt_5 (w : World) : Calls Tryd.prog 58 #[.int .i64 5] w fun e w' => e = .returned (.tuple #[.agg #[.func (.func 71) #[] #[], .func (.func 72) #[] #[]], .bool true]) ∧ Keeps noBlk w w' := by
 go_enter Tryd.func58, Tryd.ntmps58
 go_wp2; refine bodyPost_ret (v := .tuple #[.agg #[.func (.func 71) #[] #[], .func (.func 72) #[] #[]], .bool true]) (by simp [results, Tryd.results58, go_sem, *]) rfl ⟨rfl, ?_⟩
 first | exact ((Keeps.refl _ _).alloc _).alloc _ | exact (Keeps.refl _ _).alloc _ | exact (((Keeps.refl _ _).alloc _).alloc _).alloc _
theorem impl_stepAt_6 (w : World) : Calls Tryd.prog 58 #[.int .i64 6] w fun e w' => e = .returned (.tuple #[.agg #[.func (.func 73) #[] #[], .func (.func 72) #[] #[]], .bool true]) ∧ Keeps noBlk w w' := by
 go_enter Tryd.func58, Tryd.ntmps58
 go_wp2; refine bodyPost_ret (v := .tuple #[.agg #[.func (.func 73) #[] #[], .func (.func 72) #[] #[]], .bool true]) (by simp [results, Tryd.results58, go_sem, *]) rfl ⟨rfl, ?_⟩
 first | exact ((Keeps.refl _ _).alloc _).alloc _ | exact (Keeps.refl _ _).alloc _ | exact (((Keeps.refl _ _).alloc _).alloc _).alloc _
theorem impl_stepAt_7 (w : World) : Calls Tryd.prog 58 #[.int .i64 7] w fun e w' => e = .returned (.tuple #[.agg #[.func (.func 74) #[] #[], .func (.func 75) #[] #[]], .bool true]) ∧ Keeps noBlk w w' := by
 go_enter Tryd.func58, Tryd.ntmps58
 go_wp2; refine bodyPost_ret (v := .tuple #[.agg #[.func (.func 74) #[] #[], .func (.func 75) #[] #[]], .bool true]) (by simp [results, Tryd.results58, go_sem, *]) rfl ⟨rfl, ?_⟩
 first | exact ((Keeps.refl _ _).alloc _).alloc _ | exact (Keeps.refl _ _).alloc _ | exact (((Keeps.refl _ _).alloc _).alloc _).alloc _
theorem impl_stepAt_no (k : Int) (hn : k < 1 ∨ 7 < k) (w : World) : Calls Tryd.prog 58 #[.int .i64 k] w fun e w' => e = .returned (.tuple #[.agg #[.nilFunc, .nilFunc], .bool false]) ∧ Keeps noBlk w w' := by
 go_enter Tryd.func58, Tryd.ntmps58
 rcases hn with h | h
 ·have e1 : decide (k < 1) = true := by simp; omega
  clear h; go_wp2; refine bodyPost_ret (v := .tuple #[.agg #[.nilFunc, .nilFunc], .bool false]) (by simp [results, Tryd.results58, go_sem, *]) rfl ⟨rfl, ?_⟩
  first | exact ((Keeps.refl _ _).alloc _).alloc _ | exact (Keeps.refl _ _).alloc _ | exact (((Keeps.refl _ _).alloc _).alloc _).alloc _ | exact Keeps.refl _ _
 ·have e1 : decide (k < 1) = false := by simp; omega
  have e2 : decide (7 < k) = true := by simp; omega
  clear h; go_wp2; refine bodyPost_ret (v := .tuple #[.agg #[.nilFunc, .nilFunc], .bool false]) (by simp [results, Tryd.results58, go_sem, *]) rfl ⟨rfl, ?_⟩
  first | exact ((Keeps.refl _ _).alloc _).alloc _ | exact (Keeps.refl _ _).alloc _ | exact (((Keeps.refl _ _).alloc _).alloc _).alloc _ | exact Keeps.refl _ _

theorem stB_parts {x : StL} (h : stB x = true) : 0 ≤ x.way ∧ (-100 ≤ x.ver ∧ x.ver ≤ 100) ∧ x.live.length = x.sent.length := by
 have k := stB_ok h; have := k.1.1; exact ⟨k.1.2.1.1, ⟨by omega, by omega⟩, k.2.2.1.1⟩
theorem implMay_1 (x y : StL) (A1 A2 A3 A4 B1 B2 B3 B4 : Option Addr) (c1 c2 c3 c4 d1 d2 d3 d4 : Nat) (w : World) (hx : StAt w x A1 A2 A3 A4) (hy : StAt w y B1 B2 B3 B4) (ht : Tabs w) :
  Calls Tryd.prog 35 #[stV x A1 A2 A3 A4 c1 c2 c3 c4, stV y B1 B2 B3 B4 d1 d2 d3 d4, .int .i64 1] w fun e w' => e = .returned (.bool (wmayB x y 1)) ∧ Keeps noBlk w w' := by
 have HX := hH ((hx.alloc (.cells (stC x A1 A2 A3 A4 c1 c2 c3 c4) 27)).alloc (.cells (stC y B1 B2 B3 B4 d1 d2 d3 d4) 27)); have HY := hH ((hy.alloc (.cells (stC x A1 A2 A3 A4 c1 c2 c3 c4) 27)).alloc (.cells (stC y B1 B2 B3 B4 d1 d2 d3 d4) 27)); have HT := hH (ht.keeps (((Keeps.refl _ _).alloc (.cells (stC x A1 A2 A3 A4 c1 c2 c3 c4) 27)).alloc (.cells (stC y B1 B2 B3 B4 d1 d2 d3 d4) 27))); have HK := hH (((Keeps.refl noBlk w).alloc (.cells (stC x A1 A2 A3 A4 c1 c2 c3 c4) 27)).alloc (.cells (stC y B1 B2 B3 B4 d1 d2 d3 d4) 27)); have HBX := hH ((Box.new w _ rfl 27 (stC x A1 A2 A3 A4 c1 c2 c3 c4)).alloc (.cells (stC y B1 B2 B3 B4 d1 d2 d3 d4) 27)); have HBY := hH (Box.new (w.alloc (.cells (stC x A1 A2 A3 A4 c1 c2 c3 c4) 27)) (w.heap.size + 1) (by simp) 27 (stC y B1 B2 B3 B4 d1 d2 d3 d4)); have HSX := hH (fun W (h : StAt W x A1 A2 A3 A4) hT => implSt_any x A1 A2 A3 A4 c1 c2 c3 c4 W h hT); have HSY := hH (fun W (h : StAt W y B1 B2 B3 B4) hT => implSt_any y B1 B2 B3 B4 d1 d2 d3 d4 W h hT); have HM := hH (fun W (hX : StAt W x A1 A2 A3 A4) (hY : StAt W y B1 B2 B3 B4) (hT : Tabs W) (h1 : stB x = true) (h2 : stB y = true) => impl_mayInit x y A1 A2 A3 A4 B1 B2 B3 B4 c1 c2 c3 c4 d1 d2 d3 d4 W (stB_parts h1).1 (stB_parts h1).2.1); clear hx hy ht; have HF := hH (show wmayB x y 1 = (stB x && stB y && mayB x y 1) from rfl); generalize stB x = o1 at HSX HM HF; generalize stB y = o2 at HSY HM HF; generalize wmayB x y 1 = o at HF; generalize mayB x y 1 = o3 at HM HF; unfold stV at HSX HSY HM ⊢
 go_enter Tryd.func35, Tryd.ntmps35
 go_wp2_with fail; refine (impl_stepAt_1 _).mono ?_; rintro e w1 ⟨rfl, hk1⟩
 have hbx := HBX.out.keeps hk1 fun h => h
 have hby := HBY.out.keeps hk1 fun h => h
 have x0 := hbx.cell 0; have y0 := hby.cell 0; have x1 := hbx.cell 1; have y1 := hby.cell 1; have x2 := hbx.cell 2; have y2 := hby.cell 2; have x3 := hbx.cell 3; have y3 := hby.cell 3; have x4 := hbx.cell 4; have y4 := hby.cell 4; have x5 := hbx.cell 5; have y5 := hby.cell 5; have x6 := hbx.cell 6; have y6 := hby.cell 6; simp at x0 y0 x1 y1 x2 y2 x3 y3 x4 y4 x5 y5 x6 y6; have zx := hbx.lt; have zy := hby.lt; clear HBX HBY; have HBX := hH (hbx.alloc (.cells #[.func (.func 64) #[] #[], .func (.func 65) #[] #[]] 75)); have HBY := hH (hby.alloc (.cells #[.func (.func 64) #[] #[], .func (.func 65) #[] #[]] 75)); have HBR := hH (Box.new w1 _ rfl 75 #[.func (.func 64) #[] #[], .func (.func 65) #[] #[]]); have HK1 := hH ((HK.out.trans hk1).alloc (.cells #[.func (.func 64) #[] #[], .func (.func 65) #[] #[]] 75)); have HX1 := hH ((HX.out.kept hk1).alloc (.cells #[.func (.func 64) #[] #[], .func (.func 65) #[] #[]] 75)); have HY1 := hH ((HY.out.kept hk1).alloc (.cells #[.func (.func 64) #[] #[], .func (.func 65) #[] #[]] 75)); have HT1 := hH ((HT.out.keeps hk1).keeps ((Keeps.refl _ _).alloc (.cells #[.func (.func 64) #[] #[], .func (.func 65) #[] #[]] 75))); clear hbx hby hk1; go_wp2_with fail; refine (HSX.out _ HX1.out HT1.out).mono ?_; rintro e w2 ⟨rfl, hk2⟩; clear x0 y0 x1 y1 x2 y2 x3 y3 x4 y4 x5 y5 x6 y6 zx zy
 have hbx := HBX.out.keeps hk2 fun h => h
 have hby := HBY.out.keeps hk2 fun h => h
 have hbr := HBR.out.keeps hk2 fun h => h
 have x0 := hbx.cell 0; have y0 := hby.cell 0; have x1 := hbx.cell 1; have y1 := hby.cell 1; have x2 := hbx.cell 2; have y2 := hby.cell 2; have x3 := hbx.cell 3; have y3 := hby.cell 3; have x4 := hbx.cell 4; have y4 := hby.cell 4; have x5 := hbx.cell 5; have y5 := hby.cell 5; have x6 := hbx.cell 6; have y6 := hby.cell 6; simp at x0 y0 x1 y1 x2 y2 x3 y3 x4 y4 x5 y5 x6 y6; have zx := hbx.lt; have zy := hby.lt; obtain ⟨r0, r1⟩ := hbr.cells2; have zr := hbr.lt; clear HBX HBY HBR; have HBX := hH hbx; have HBY := hH hby; have HBR := hH hbr; have HK2 := hH (HK1.out.trans hk2); have HX2 := hH (HX1.out.kept hk2); have HY2 := hH (HY1.out.kept hk2); have HT2 := hH (HT1.out.keeps hk2); clear hbx hby hbr hk2
 cases o1 with
 | false =>
  have HE := hH (show o = false by rw [HF.out]; rfl); go_wp2; go_ret; exact ⟨by simp [HE.out], HK2.out⟩
 | true =>
  go_wp2_with fail; refine (HSY.out _ HY2.out HT2.out).mono ?_; rintro e w3 ⟨rfl, hk3⟩; clear x0 y0 x1 y1 x2 y2 x3 y3 x4 y4 x5 y5 x6 y6 zx zy r0 r1 zr
  have hbx := HBX.out.keeps hk3 fun h => h
  have hby := HBY.out.keeps hk3 fun h => h
  have hbr := HBR.out.keeps hk3 fun h => h
  have x0 := hbx.cell 0; have y0 := hby.cell 0; have x1 := hbx.cell 1; have y1 := hby.cell 1; have x2 := hbx.cell 2; have y2 := hby.cell 2; have x3 := hbx.cell 3; have y3 := hby.cell 3; have x4 := hbx.cell 4; have y4 := hby.cell 4; have x5 := hbx.cell 5; have y5 := hby.cell 5; have x6 := hbx.cell 6; have y6 := hby.cell 6; simp at x0 y0 x1 y1 x2 y2 x3 y3 x4 y4 x5 y5 x6 y6; have zx := hbx.lt; have zy := hby.lt; obtain ⟨r0, r1⟩ := hbr.cells2; have zr := hbr.lt; have HK3 := hH (HK2.out.trans hk3); have HX3 := hH (HX2.out.kept hk3); have HY3 := hH (HY2.out.kept hk3); have HT3 := hH (HT2.out.keeps hk3); clear hbx hby hbr hk3
  cases o2 with
  | false =>
   have HE := hH (show o = false by rw [HF.out]; rfl); go_wp2; go_ret; exact ⟨by simp [HE.out], HK3.out⟩
  | true =>
   have HE := hH (show o = o3 by rw [HF.out]; rfl); have HM3 := hH (HM.out _ HX3.out HY3.out HT3.out (by first | rfl | trivial) (by first | rfl | trivial)); go_wp2_with fail; refine HM3.out.mono ?_; rintro e w4 ⟨rfl, hk4⟩; have HK4 := hH (HK3.out.trans hk4); clear hk4; go_wp2; go_ret; exact ⟨by simp [HE.out], HK4.out⟩
theorem implMay_2 (x y : StL) (A1 A2 A3 A4 B1 B2 B3 B4 : Option Addr) (c1 c2 c3 c4 d1 d2 d3 d4 : Nat) (w : World) (hx : StAt w x A1 A2 A3 A4) (hy : StAt w y B1 B2 B3 B4) (ht : Tabs w) :
  Calls Tryd.prog 35 #[stV x A1 A2 A3 A4 c1 c2 c3 c4, stV y B1 B2 B3 B4 d1 d2 d3 d4, .int .i64 2] w fun e w' => e = .returned (.bool (wmayB x y 2)) ∧ Keeps noBlk w w' := by
 have HX := hH ((hx.alloc (.cells (stC x A1 A2 A3 A4 c1 c2 c3 c4) 27)).alloc (.cells (stC y B1 B2 B3 B4 d1 d2 d3 d4) 27)); have HY := hH ((hy.alloc (.cells (stC x A1 A2 A3 A4 c1 c2 c3 c4) 27)).alloc (.cells (stC y B1 B2 B3 B4 d1 d2 d3 d4) 27)); have HT := hH (ht.keeps (((Keeps.refl _ _).alloc (.cells (stC x A1 A2 A3 A4 c1 c2 c3 c4) 27)).alloc (.cells (stC y B1 B2 B3 B4 d1 d2 d3 d4) 27))); have HK := hH (((Keeps.refl noBlk w).alloc (.cells (stC x A1 A2 A3 A4 c1 c2 c3 c4) 27)).alloc (.cells (stC y B1 B2 B3 B4 d1 d2 d3 d4) 27)); have HBX := hH ((Box.new w _ rfl 27 (stC x A1 A2 A3 A4 c1 c2 c3 c4)).alloc (.cells (stC y B1 B2 B3 B4 d1 d2 d3 d4) 27)); have HBY := hH (Box.new (w.alloc (.cells (stC x A1 A2 A3 A4 c1 c2 c3 c4) 27)) (w.heap.size + 1) (by simp) 27 (stC y B1 B2 B3 B4 d1 d2 d3 d4)); have HSX := hH (fun W (h : StAt W x A1 A2 A3 A4) hT => implSt_any x A1 A2 A3 A4 c1 c2 c3 c4 W h hT); have HSY := hH (fun W (h : StAt W y B1 B2 B3 B4) hT => implSt_any y B1 B2 B3 B4 d1 d2 d3 d4 W h hT); have HM := hH (fun W (hX : StAt W x A1 A2 A3 A4) (hY : StAt W y B1 B2 B3 B4) (hT : Tabs W) (h1 : stB x = true) (h2 : stB y = true) => impl_mayTry x y A1 A2 A3 A4 B1 B2 B3 B4 c1 c2 c3 c4 d1 d2 d3 d4 W (stB_parts h1).1 (stB_parts h1).2.1); clear hx hy ht; have HF := hH (show wmayB x y 2 = (stB x && stB y && mayB x y 2) from rfl); generalize stB x = o1 at HSX HM HF; generalize stB y = o2 at HSY HM HF; generalize wmayB x y 2 = o at HF; generalize mayB x y 2 = o3 at HM HF; unfold stV at HSX HSY HM ⊢
 go_enter Tryd.func35, Tryd.ntmps35
 go_wp2_with fail; refine (impl_stepAt_2 _).mono ?_; rintro e w1 ⟨rfl, hk1⟩
 have hbx := HBX.out.keeps hk1 fun h => h
 have hby := HBY.out.keeps hk1 fun h => h
 have x0 := hbx.cell 0; have y0 := hby.cell 0; have x1 := hbx.cell 1; have y1 := hby.cell 1; have x2 := hbx.cell 2; have y2 := hby.cell 2; have x3 := hbx.cell 3; have y3 := hby.cell 3; have x4 := hbx.cell 4; have y4 := hby.cell 4; have x5 := hbx.cell 5; have y5 := hby.cell 5; have x6 := hbx.cell 6; have y6 := hby.cell 6; simp at x0 y0 x1 y1 x2 y2 x3 y3 x4 y4 x5 y5 x6 y6; have zx := hbx.lt; have zy := hby.lt; clear HBX HBY; have HBX := hH (hbx.alloc (.cells #[.func (.func 66) #[] #[], .func (.func 67) #[] #[]] 75)); have HBY := hH (hby.alloc (.cells #[.func (.func 66) #[] #[], .func (.func 67) #[] #[]] 75)); have HBR := hH (Box.new w1 _ rfl 75 #[.func (.func 66) #[] #[], .func (.func 67) #[] #[]]); have HK1 := hH ((HK.out.trans hk1).alloc (.cells #[.func (.func 66) #[] #[], .func (.func 67) #[] #[]] 75)); have HX1 := hH ((HX.out.kept hk1).alloc (.cells #[.func (.func 66) #[] #[], .func (.func 67) #[] #[]] 75)); have HY1 := hH ((HY.out.kept hk1).alloc (.cells #[.func (.func 66) #[] #[], .func (.func 67) #[] #[]] 75)); have HT1 := hH ((HT.out.keeps hk1).keeps ((Keeps.refl _ _).alloc (.cells #[.func (.func 66) #[] #[], .func (.func 67) #[] #[]] 75))); clear hbx hby hk1; go_wp2_with fail; refine (HSX.out _ HX1.out HT1.out).mono ?_; rintro e w2 ⟨rfl, hk2⟩; clear x0 y0 x1 y1 x2 y2 x3 y3 x4 y4 x5 y5 x6 y6 zx zy
 have hbx := HBX.out.keeps hk2 fun h => h
 have hby := HBY.out.keeps hk2 fun h => h
 have hbr := HBR.out.keeps hk2 fun h => h
 have x0 := hbx.cell 0; have y0 := hby.cell 0; have x1 := hbx.cell 1; have y1 := hby.cell 1; have x2 := hbx.cell 2; have y2 := hby.cell 2; have x3 := hbx.cell 3; have y3 := hby.cell 3; have x4 := hbx.cell 4; have y4 := hby.cell 4; have x5 := hbx.cell 5; have y5 := hby.cell 5; have x6 := hbx.cell 6; have y6 := hby.cell 6; simp at x0 y0 x1 y1 x2 y2 x3 y3 x4 y4 x5 y5 x6 y6; have zx := hbx.lt; have zy := hby.lt; obtain ⟨r0, r1⟩ := hbr.cells2; have zr := hbr.lt; clear HBX HBY HBR; have HBX := hH hbx; have HBY := hH hby; have HBR := hH hbr; have HK2 := hH (HK1.out.trans hk2); have HX2 := hH (HX1.out.kept hk2); have HY2 := hH (HY1.out.kept hk2); have HT2 := hH (HT1.out.keeps hk2); clear hbx hby hbr hk2
 cases o1 with
 | false =>
  have HE := hH (show o = false by rw [HF.out]; rfl); go_wp2; go_ret; exact ⟨by simp [HE.out], HK2.out⟩
 | true =>
  go_wp2_with fail; refine (HSY.out _ HY2.out HT2.out).mono ?_; rintro e w3 ⟨rfl, hk3⟩; clear x0 y0 x1 y1 x2 y2 x3 y3 x4 y4 x5 y5 x6 y6 zx zy r0 r1 zr
  have hbx := HBX.out.keeps hk3 fun h => h
  have hby := HBY.out.keeps hk3 fun h => h
  have hbr := HBR.out.keeps hk3 fun h => h
  have x0 := hbx.cell 0; have y0 := hby.cell 0; have x1 := hbx.cell 1; have y1 := hby.cell 1; have x2 := hbx.cell 2; have y2 := hby.cell 2; have x3 := hbx.cell 3; have y3 := hby.cell 3; have x4 := hbx.cell 4; have y4 := hby.cell 4; have x5 := hbx.cell 5; have y5 := hby.cell 5; have x6 := hbx.cell 6; have y6 := hby.cell 6; simp at x0 y0 x1 y1 x2 y2 x3 y3 x4 y4 x5 y5 x6 y6; have zx := hbx.lt; have zy := hby.lt; obtain ⟨r0, r1⟩ := hbr.cells2; have zr := hbr.lt; have HK3 := hH (HK2.out.trans hk3); have HX3 := hH (HX2.out.kept hk3); have HY3 := hH (HY2.out.kept hk3); have HT3 := hH (HT2.out.keeps hk3); clear hbx hby hbr hk3
  cases o2 with
  | false =>
   have HE := hH (show o = false by rw [HF.out]; rfl); go_wp2; go_ret; exact ⟨by simp [HE.out], HK3.out⟩
  | true =>
   have HE := hH (show o = o3 by rw [HF.out]; rfl); have HM3 := hH (HM.out _ HX3.out HY3.out HT3.out (by first | rfl | trivial) (by first | rfl | trivial)); go_wp2_with fail; refine HM3.out.mono ?_; rintro e w4 ⟨rfl, hk4⟩; have HK4 := hH (HK3.out.trans hk4); clear hk4; go_wp2; go_ret; exact ⟨by simp [HE.out], HK4.out⟩
theorem implMay_3 (x y : StL) (A1 A2 A3 A4 B1 B2 B3 B4 : Option Addr) (c1 c2 c3 c4 d1 d2 d3 d4 : Nat) (w : World) (hx : StAt w x A1 A2 A3 A4) (hy : StAt w y B1 B2 B3 B4) (ht : Tabs w) :
  Calls Tryd.prog 35 #[stV x A1 A2 A3 A4 c1 c2 c3 c4, stV y B1 B2 B3 B4 d1 d2 d3 d4, .int .i64 3] w fun e w' => e = .returned (.bool (wmayB x y 3)) ∧ Keeps noBlk w w' := by
 have HX := hH ((hx.alloc (.cells (stC x A1 A2 A3 A4 c1 c2 c3 c4) 27)).alloc (.cells (stC y B1 B2 B3 B4 d1 d2 d3 d4) 27)); have HY := hH ((hy.alloc (.cells (stC x A1 A2 A3 A4 c1 c2 c3 c4) 27)).alloc (.cells (stC y B1 B2 B3 B4 d1 d2 d3 d4) 27)); have HT := hH (ht.keeps (((Keeps.refl _ _).alloc (.cells (stC x A1 A2 A3 A4 c1 c2 c3 c4) 27)).alloc (.cells (stC y B1 B2 B3 B4 d1 d2 d3 d4) 27))); have HK := hH (((Keeps.refl noBlk w).alloc (.cells (stC x A1 A2 A3 A4 c1 c2 c3 c4) 27)).alloc (.cells (stC y B1 B2 B3 B4 d1 d2 d3 d4) 27)); have HBX := hH ((Box.new w _ rfl 27 (stC x A1 A2 A3 A4 c1 c2 c3 c4)).alloc (.cells (stC y B1 B2 B3 B4 d1 d2 d3 d4) 27)); have HBY := hH (Box.new (w.alloc (.cells (stC x A1 A2 A3 A4 c1 c2 c3 c4) 27)) (w.heap.size + 1) (by simp) 27 (stC y B1 B2 B3 B4 d1 d2 d3 d4)); have HSX := hH (fun W (h : StAt W x A1 A2 A3 A4) hT => implSt_any x A1 A2 A3 A4 c1 c2 c3 c4 W h hT); have HSY := hH (fun W (h : StAt W y B1 B2 B3 B4) hT => implSt_any y B1 B2 B3 B4 d1 d2 d3 d4 W h hT); have HM := hH (fun W (hX : StAt W x A1 A2 A3 A4) (hY : StAt W y B1 B2 B3 B4) (hT : Tabs W) (h1 : stB x = true) (h2 : stB y = true) => impl_mayAck x y A1 A2 A3 A4 B1 B2 B3 B4 c1 c2 c3 c4 d1 d2 d3 d4 W (stB_parts h1).1 (stB_parts h1).2.1); clear hx hy ht; have HF := hH (show wmayB x y 3 = (stB x && stB y && mayB x y 3) from rfl); generalize stB x = o1 at HSX HM HF; generalize stB y = o2 at HSY HM HF; generalize wmayB x y 3 = o at HF; generalize mayB x y 3 = o3 at HM HF; unfold stV at HSX HSY HM ⊢
 go_enter Tryd.func35, Tryd.ntmps35
 go_wp2_with fail; refine (impl_stepAt_3 _).mono ?_; rintro e w1 ⟨rfl, hk1⟩
 have hbx := HBX.out.keeps hk1 fun h => h
 have hby := HBY.out.keeps hk1 fun h => h
 have x0 := hbx.cell 0; have y0 := hby.cell 0; have x1 := hbx.cell 1; have y1 := hby.cell 1; have x2 := hbx.cell 2; have y2 := hby.cell 2; have x3 := hbx.cell 3; have y3 := hby.cell 3; have x4 := hbx.cell 4; have y4 := hby.cell 4; have x5 := hbx.cell 5; have y5 := hby.cell 5; have x6 := hbx.cell 6; have y6 := hby.cell 6; simp at x0 y0 x1 y1 x2 y2 x3 y3 x4 y4 x5 y5 x6 y6; have zx := hbx.lt; have zy := hby.lt; clear HBX HBY; have HBX := hH (hbx.alloc (.cells #[.func (.func 68) #[] #[], .func (.func 69) #[] #[]] 75)); have HBY := hH (hby.alloc (.cells #[.func (.func 68) #[] #[], .func (.func 69) #[] #[]] 75)); have HBR := hH (Box.new w1 _ rfl 75 #[.func (.func 68) #[] #[], .func (.func 69) #[] #[]]); have HK1 := hH ((HK.out.trans hk1).alloc (.cells #[.func (.func 68) #[] #[], .func (.func 69) #[] #[]] 75)); have HX1 := hH ((HX.out.kept hk1).alloc (.cells #[.func (.func 68) #[] #[], .func (.func 69) #[] #[]] 75)); have HY1 := hH ((HY.out.kept hk1).alloc (.cells #[.func (.func 68) #[] #[], .func (.func 69) #[] #[]] 75)); have HT1 := hH ((HT.out.keeps hk1).keeps ((Keeps.refl _ _).alloc (.cells #[.func (.func 68) #[] #[], .func (.func 69) #[] #[]] 75))); clear hbx hby hk1; go_wp2_with fail; refine (HSX.out _ HX1.out HT1.out).mono ?_; rintro e w2 ⟨rfl, hk2⟩; clear x0 y0 x1 y1 x2 y2 x3 y3 x4 y4 x5 y5 x6 y6 zx zy
 have hbx := HBX.out.keeps hk2 fun h => h
 have hby := HBY.out.keeps hk2 fun h => h
 have hbr := HBR.out.keeps hk2 fun h => h
 have x0 := hbx.cell 0; have y0 := hby.cell 0; have x1 := hbx.cell 1; have y1 := hby.cell 1; have x2 := hbx.cell 2; have y2 := hby.cell 2; have x3 := hbx.cell 3; have y3 := hby.cell 3; have x4 := hbx.cell 4; have y4 := hby.cell 4; have x5 := hbx.cell 5; have y5 := hby.cell 5; have x6 := hbx.cell 6; have y6 := hby.cell 6; simp at x0 y0 x1 y1 x2 y2 x3 y3 x4 y4 x5 y5 x6 y6; have zx := hbx.lt; have zy := hby.lt; obtain ⟨r0, r1⟩ := hbr.cells2; have zr := hbr.lt; clear HBX HBY HBR; have HBX := hH hbx; have HBY := hH hby; have HBR := hH hbr; have HK2 := hH (HK1.out.trans hk2); have HX2 := hH (HX1.out.kept hk2); have HY2 := hH (HY1.out.kept hk2); have HT2 := hH (HT1.out.keeps hk2); clear hbx hby hbr hk2
 cases o1 with
 | false =>
  have HE := hH (show o = false by rw [HF.out]; rfl); go_wp2; go_ret; exact ⟨by simp [HE.out], HK2.out⟩
 | true =>
  go_wp2_with fail; refine (HSY.out _ HY2.out HT2.out).mono ?_; rintro e w3 ⟨rfl, hk3⟩; clear x0 y0 x1 y1 x2 y2 x3 y3 x4 y4 x5 y5 x6 y6 zx zy r0 r1 zr
  have hbx := HBX.out.keeps hk3 fun h => h
  have hby := HBY.out.keeps hk3 fun h => h
  have hbr := HBR.out.keeps hk3 fun h => h
  have x0 := hbx.cell 0; have y0 := hby.cell 0; have x1 := hbx.cell 1; have y1 := hby.cell 1; have x2 := hbx.cell 2; have y2 := hby.cell 2; have x3 := hbx.cell 3; have y3 := hby.cell 3; have x4 := hbx.cell 4; have y4 := hby.cell 4; have x5 := hbx.cell 5; have y5 := hby.cell 5; have x6 := hbx.cell 6; have y6 := hby.cell 6; simp at x0 y0 x1 y1 x2 y2 x3 y3 x4 y4 x5 y5 x6 y6; have zx := hbx.lt; have zy := hby.lt; obtain ⟨r0, r1⟩ := hbr.cells2; have zr := hbr.lt; have HK3 := hH (HK2.out.trans hk3); have HX3 := hH (HX2.out.kept hk3); have HY3 := hH (HY2.out.kept hk3); have HT3 := hH (HT2.out.keeps hk3); clear hbx hby hbr hk3
  cases o2 with
  | false =>
   have HE := hH (show o = false by rw [HF.out]; rfl); go_wp2; go_ret; exact ⟨by simp [HE.out], HK3.out⟩
  | true =>
   have HE := hH (show o = o3 by rw [HF.out]; rfl); have HM3 := hH (HM.out _ HX3.out HY3.out HT3.out (by first | rfl | trivial) (by first | rfl | trivial)); go_wp2_with fail; refine HM3.out.mono ?_; rintro e w4 ⟨rfl, hk4⟩; have HK4 := hH (HK3.out.trans hk4); clear hk4; go_wp2; go_ret; exact ⟨by simp [HE.out], HK4.out⟩
theorem implMay_4 (x y : StL) (A1 A2 A3 A4 B1 B2 B3 B4 : Option Addr) (c1 c2 c3 c4 d1 d2 d3 d4 : Nat) (w : World) (hx : StAt w x A1 A2 A3 A4) (hy : StAt w y B1 B2 B3 B4) (ht : Tabs w) :
  Calls Tryd.prog 35 #[stV x A1 A2 A3 A4 c1 c2 c3 c4, stV y B1 B2 B3 B4 d1 d2 d3 d4, .int .i64 4] w fun e w' => e = .returned (.bool (wmayB x y 4)) ∧ Keeps noBlk w w' := by
 have HX := hH ((hx.alloc (.cells (stC x A1 A2 A3 A4 c1 c2 c3 c4) 27)).alloc (.cells (stC y B1 B2 B3 B4 d1 d2 d3 d4) 27)); have HY := hH ((hy.alloc (.cells (stC x A1 A2 A3 A4 c1 c2 c3 c4) 27)).alloc (.cells (stC y B1 B2 B3 B4 d1 d2 d3 d4) 27)); have HT := hH (ht.keeps (((Keeps.refl _ _).alloc (.cells (stC x A1 A2 A3 A4 c1 c2 c3 c4) 27)).alloc (.cells (stC y B1 B2 B3 B4 d1 d2 d3 d4) 27))); have HK := hH (((Keeps.refl noBlk w).alloc (.cells (stC x A1 A2 A3 A4 c1 c2 c3 c4) 27)).alloc (.cells (stC y B1 B2 B3 B4 d1 d2 d3 d4) 27)); have HBX := hH ((Box.new w _ rfl 27 (stC x A1 A2 A3 A4 c1 c2 c3 c4)).alloc (.cells (stC y B1 B2 B3 B4 d1 d2 d3 d4) 27)); have HBY := hH (Box.new (w.alloc (.cells (stC x A1 A2 A3 A4 c1 c2 c3 c4) 27)) (w.heap.size + 1) (by simp) 27 (stC y B1 B2 B3 B4 d1 d2 d3 d4)); have HSX := hH (fun W (h : StAt W x A1 A2 A3 A4) hT => implSt_any x A1 A2 A3 A4 c1 c2 c3 c4 W h hT); have HSY := hH (fun W (h : StAt W y B1 B2 B3 B4) hT => implSt_any y B1 B2 B3 B4 d1 d2 d3 d4 W h hT); have HM := hH (fun W (hX : StAt W x A1 A2 A3 A4) (hY : StAt W y B1 B2 B3 B4) (hT : Tabs W) (h1 : stB x = true) (h2 : stB y = true) => impl_mayDone x y A1 A2 A3 A4 B1 B2 B3 B4 c1 c2 c3 c4 d1 d2 d3 d4 W (stB_parts h1).1 (stB_parts h1).2.1); clear hx hy ht; have HF := hH (show wmayB x y 4 = (stB x && stB y && mayB x y 4) from rfl); generalize stB x = o1 at HSX HM HF; generalize stB y = o2 at HSY HM HF; generalize wmayB x y 4 = o at HF; generalize mayB x y 4 = o3 at HM HF; unfold stV at HSX HSY HM ⊢
 go_enter Tryd.func35, Tryd.ntmps35
 go_wp2_with fail; refine (impl_stepAt_4 _).mono ?_; rintro e w1 ⟨rfl, hk1⟩
 have hbx := HBX.out.keeps hk1 fun h => h
 have hby := HBY.out.keeps hk1 fun h => h
 have x0 := hbx.cell 0; have y0 := hby.cell 0; have x1 := hbx.cell 1; have y1 := hby.cell 1; have x2 := hbx.cell 2; have y2 := hby.cell 2; have x3 := hbx.cell 3; have y3 := hby.cell 3; have x4 := hbx.cell 4; have y4 := hby.cell 4; have x5 := hbx.cell 5; have y5 := hby.cell 5; have x6 := hbx.cell 6; have y6 := hby.cell 6; simp at x0 y0 x1 y1 x2 y2 x3 y3 x4 y4 x5 y5 x6 y6; have zx := hbx.lt; have zy := hby.lt; clear HBX HBY; have HBX := hH (hbx.alloc (.cells #[.func (.func 70) #[] #[], .func (.func 69) #[] #[]] 75)); have HBY := hH (hby.alloc (.cells #[.func (.func 70) #[] #[], .func (.func 69) #[] #[]] 75)); have HBR := hH (Box.new w1 _ rfl 75 #[.func (.func 70) #[] #[], .func (.func 69) #[] #[]]); have HK1 := hH ((HK.out.trans hk1).alloc (.cells #[.func (.func 70) #[] #[], .func (.func 69) #[] #[]] 75)); have HX1 := hH ((HX.out.kept hk1).alloc (.cells #[.func (.func 70) #[] #[], .func (.func 69) #[] #[]] 75)); have HY1 := hH ((HY.out.kept hk1).alloc (.cells #[.func (.func 70) #[] #[], .func (.func 69) #[] #[]] 75)); have HT1 := hH ((HT.out.keeps hk1).keeps ((Keeps.refl _ _).alloc (.cells #[.func (.func 70) #[] #[], .func (.func 69) #[] #[]] 75))); clear hbx hby hk1; go_wp2_with fail; refine (HSX.out _ HX1.out HT1.out).mono ?_; rintro e w2 ⟨rfl, hk2⟩; clear x0 y0 x1 y1 x2 y2 x3 y3 x4 y4 x5 y5 x6 y6 zx zy
 have hbx := HBX.out.keeps hk2 fun h => h
 have hby := HBY.out.keeps hk2 fun h => h
 have hbr := HBR.out.keeps hk2 fun h => h
 have x0 := hbx.cell 0; have y0 := hby.cell 0; have x1 := hbx.cell 1; have y1 := hby.cell 1; have x2 := hbx.cell 2; have y2 := hby.cell 2; have x3 := hbx.cell 3; have y3 := hby.cell 3; have x4 := hbx.cell 4; have y4 := hby.cell 4; have x5 := hbx.cell 5; have y5 := hby.cell 5; have x6 := hbx.cell 6; have y6 := hby.cell 6; simp at x0 y0 x1 y1 x2 y2 x3 y3 x4 y4 x5 y5 x6 y6; have zx := hbx.lt; have zy := hby.lt; obtain ⟨r0, r1⟩ := hbr.cells2; have zr := hbr.lt; clear HBX HBY HBR; have HBX := hH hbx; have HBY := hH hby; have HBR := hH hbr; have HK2 := hH (HK1.out.trans hk2); have HX2 := hH (HX1.out.kept hk2); have HY2 := hH (HY1.out.kept hk2); have HT2 := hH (HT1.out.keeps hk2); clear hbx hby hbr hk2
 cases o1 with
 | false =>
  have HE := hH (show o = false by rw [HF.out]; rfl); go_wp2; go_ret; exact ⟨by simp [HE.out], HK2.out⟩
 | true =>
  go_wp2_with fail; refine (HSY.out _ HY2.out HT2.out).mono ?_; rintro e w3 ⟨rfl, hk3⟩; clear x0 y0 x1 y1 x2 y2 x3 y3 x4 y4 x5 y5 x6 y6 zx zy r0 r1 zr
  have hbx := HBX.out.keeps hk3 fun h => h
  have hby := HBY.out.keeps hk3 fun h => h
  have hbr := HBR.out.keeps hk3 fun h => h
  have x0 := hbx.cell 0; have y0 := hby.cell 0; have x1 := hbx.cell 1; have y1 := hby.cell 1; have x2 := hbx.cell 2; have y2 := hby.cell 2; have x3 := hbx.cell 3; have y3 := hby.cell 3; have x4 := hbx.cell 4; have y4 := hby.cell 4; have x5 := hbx.cell 5; have y5 := hby.cell 5; have x6 := hbx.cell 6; have y6 := hby.cell 6; simp at x0 y0 x1 y1 x2 y2 x3 y3 x4 y4 x5 y5 x6 y6; have zx := hbx.lt; have zy := hby.lt; obtain ⟨r0, r1⟩ := hbr.cells2; have zr := hbr.lt; have HK3 := hH (HK2.out.trans hk3); have HX3 := hH (HX2.out.kept hk3); have HY3 := hH (HY2.out.kept hk3); have HT3 := hH (HT2.out.keeps hk3); clear hbx hby hbr hk3
  cases o2 with
  | false =>
   have HE := hH (show o = false by rw [HF.out]; rfl); go_wp2; go_ret; exact ⟨by simp [HE.out], HK3.out⟩
  | true =>
   have HE := hH (show o = o3 by rw [HF.out]; rfl); have HM3 := hH (HM.out _ HX3.out HY3.out HT3.out (by first | rfl | trivial) (by first | rfl | trivial)); go_wp2_with fail; refine HM3.out.mono ?_; rintro e w4 ⟨rfl, hk4⟩; have HK4 := hH (HK3.out.trans hk4); clear hk4; go_wp2; go_ret; exact ⟨by simp [HE.out], HK4.out⟩
theorem implMay_5 (x y : StL) (A1 A2 A3 A4 B1 B2 B3 B4 : Option Addr) (c1 c2 c3 c4 d1 d2 d3 d4 : Nat) (w : World) (hx : StAt w x A1 A2 A3 A4) (hy : StAt w y B1 B2 B3 B4) (ht : Tabs w) :
  Calls Tryd.prog 35 #[stV x A1 A2 A3 A4 c1 c2 c3 c4, stV y B1 B2 B3 B4 d1 d2 d3 d4, .int .i64 5] w fun e w' => e = .returned (.bool (wmayB x y 5)) ∧ Keeps noBlk w w' := by
 have HX := hH ((hx.alloc (.cells (stC x A1 A2 A3 A4 c1 c2 c3 c4) 27)).alloc (.cells (stC y B1 B2 B3 B4 d1 d2 d3 d4) 27)); have HY := hH ((hy.alloc (.cells (stC x A1 A2 A3 A4 c1 c2 c3 c4) 27)).alloc (.cells (stC y B1 B2 B3 B4 d1 d2 d3 d4) 27)); have HT := hH (ht.keeps (((Keeps.refl _ _).alloc (.cells (stC x A1 A2 A3 A4 c1 c2 c3 c4) 27)).alloc (.cells (stC y B1 B2 B3 B4 d1 d2 d3 d4) 27))); have HK := hH (((Keeps.refl noBlk w).alloc (.cells (stC x A1 A2 A3 A4 c1 c2 c3 c4) 27)).alloc (.cells (stC y B1 B2 B3 B4 d1 d2 d3 d4) 27)); have HBX := hH ((Box.new w _ rfl 27 (stC x A1 A2 A3 A4 c1 c2 c3 c4)).alloc (.cells (stC y B1 B2 B3 B4 d1 d2 d3 d4) 27)); have HBY := hH (Box.new (w.alloc (.cells (stC x A1 A2 A3 A4 c1 c2 c3 c4) 27)) (w.heap.size + 1) (by simp) 27 (stC y B1 B2 B3 B4 d1 d2 d3 d4)); have HSX := hH (fun W (h : StAt W x A1 A2 A3 A4) hT => implSt_any x A1 A2 A3 A4 c1 c2 c3 c4 W h hT); have HSY := hH (fun W (h : StAt W y B1 B2 B3 B4) hT => implSt_any y B1 B2 B3 B4 d1 d2 d3 d4 W h hT); have HM := hH (fun W (hX : StAt W x A1 A2 A3 A4) (hY : StAt W y B1 B2 B3 B4) (hT : Tabs W) (h1 : stB x = true) (h2 : stB y = true) => impl_mayNew x y A1 A2 A3 A4 B1 B2 B3 B4 c1 c2 c3 c4 d1 d2 d3 d4 W (stB_parts h1).1 (stB_parts h1).2.1); clear hx hy ht; have HF := hH (show wmayB x y 5 = (stB x && stB y && mayB x y 5) from rfl); generalize stB x = o1 at HSX HM HF; generalize stB y = o2 at HSY HM HF; generalize wmayB x y 5 = o at HF; generalize mayB x y 5 = o3 at HM HF; unfold stV at HSX HSY HM ⊢
 go_enter Tryd.func35, Tryd.ntmps35
 go_wp2_with fail; refine (impl_stepAt_5 _).mono ?_; rintro e w1 ⟨rfl, hk1⟩
 have hbx := HBX.out.keeps hk1 fun h => h
 have hby := HBY.out.keeps hk1 fun h => h
 have x0 := hbx.cell 0; have y0 := hby.cell 0; have x1 := hbx.cell 1; have y1 := hby.cell 1; have x2 := hbx.cell 2; have y2 := hby.cell 2; have x3 := hbx.cell 3; have y3 := hby.cell 3; have x4 := hbx.cell 4; have y4 := hby.cell 4; have x5 := hbx.cell 5; have y5 := hby.cell 5; have x6 := hbx.cell 6; have y6 := hby.cell 6; simp at x0 y0 x1 y1 x2 y2 x3 y3 x4 y4 x5 y5 x6 y6; have zx := hbx.lt; have zy := hby.lt; clear HBX HBY; have HBX := hH (hbx.alloc (.cells #[.func (.func 71) #[] #[], .func (.func 72) #[] #[]] 75)); have HBY := hH (hby.alloc (.cells #[.func (.func 71) #[] #[], .func (.func 72) #[] #[]] 75)); have HBR := hH (Box.new w1 _ rfl 75 #[.func (.func 71) #[] #[], .func (.func 72) #[] #[]]); have HK1 := hH ((HK.out.trans hk1).alloc (.cells #[.func (.func 71) #[] #[], .func (.func 72) #[] #[]] 75)); have HX1 := hH ((HX.out.kept hk1).alloc (.cells #[.func (.func 71) #[] #[], .func (.func 72) #[] #[]] 75)); have HY1 := hH ((HY.out.kept hk1).alloc (.cells #[.func (.func 71) #[] #[], .func (.func 72) #[] #[]] 75)); have HT1 := hH ((HT.out.keeps hk1).keeps ((Keeps.refl _ _).alloc (.cells #[.func (.func 71) #[] #[], .func (.func 72) #[] #[]] 75))); clear hbx hby hk1; go_wp2_with fail; refine (HSX.out _ HX1.out HT1.out).mono ?_; rintro e w2 ⟨rfl, hk2⟩; clear x0 y0 x1 y1 x2 y2 x3 y3 x4 y4 x5 y5 x6 y6 zx zy
 have hbx := HBX.out.keeps hk2 fun h => h
 have hby := HBY.out.keeps hk2 fun h => h
 have hbr := HBR.out.keeps hk2 fun h => h
 have x0 := hbx.cell 0; have y0 := hby.cell 0; have x1 := hbx.cell 1; have y1 := hby.cell 1; have x2 := hbx.cell 2; have y2 := hby.cell 2; have x3 := hbx.cell 3; have y3 := hby.cell 3; have x4 := hbx.cell 4; have y4 := hby.cell 4; have x5 := hbx.cell 5; have y5 := hby.cell 5; have x6 := hbx.cell 6; have y6 := hby.cell 6; simp at x0 y0 x1 y1 x2 y2 x3 y3 x4 y4 x5 y5 x6 y6; have zx := hbx.lt; have zy := hby.lt; obtain ⟨r0, r1⟩ := hbr.cells2; have zr := hbr.lt; clear HBX HBY HBR; have HBX := hH hbx; have HBY := hH hby; have HBR := hH hbr; have HK2 := hH (HK1.out.trans hk2); have HX2 := hH (HX1.out.kept hk2); have HY2 := hH (HY1.out.kept hk2); have HT2 := hH (HT1.out.keeps hk2); clear hbx hby hbr hk2
 cases o1 with
 | false =>
  have HE := hH (show o = false by rw [HF.out]; rfl); go_wp2; go_ret; exact ⟨by simp [HE.out], HK2.out⟩
 | true =>
  go_wp2_with fail; refine (HSY.out _ HY2.out HT2.out).mono ?_; rintro e w3 ⟨rfl, hk3⟩; clear x0 y0 x1 y1 x2 y2 x3 y3 x4 y4 x5 y5 x6 y6 zx zy r0 r1 zr
  have hbx := HBX.out.keeps hk3 fun h => h
  have hby := HBY.out.keeps hk3 fun h => h
  have hbr := HBR.out.keeps hk3 fun h => h
  have x0 := hbx.cell 0; have y0 := hby.cell 0; have x1 := hbx.cell 1; have y1 := hby.cell 1; have x2 := hbx.cell 2; have y2 := hby.cell 2; have x3 := hbx.cell 3; have y3 := hby.cell 3; have x4 := hbx.cell 4; have y4 := hby.cell 4; have x5 := hbx.cell 5; have y5 := hby.cell 5; have x6 := hbx.cell 6; have y6 := hby.cell 6; simp at x0 y0 x1 y1 x2 y2 x3 y3 x4 y4 x5 y5 x6 y6; have zx := hbx.lt; have zy := hby.lt; obtain ⟨r0, r1⟩ := hbr.cells2; have zr := hbr.lt; have HK3 := hH (HK2.out.trans hk3); have HX3 := hH (HX2.out.kept hk3); have HY3 := hH (HY2.out.kept hk3); have HT3 := hH (HT2.out.keeps hk3); clear hbx hby hbr hk3
  cases o2 with
  | false =>
   have HE := hH (show o = false by rw [HF.out]; rfl); go_wp2; go_ret; exact ⟨by simp [HE.out], HK3.out⟩
  | true =>
   have HE := hH (show o = o3 by rw [HF.out]; rfl); have HM3 := hH (HM.out _ HX3.out HY3.out HT3.out (by first | rfl | trivial) (by first | rfl | trivial)); go_wp2_with fail; refine HM3.out.mono ?_; rintro e w4 ⟨rfl, hk4⟩; have HK4 := hH (HK3.out.trans hk4); clear hk4; go_wp2; go_ret; exact ⟨by simp [HE.out], HK4.out⟩
theorem implMay_6 (x y : StL) (A1 A2 A3 A4 B1 B2 B3 B4 : Option Addr) (c1 c2 c3 c4 d1 d2 d3 d4 : Nat) (w : World) (hx : StAt w x A1 A2 A3 A4) (hy : StAt w y B1 B2 B3 B4) (ht : Tabs w) :
  Calls Tryd.prog 35 #[stV x A1 A2 A3 A4 c1 c2 c3 c4, stV y B1 B2 B3 B4 d1 d2 d3 d4, .int .i64 6] w fun e w' => e = .returned (.bool (wmayB x y 6)) ∧ Keeps noBlk w w' := by
 have HX := hH ((hx.alloc (.cells (stC x A1 A2 A3 A4 c1 c2 c3 c4) 27)).alloc (.cells (stC y B1 B2 B3 B4 d1 d2 d3 d4) 27)); have HY := hH ((hy.alloc (.cells (stC x A1 A2 A3 A4 c1 c2 c3 c4) 27)).alloc (.cells (stC y B1 B2 B3 B4 d1 d2 d3 d4) 27)); have HT := hH (ht.keeps (((Keeps.refl _ _).alloc (.cells (stC x A1 A2 A3 A4 c1 c2 c3 c4) 27)).alloc (.cells (stC y B1 B2 B3 B4 d1 d2 d3 d4) 27))); have HK := hH (((Keeps.refl noBlk w).alloc (.cells (stC x A1 A2 A3 A4 c1 c2 c3 c4) 27)).alloc (.cells (stC y B1 B2 B3 B4 d1 d2 d3 d4) 27)); have HBX := hH ((Box.new w _ rfl 27 (stC x A1 A2 A3 A4 c1 c2 c3 c4)).alloc (.cells (stC y B1 B2 B3 B4 d1 d2 d3 d4) 27)); have HBY := hH (Box.new (w.alloc (.cells (stC x A1 A2 A3 A4 c1 c2 c3 c4) 27)) (w.heap.size + 1) (by simp) 27 (stC y B1 B2 B3 B4 d1 d2 d3 d4)); have HSX := hH (fun W (h : StAt W x A1 A2 A3 A4) hT => implSt_any x A1 A2 A3 A4 c1 c2 c3 c4 W h hT); have HSY := hH (fun W (h : StAt W y B1 B2 B3 B4) hT => implSt_any y B1 B2 B3 B4 d1 d2 d3 d4 W h hT); have HM := hH (fun W (hX : StAt W x A1 A2 A3 A4) (hY : StAt W y B1 B2 B3 B4) (hT : Tabs W) (h1 : stB x = true) (h2 : stB y = true) => impl_mayAlso x y A1 A2 A3 A4 B1 B2 B3 B4 c1 c2 c3 c4 d1 d2 d3 d4 W (stB_parts h1).1 (stB_parts h1).2.1); clear hx hy ht; have HF := hH (show wmayB x y 6 = (stB x && stB y && mayB x y 6) from rfl); generalize stB x = o1 at HSX HM HF; generalize stB y = o2 at HSY HM HF; generalize wmayB x y 6 = o at HF; generalize mayB x y 6 = o3 at HM HF; unfold stV at HSX HSY HM ⊢
 go_enter Tryd.func35, Tryd.ntmps35
 go_wp2_with fail; refine (impl_stepAt_6 _).mono ?_; rintro e w1 ⟨rfl, hk1⟩
 have hbx := HBX.out.keeps hk1 fun h => h
 have hby := HBY.out.keeps hk1 fun h => h
 have x0 := hbx.cell 0; have y0 := hby.cell 0; have x1 := hbx.cell 1; have y1 := hby.cell 1; have x2 := hbx.cell 2; have y2 := hby.cell 2; have x3 := hbx.cell 3; have y3 := hby.cell 3; have x4 := hbx.cell 4; have y4 := hby.cell 4; have x5 := hbx.cell 5; have y5 := hby.cell 5; have x6 := hbx.cell 6; have y6 := hby.cell 6; simp at x0 y0 x1 y1 x2 y2 x3 y3 x4 y4 x5 y5 x6 y6; have zx := hbx.lt; have zy := hby.lt; clear HBX HBY; have HBX := hH (hbx.alloc (.cells #[.func (.func 73) #[] #[], .func (.func 72) #[] #[]] 75)); have HBY := hH (hby.alloc (.cells #[.func (.func 73) #[] #[], .func (.func 72) #[] #[]] 75)); have HBR := hH (Box.new w1 _ rfl 75 #[.func (.func 73) #[] #[], .func (.func 72) #[] #[]]); have HK1 := hH ((HK.out.trans hk1).alloc (.cells #[.func (.func 73) #[] #[], .func (.func 72) #[] #[]] 75)); have HX1 := hH ((HX.out.kept hk1).alloc (.cells #[.func (.func 73) #[] #[], .func (.func 72) #[] #[]] 75)); have HY1 := hH ((HY.out.kept hk1).alloc (.cells #[.func (.func 73) #[] #[], .func (.func 72) #[] #[]] 75)); have HT1 := hH ((HT.out.keeps hk1).keeps ((Keeps.refl _ _).alloc (.cells #[.func (.func 73) #[] #[], .func (.func 72) #[] #[]] 75))); clear hbx hby hk1; go_wp2_with fail; refine (HSX.out _ HX1.out HT1.out).mono ?_; rintro e w2 ⟨rfl, hk2⟩; clear x0 y0 x1 y1 x2 y2 x3 y3 x4 y4 x5 y5 x6 y6 zx zy
 have hbx := HBX.out.keeps hk2 fun h => h
 have hby := HBY.out.keeps hk2 fun h => h
 have hbr := HBR.out.keeps hk2 fun h => h
 have x0 := hbx.cell 0; have y0 := hby.cell 0; have x1 := hbx.cell 1; have y1 := hby.cell 1; have x2 := hbx.cell 2; have y2 := hby.cell 2; have x3 := hbx.cell 3; have y3 := hby.cell 3; have x4 := hbx.cell 4; have y4 := hby.cell 4; have x5 := hbx.cell 5; have y5 := hby.cell 5; have x6 := hbx.cell 6; have y6 := hby.cell 6; simp at x0 y0 x1 y1 x2 y2 x3 y3 x4 y4 x5 y5 x6 y6; have zx := hbx.lt; have zy := hby.lt; obtain ⟨r0, r1⟩ := hbr.cells2; have zr := hbr.lt; clear HBX HBY HBR; have HBX := hH hbx; have HBY := hH hby; have HBR := hH hbr; have HK2 := hH (HK1.out.trans hk2); have HX2 := hH (HX1.out.kept hk2); have HY2 := hH (HY1.out.kept hk2); have HT2 := hH (HT1.out.keeps hk2); clear hbx hby hbr hk2
 cases o1 with
 | false =>
  have HE := hH (show o = false by rw [HF.out]; rfl); go_wp2; go_ret; exact ⟨by simp [HE.out], HK2.out⟩
 | true =>
  go_wp2_with fail; refine (HSY.out _ HY2.out HT2.out).mono ?_; rintro e w3 ⟨rfl, hk3⟩; clear x0 y0 x1 y1 x2 y2 x3 y3 x4 y4 x5 y5 x6 y6 zx zy r0 r1 zr
  have hbx := HBX.out.keeps hk3 fun h => h
  have hby := HBY.out.keeps hk3 fun h => h
  have hbr := HBR.out.keeps hk3 fun h => h
  have x0 := hbx.cell 0; have y0 := hby.cell 0; have x1 := hbx.cell 1; have y1 := hby.cell 1; have x2 := hbx.cell 2; have y2 := hby.cell 2; have x3 := hbx.cell 3; have y3 := hby.cell 3; have x4 := hbx.cell 4; have y4 := hby.cell 4; have x5 := hbx.cell 5; have y5 := hby.cell 5; have x6 := hbx.cell 6; have y6 := hby.cell 6; simp at x0 y0 x1 y1 x2 y2 x3 y3 x4 y4 x5 y5 x6 y6; have zx := hbx.lt; have zy := hby.lt; obtain ⟨r0, r1⟩ := hbr.cells2; have zr := hbr.lt; have HK3 := hH (HK2.out.trans hk3); have HX3 := hH (HX2.out.kept hk3); have HY3 := hH (HY2.out.kept hk3); have HT3 := hH (HT2.out.keeps hk3); clear hbx hby hbr hk3
  cases o2 with
  | false =>
   have HE := hH (show o = false by rw [HF.out]; rfl); go_wp2; go_ret; exact ⟨by simp [HE.out], HK3.out⟩
  | true =>
   have HE := hH (show o = o3 by rw [HF.out]; rfl); have HM3 := hH (HM.out _ HX3.out HY3.out HT3.out (by first | rfl | trivial) (by first | rfl | trivial)); go_wp2_with fail; refine HM3.out.mono ?_; rintro e w4 ⟨rfl, hk4⟩; have HK4 := hH (HK3.out.trans hk4); clear hk4; go_wp2; go_ret; exact ⟨by simp [HE.out], HK4.out⟩
theorem implMay_7 (x y : StL) (A1 A2 A3 A4 B1 B2 B3 B4 : Option Addr) (c1 c2 c3 c4 d1 d2 d3 d4 : Nat) (w : World) (hx : StAt w x A1 A2 A3 A4) (hy : StAt w y B1 B2 B3 B4) (ht : Tabs w) :
  Calls Tryd.prog 35 #[stV x A1 A2 A3 A4 c1 c2 c3 c4, stV y B1 B2 B3 B4 d1 d2 d3 d4, .int .i64 7] w fun e w' => e = .returned (.bool (wmayB x y 7)) ∧ Keeps noBlk w w' := by
 have HX := hH ((hx.alloc (.cells (stC x A1 A2 A3 A4 c1 c2 c3 c4) 27)).alloc (.cells (stC y B1 B2 B3 B4 d1 d2 d3 d4) 27)); have HY := hH ((hy.alloc (.cells (stC x A1 A2 A3 A4 c1 c2 c3 c4) 27)).alloc (.cells (stC y B1 B2 B3 B4 d1 d2 d3 d4) 27)); have HT := hH (ht.keeps (((Keeps.refl _ _).alloc (.cells (stC x A1 A2 A3 A4 c1 c2 c3 c4) 27)).alloc (.cells (stC y B1 B2 B3 B4 d1 d2 d3 d4) 27))); have HK := hH (((Keeps.refl noBlk w).alloc (.cells (stC x A1 A2 A3 A4 c1 c2 c3 c4) 27)).alloc (.cells (stC y B1 B2 B3 B4 d1 d2 d3 d4) 27)); have HBX := hH ((Box.new w _ rfl 27 (stC x A1 A2 A3 A4 c1 c2 c3 c4)).alloc (.cells (stC y B1 B2 B3 B4 d1 d2 d3 d4) 27)); have HBY := hH (Box.new (w.alloc (.cells (stC x A1 A2 A3 A4 c1 c2 c3 c4) 27)) (w.heap.size + 1) (by simp) 27 (stC y B1 B2 B3 B4 d1 d2 d3 d4)); have HSX := hH (fun W (h : StAt W x A1 A2 A3 A4) hT => implSt_any x A1 A2 A3 A4 c1 c2 c3 c4 W h hT); have HSY := hH (fun W (h : StAt W y B1 B2 B3 B4) hT => implSt_any y B1 B2 B3 B4 d1 d2 d3 d4 W h hT); have HM := hH (fun W (hX : StAt W x A1 A2 A3 A4) (hY : StAt W y B1 B2 B3 B4) (hT : Tabs W) (h1 : stB x = true) (h2 : stB y = true) => impl_mayFresh x y A1 A2 A3 A4 B1 B2 B3 B4 c1 c2 c3 c4 d1 d2 d3 d4 W hX hY hT h1 h2 (stB_parts h1).2.2 (stB_parts h2).2.2); clear hx hy ht; have HF := hH (show wmayB x y 7 = (stB x && stB y && mayB x y 7) from rfl); generalize stB x = o1 at HSX HM HF; generalize stB y = o2 at HSY HM HF; generalize wmayB x y 7 = o at HF; generalize mayB x y 7 = o3 at HM HF; unfold stV at HSX HSY HM ⊢
 go_enter Tryd.func35, Tryd.ntmps35
 go_wp2_with fail; refine (impl_stepAt_7 _).mono ?_; rintro e w1 ⟨rfl, hk1⟩
 have hbx := HBX.out.keeps hk1 fun h => h
 have hby := HBY.out.keeps hk1 fun h => h
 have x0 := hbx.cell 0; have y0 := hby.cell 0; have x1 := hbx.cell 1; have y1 := hby.cell 1; have x2 := hbx.cell 2; have y2 := hby.cell 2; have x3 := hbx.cell 3; have y3 := hby.cell 3; have x4 := hbx.cell 4; have y4 := hby.cell 4; have x5 := hbx.cell 5; have y5 := hby.cell 5; have x6 := hbx.cell 6; have y6 := hby.cell 6; simp at x0 y0 x1 y1 x2 y2 x3 y3 x4 y4 x5 y5 x6 y6; have zx := hbx.lt; have zy := hby.lt; clear HBX HBY; have HBX := hH (hbx.alloc (.cells #[.func (.func 74) #[] #[], .func (.func 75) #[] #[]] 75)); have HBY := hH (hby.alloc (.cells #[.func (.func 74) #[] #[], .func (.func 75) #[] #[]] 75)); have HBR := hH (Box.new w1 _ rfl 75 #[.func (.func 74) #[] #[], .func (.func 75) #[] #[]]); have HK1 := hH ((HK.out.trans hk1).alloc (.cells #[.func (.func 74) #[] #[], .func (.func 75) #[] #[]] 75)); have HX1 := hH ((HX.out.kept hk1).alloc (.cells #[.func (.func 74) #[] #[], .func (.func 75) #[] #[]] 75)); have HY1 := hH ((HY.out.kept hk1).alloc (.cells #[.func (.func 74) #[] #[], .func (.func 75) #[] #[]] 75)); have HT1 := hH ((HT.out.keeps hk1).keeps ((Keeps.refl _ _).alloc (.cells #[.func (.func 74) #[] #[], .func (.func 75) #[] #[]] 75))); clear hbx hby hk1; go_wp2_with fail; refine (HSX.out _ HX1.out HT1.out).mono ?_; rintro e w2 ⟨rfl, hk2⟩; clear x0 y0 x1 y1 x2 y2 x3 y3 x4 y4 x5 y5 x6 y6 zx zy
 have hbx := HBX.out.keeps hk2 fun h => h
 have hby := HBY.out.keeps hk2 fun h => h
 have hbr := HBR.out.keeps hk2 fun h => h
 have x0 := hbx.cell 0; have y0 := hby.cell 0; have x1 := hbx.cell 1; have y1 := hby.cell 1; have x2 := hbx.cell 2; have y2 := hby.cell 2; have x3 := hbx.cell 3; have y3 := hby.cell 3; have x4 := hbx.cell 4; have y4 := hby.cell 4; have x5 := hbx.cell 5; have y5 := hby.cell 5; have x6 := hbx.cell 6; have y6 := hby.cell 6; simp at x0 y0 x1 y1 x2 y2 x3 y3 x4 y4 x5 y5 x6 y6; have zx := hbx.lt; have zy := hby.lt; obtain ⟨r0, r1⟩ := hbr.cells2; have zr := hbr.lt; clear HBX HBY HBR; have HBX := hH hbx; have HBY := hH hby; have HBR := hH hbr; have HK2 := hH (HK1.out.trans hk2); have HX2 := hH (HX1.out.kept hk2); have HY2 := hH (HY1.out.kept hk2); have HT2 := hH (HT1.out.keeps hk2); clear hbx hby hbr hk2
 cases o1 with
 | false =>
  have HE := hH (show o = false by rw [HF.out]; rfl); go_wp2; go_ret; exact ⟨by simp [HE.out], HK2.out⟩
 | true =>
  go_wp2_with fail; refine (HSY.out _ HY2.out HT2.out).mono ?_; rintro e w3 ⟨rfl, hk3⟩; clear x0 y0 x1 y1 x2 y2 x3 y3 x4 y4 x5 y5 x6 y6 zx zy r0 r1 zr
  have hbx := HBX.out.keeps hk3 fun h => h
  have hby := HBY.out.keeps hk3 fun h => h
  have hbr := HBR.out.keeps hk3 fun h => h
  have x0 := hbx.cell 0; have y0 := hby.cell 0; have x1 := hbx.cell 1; have y1 := hby.cell 1; have x2 := hbx.cell 2; have y2 := hby.cell 2; have x3 := hbx.cell 3; have y3 := hby.cell 3; have x4 := hbx.cell 4; have y4 := hby.cell 4; have x5 := hbx.cell 5; have y5 := hby.cell 5; have x6 := hbx.cell 6; have y6 := hby.cell 6; simp at x0 y0 x1 y1 x2 y2 x3 y3 x4 y4 x5 y5 x6 y6; have zx := hbx.lt; have zy := hby.lt; obtain ⟨r0, r1⟩ := hbr.cells2; have zr := hbr.lt; have HK3 := hH (HK2.out.trans hk3); have HX3 := hH (HX2.out.kept hk3); have HY3 := hH (HY2.out.kept hk3); have HT3 := hH (HT2.out.keeps hk3); clear hbx hby hbr hk3
  cases o2 with
  | false =>
   have HE := hH (show o = false by rw [HF.out]; rfl); go_wp2; go_ret; exact ⟨by simp [HE.out], HK3.out⟩
  | true =>
   have HE := hH (show o = o3 by rw [HF.out]; rfl); have HM3 := hH (HM.out _ HX3.out HY3.out HT3.out (by first | rfl | trivial) (by first | rfl | trivial)); go_wp2_with fail; refine HM3.out.mono ?_; rintro e w4 ⟨rfl, hk4⟩; have HK4 := hH (HK3.out.trans hk4); clear hk4; go_wp2; go_ret; exact ⟨by simp [HE.out], HK4.out⟩
theorem implMay_no (x y : StL) (A1 A2 A3 A4 B1 B2 B3 B4 : Option Addr) (c1 c2 c3 c4 d1 d2 d3 d4 : Nat) (k : Int) (hn : k < 1 ∨ 7 < k) (w : World) (hx : StAt w x A1 A2 A3 A4) (hy : StAt w y B1 B2 B3 B4) (ht : Tabs w) :
  Calls Tryd.prog 35 #[stV x A1 A2 A3 A4 c1 c2 c3 c4, stV y B1 B2 B3 B4 d1 d2 d3 d4, .int .i64 k] w fun e w' => e = .returned (.bool (wmayB x y k)) ∧ Keeps noBlk w w' := by
 have HK := hH (((Keeps.refl noBlk w).alloc (.cells (stC x A1 A2 A3 A4 c1 c2 c3 c4) 27)).alloc (.cells (stC y B1 B2 B3 B4 d1 d2 d3 d4) 27))
 have HF := hH (show wmayB x y k = false by
  have : mayB x y k = false := by unfold mayB; rw [if_neg (by omega), if_neg (by omega), if_neg (by omega), if_neg (by omega), if_neg (by omega), if_neg (by omega), if_neg (by omega)]
  simp [wmayB, this])
 clear hx hy ht; have HN := hH hn; clear hn; unfold stV
 go_enter Tryd.func35, Tryd.ntmps35
 go_wp2_with fail; refine (impl_stepAt_no k HN.out _).mono ?_; rintro e w1 ⟨rfl, hk1⟩; have HK1 := hH ((HK.out.trans hk1).alloc (.cells #[.nilFunc, .nilFunc] 75)); clear hk1; go_wp2; go_ret; exact ⟨by simp [HF.out], HK1.out⟩
theorem implMay_any (x y : StL) (A1 A2 A3 A4 B1 B2 B3 B4 : Option Addr) (c1 c2 c3 c4 d1 d2 d3 d4 : Nat) (k : Int) (w : World) (hx : StAt w x A1 A2 A3 A4) (hy : StAt w y B1 B2 B3 B4) (ht : Tabs w) :
  Calls Tryd.prog 35 #[stV x A1 A2 A3 A4 c1 c2 c3 c4, stV y B1 B2 B3 B4 d1 d2 d3 d4, .int .i64 k] w fun e w' => e = .returned (.bool (wmayB x y k)) ∧ Keeps noBlk w w' := by
 by_cases hn : k < 1 ∨ 7 < k
 ·exact implMay_no x y A1 A2 A3 A4 B1 B2 B3 B4 c1 c2 c3 c4 d1 d2 d3 d4 k hn w hx hy ht
 ·have h7 : k = 1 ∨ k = 2 ∨ k = 3 ∨ k = 4 ∨ k = 5 ∨ k = 6 ∨ k = 7 := by omega
  rcases h7 with rfl | rfl | rfl | rfl | rfl | rfl | rfl
  ·exact implMay_1 x y A1 A2 A3 A4 B1 B2 B3 B4 c1 c2 c3 c4 d1 d2 d3 d4 w hx hy ht
  ·exact implMay_2 x y A1 A2 A3 A4 B1 B2 B3 B4 c1 c2 c3 c4 d1 d2 d3 d4 w hx hy ht
  ·exact implMay_3 x y A1 A2 A3 A4 B1 B2 B3 B4 c1 c2 c3 c4 d1 d2 d3 d4 w hx hy ht
  ·exact implMay_4 x y A1 A2 A3 A4 B1 B2 B3 B4 c1 c2 c3 c4 d1 d2 d3 d4 w hx hy ht
  ·exact implMay_5 x y A1 A2 A3 A4 B1 B2 B3 B4 c1 c2 c3 c4 d1 d2 d3 d4 w hx hy ht
  ·exact implMay_6 x y A1 A2 A3 A4 B1 B2 B3 B4 c1 c2 c3 c4 d1 d2 d3 d4 w hx hy ht
  ·exact implMay_7 x y A1 A2 A3 A4 B1 B2 B3 B4 c1 c2 c3 c4 d1 d2 d3 d4 w hx hy ht
end Go.Proofs.YtjcbeihoeanhaaaDoor
