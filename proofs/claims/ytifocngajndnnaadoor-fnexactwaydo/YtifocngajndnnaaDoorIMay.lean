/- The program's steps: which may be done, stepAt, WayMay. The two tables read as the program's text lays them. -/
import Derived.Test.YtifocngajndnnaaDoorGDo
import Derived.Test.YtifocngajndnnaaDoorSLive
import Derived.Laws.EntriesVeiled
set_option linter.unusedVariables false
set_option linter.unusedSimpArgs false
namespace Go.Proofs.YtifocngajndnnaaDoor
open Go.RowKit

set_option maxRecDepth 100000 in
set_option maxHeartbeats 2000000 in
theorem impl_mayInit (x y : StL) (A1 A2 A3 A4 B1 B2 B3 B4 : Option Addr) (c1 c2 c3 c4 d1 d2 d3 d4 : Nat) (w : World) (h0 : 0 ≤ x.way) (hv : -100 ≤ x.ver ∧ x.ver ≤ 100) :
    Calls Tryd.prog 80 #[stV x A1 A2 A3 A4 c1 c2 c3 c4, stV y B1 B2 B3 B4 d1 d2 d3 d4] w fun e w' => e = .returned (.bool (mayB x y 1)) ∧ Keeps noBlk w w' := by
  have HK := Lib.hid (((Keeps.refl noBlk w).alloc (.cells #[.int .i64 x.way, .int .i64 x.ver, .int .i64 x.want, .slice A1 x.sent.length c1, .slice A2 x.live.length c2, .slice A3 x.back.length c3, .slice A4 x.got.length c4] 31)).alloc (.cells #[.int .i64 y.way, .int .i64 y.ver, .int .i64 y.want, .slice B1 y.sent.length d1, .slice B2 y.live.length d2, .slice B3 y.back.length d3, .slice B4 y.got.length d4] 31))
  unfold stV
  go_enter Tryd.func80, Tryd.ntmps80
  by_cases q0 : x.way = 0
  · have eq0 : (x.way == 0) = true := by simp [q0]
    have HF := Lib.hid (show mayB x y 1 = true by simp [mayB]; omega)
    clear q0 h0
    go_wp2
    go_ret
    exact ⟨by simp [HF.out], HK.out⟩
  · have eq0 : (x.way == 0) = false := by simp [q0]
    have HF := Lib.hid (show mayB x y 1 = false by simp [mayB]; omega)
    clear q0 h0
    go_wp2
    go_ret
    exact ⟨by simp [HF.out], HK.out⟩
set_option maxRecDepth 100000 in
set_option maxHeartbeats 2000000 in
theorem impl_mayTry (x y : StL) (A1 A2 A3 A4 B1 B2 B3 B4 : Option Addr) (c1 c2 c3 c4 d1 d2 d3 d4 : Nat) (w : World) (h0 : 0 ≤ x.way) (hv : -100 ≤ x.ver ∧ x.ver ≤ 100) :
    Calls Tryd.prog 82 #[stV x A1 A2 A3 A4 c1 c2 c3 c4, stV y B1 B2 B3 B4 d1 d2 d3 d4] w fun e w' => e = .returned (.bool (mayB x y 2)) ∧ Keeps noBlk w w' := by
  have HK := Lib.hid (((Keeps.refl noBlk w).alloc (.cells #[.int .i64 x.way, .int .i64 x.ver, .int .i64 x.want, .slice A1 x.sent.length c1, .slice A2 x.live.length c2, .slice A3 x.back.length c3, .slice A4 x.got.length c4] 31)).alloc (.cells #[.int .i64 y.way, .int .i64 y.ver, .int .i64 y.want, .slice B1 y.sent.length d1, .slice B2 y.live.length d2, .slice B3 y.back.length d3, .slice B4 y.got.length d4] 31))
  unfold stV
  go_enter Tryd.func82, Tryd.ntmps82
  by_cases q0 : x.way = 0
  · have eq0 : (x.way == 0) = true := by simp [q0]
    by_cases q1 : y.way = 1
    · have eq1 : (y.way == 1) = true := by simp [q1]
      have HF := Lib.hid (show mayB x y 2 = true by simp [mayB]; omega)
      clear q0 q1 h0
      go_wp2
      go_ret
      exact ⟨by simp [HF.out], HK.out⟩
    · have eq1 : (y.way == 1) = false := by simp [q1]
      by_cases q2 : y.way = 2
      · have eq2 : (y.way == 2) = true := by simp [q2]
        have HF := Lib.hid (show mayB x y 2 = true by simp [mayB]; omega)
        clear q0 q1 q2 h0
        go_wp2
        go_ret
        exact ⟨by simp [HF.out], HK.out⟩
      · have eq2 : (y.way == 2) = false := by simp [q2]
        have HF := Lib.hid (show mayB x y 2 = false by simp [mayB]; omega)
        clear q0 q1 q2 h0
        go_wp2
        go_ret
        exact ⟨by simp [HF.out], HK.out⟩
  · have eq0 : (x.way == 0) = false := by simp [q0]
    by_cases q1 : x.way = 1
    · have eq1 : (x.way == 1) = true := by simp [q1]
      by_cases q2 : y.way = 1
      · have eq2 : (y.way == 1) = true := by simp [q2]
        have HF := Lib.hid (show mayB x y 2 = true by simp [mayB]; omega)
        clear q0 q1 q2 h0
        go_wp2
        go_ret
        exact ⟨by simp [HF.out], HK.out⟩
      · have eq2 : (y.way == 1) = false := by simp [q2]
        by_cases q3 : y.way = 2
        · have eq3 : (y.way == 2) = true := by simp [q3]
          have HF := Lib.hid (show mayB x y 2 = true by simp [mayB]; omega)
          clear q0 q1 q2 q3 h0
          go_wp2
          go_ret
          exact ⟨by simp [HF.out], HK.out⟩
        · have eq3 : (y.way == 2) = false := by simp [q3]
          have HF := Lib.hid (show mayB x y 2 = false by simp [mayB]; omega)
          clear q0 q1 q2 q3 h0
          go_wp2
          go_ret
          exact ⟨by simp [HF.out], HK.out⟩
    · have eq1 : (x.way == 1) = false := by simp [q1]
      have HF := Lib.hid (show mayB x y 2 = false by simp [mayB]; omega)
      clear q0 q1 h0
      go_wp2
      go_ret
      exact ⟨by simp [HF.out], HK.out⟩
set_option maxRecDepth 100000 in
set_option maxHeartbeats 2000000 in
theorem impl_mayAck (x y : StL) (A1 A2 A3 A4 B1 B2 B3 B4 : Option Addr) (c1 c2 c3 c4 d1 d2 d3 d4 : Nat) (w : World) (h0 : 0 ≤ x.way) (hv : -100 ≤ x.ver ∧ x.ver ≤ 100) :
    Calls Tryd.prog 84 #[stV x A1 A2 A3 A4 c1 c2 c3 c4, stV y B1 B2 B3 B4 d1 d2 d3 d4] w fun e w' => e = .returned (.bool (mayB x y 3)) ∧ Keeps noBlk w w' := by
  have HK := Lib.hid (((Keeps.refl noBlk w).alloc (.cells #[.int .i64 x.way, .int .i64 x.ver, .int .i64 x.want, .slice A1 x.sent.length c1, .slice A2 x.live.length c2, .slice A3 x.back.length c3, .slice A4 x.got.length c4] 31)).alloc (.cells #[.int .i64 y.way, .int .i64 y.ver, .int .i64 y.want, .slice B1 y.sent.length d1, .slice B2 y.live.length d2, .slice B3 y.back.length d3, .slice B4 y.got.length d4] 31))
  unfold stV
  go_enter Tryd.func84, Tryd.ntmps84
  by_cases q0 : x.way = 1
  · have eq0 : (x.way == 1) = true := by simp [q0]
    by_cases q1 : 2 ≤ y.way
    · have eq1 : decide (2 ≤ y.way) = true := by simp [q1]
      have HF := Lib.hid (show mayB x y 3 = true by simp [mayB]; omega)
      clear q0 q1 h0
      go_wp2
      go_ret
      exact ⟨by simp [HF.out], HK.out⟩
    · have eq1 : decide (2 ≤ y.way) = false := by simp [q1]
      have HF := Lib.hid (show mayB x y 3 = false by simp [mayB]; omega)
      clear q0 q1 h0
      go_wp2
      go_ret
      exact ⟨by simp [HF.out], HK.out⟩
  · have eq0 : (x.way == 1) = false := by simp [q0]
    have HF := Lib.hid (show mayB x y 3 = false by simp [mayB]; omega)
    clear q0 h0
    go_wp2
    go_ret
    exact ⟨by simp [HF.out], HK.out⟩
set_option maxRecDepth 100000 in
set_option maxHeartbeats 2000000 in
theorem impl_mayDone (x y : StL) (A1 A2 A3 A4 B1 B2 B3 B4 : Option Addr) (c1 c2 c3 c4 d1 d2 d3 d4 : Nat) (w : World) (h0 : 0 ≤ x.way) (hv : -100 ≤ x.ver ∧ x.ver ≤ 100) :
    Calls Tryd.prog 86 #[stV x A1 A2 A3 A4 c1 c2 c3 c4, stV y B1 B2 B3 B4 d1 d2 d3 d4] w fun e w' => e = .returned (.bool (mayB x y 4)) ∧ Keeps noBlk w w' := by
  have HK := Lib.hid (((Keeps.refl noBlk w).alloc (.cells #[.int .i64 x.way, .int .i64 x.ver, .int .i64 x.want, .slice A1 x.sent.length c1, .slice A2 x.live.length c2, .slice A3 x.back.length c3, .slice A4 x.got.length c4] 31)).alloc (.cells #[.int .i64 y.way, .int .i64 y.ver, .int .i64 y.want, .slice B1 y.sent.length d1, .slice B2 y.live.length d2, .slice B3 y.back.length d3, .slice B4 y.got.length d4] 31))
  unfold stV
  go_enter Tryd.func86, Tryd.ntmps86
  by_cases q0 : x.way = 2
  · have eq0 : (x.way == 2) = true := by simp [q0]
    by_cases q1 : 2 ≤ y.way
    · have eq1 : decide (2 ≤ y.way) = true := by simp [q1]
      have HF := Lib.hid (show mayB x y 4 = true by simp [mayB]; omega)
      clear q0 q1 h0
      go_wp2
      go_ret
      exact ⟨by simp [HF.out], HK.out⟩
    · have eq1 : decide (2 ≤ y.way) = false := by simp [q1]
      have HF := Lib.hid (show mayB x y 4 = false by simp [mayB]; omega)
      clear q0 q1 h0
      go_wp2
      go_ret
      exact ⟨by simp [HF.out], HK.out⟩
  · have eq0 : (x.way == 2) = false := by simp [q0]
    have HF := Lib.hid (show mayB x y 4 = false by simp [mayB]; omega)
    clear q0 h0
    go_wp2
    go_ret
    exact ⟨by simp [HF.out], HK.out⟩
set_option maxRecDepth 100000 in
set_option maxHeartbeats 2000000 in
theorem impl_mayNew (x y : StL) (A1 A2 A3 A4 B1 B2 B3 B4 : Option Addr) (c1 c2 c3 c4 d1 d2 d3 d4 : Nat) (w : World) (h0 : 0 ≤ x.way) (hv : -100 ≤ x.ver ∧ x.ver ≤ 100) :
    Calls Tryd.prog 87 #[stV x A1 A2 A3 A4 c1 c2 c3 c4, stV y B1 B2 B3 B4 d1 d2 d3 d4] w fun e w' => e = .returned (.bool (mayB x y 5)) ∧ Keeps noBlk w w' := by
  have HK := Lib.hid (((Keeps.refl noBlk w).alloc (.cells #[.int .i64 x.way, .int .i64 x.ver, .int .i64 x.want, .slice A1 x.sent.length c1, .slice A2 x.live.length c2, .slice A3 x.back.length c3, .slice A4 x.got.length c4] 31)).alloc (.cells #[.int .i64 y.way, .int .i64 y.ver, .int .i64 y.want, .slice B1 y.sent.length d1, .slice B2 y.live.length d2, .slice B3 y.back.length d3, .slice B4 y.got.length d4] 31))
  unfold stV
  go_enter Tryd.func87, Tryd.ntmps87
  by_cases q0 : x.way = 3
  · have eq0 : (x.way == 3) = true := by simp [q0]
    by_cases q1 : x.ver < 9
    · have eq1 : decide (x.ver < 9) = true := by simp [q1]
      have HF := Lib.hid (show mayB x y 5 = true by simp [mayB]; omega)
      clear q0 q1 h0
      go_wp2
      go_ret
      exact ⟨by simp [HF.out], HK.out⟩
    · have eq1 : decide (x.ver < 9) = false := by simp [q1]
      have HF := Lib.hid (show mayB x y 5 = false by simp [mayB]; omega)
      clear q0 q1 h0
      go_wp2
      go_ret
      exact ⟨by simp [HF.out], HK.out⟩
  · have eq0 : (x.way == 3) = false := by simp [q0]
    have HF := Lib.hid (show mayB x y 5 = false by simp [mayB]; omega)
    clear q0 h0
    go_wp2
    go_ret
    exact ⟨by simp [HF.out], HK.out⟩
set_option maxRecDepth 100000 in
set_option maxHeartbeats 2000000 in
theorem impl_mayAlso (x y : StL) (A1 A2 A3 A4 B1 B2 B3 B4 : Option Addr) (c1 c2 c3 c4 d1 d2 d3 d4 : Nat) (w : World) (h0 : 0 ≤ x.way) (hv : -100 ≤ x.ver ∧ x.ver ≤ 100) :
    Calls Tryd.prog 89 #[stV x A1 A2 A3 A4 c1 c2 c3 c4, stV y B1 B2 B3 B4 d1 d2 d3 d4] w fun e w' => e = .returned (.bool (mayB x y 6)) ∧ Keeps noBlk w w' := by
  have HK := Lib.hid (((Keeps.refl noBlk w).alloc (.cells #[.int .i64 x.way, .int .i64 x.ver, .int .i64 x.want, .slice A1 x.sent.length c1, .slice A2 x.live.length c2, .slice A3 x.back.length c3, .slice A4 x.got.length c4] 31)).alloc (.cells #[.int .i64 y.way, .int .i64 y.ver, .int .i64 y.want, .slice B1 y.sent.length d1, .slice B2 y.live.length d2, .slice B3 y.back.length d3, .slice B4 y.got.length d4] 31))
  unfold stV
  go_enter Tryd.func89, Tryd.ntmps89
  by_cases q0 : x.way = 3
  · have eq0 : (x.way == 3) = true := by simp [q0]
    by_cases q1 : y.way = 4
    · have eq1 : (y.way == 4) = true := by simp [q1]
      by_cases q2 : y.want = x.ver + 1
      · have eq2 : (y.want == x.ver + 1) = true := by simp [q2]
        have HF := Lib.hid (show mayB x y 6 = true by simp [mayB]; omega)
        clear q0 q1 q2 h0
        go_wp2
        go_ret
        exact ⟨by simp [HF.out], HK.out⟩
      · have eq2 : (y.want == x.ver + 1) = false := by simp [q2]
        have HF := Lib.hid (show mayB x y 6 = false by simp [mayB]; omega)
        clear q0 q1 q2 h0
        go_wp2
        go_ret
        exact ⟨by simp [HF.out], HK.out⟩
    · have eq1 : (y.way == 4) = false := by simp [q1]
      have HF := Lib.hid (show mayB x y 6 = false by simp [mayB]; omega)
      clear q0 q1 h0
      go_wp2
      go_ret
      exact ⟨by simp [HF.out], HK.out⟩
  · have eq0 : (x.way == 3) = false := by simp [q0]
    have HF := Lib.hid (show mayB x y 6 = false by simp [mayB]; omega)
    clear q0 h0
    go_wp2
    go_ret
    exact ⟨by simp [HF.out], HK.out⟩
theorem cntT_zero {l : List Bool} : cntT l = 0 ↔ ∀ k, k < l.length → l.getD k false = false := by
  induction l with
  | nil => simp [cntT]
  | cons a l ih =>
    constructor
    · intro h k hk
      simp only [cntT] at h
      cases k with
      | zero => cases a <;> simp_all
      | succ k => rw [List.getD_cons_succ]; exact ih.1 (by omega) k (by simpa using hk)
    · intro h
      have h1 := h 0 (by simp)
      rw [List.getD_cons_zero] at h1
      have h2 := ih.2 fun k hk => by have := h (k + 1) (by simpa using hk); rwa [List.getD_cons_succ] at this
      simp only [cntT, h1, h2]
      simp
theorem liveTo_zero {x : StL} {n : Nat} : (liveTo x n).length = 0 ↔ ∀ k, k < n → x.live.getD k false = false := by
  induction n with
  | zero => simp [liveTo]
  | succ n ih =>
    rw [liveTo]
    split
    · rename_i h
      constructor
      · intro e; simp at e
      · intro e; rw [e n (by omega)] at h; cases h
    · rename_i h
      rw [ih]
      constructor
      · intro e k hk
        by_cases hkn : k = n
        · subst hkn; simpa using h
        · exact e k (by omega)
      · intro e k hk; exact e k (by omega)
theorem liveL_zero {x : StL} (h : stB x = true) (hl : x.live.length = x.sent.length) : ((liveL x).length = 0) ↔ liveN x = 0 := by
  unfold liveL liveN
  rw [if_pos h, liveTo_zero, cntT_zero, hl]
set_option maxRecDepth 100000 in
set_option maxHeartbeats 2000000 in
theorem impl_nothingLive (x : StL) (A1 A2 A3 A4 : Option Addr) (c1 c2 c3 c4 : Nat) (w : World) (hx : StAt w x A1 A2 A3 A4) (ht : Tabs w) (h : stB x = true) (hl : x.live.length = x.sent.length) :
    Calls Tryd.prog 96 #[stV x A1 A2 A3 A4 c1 c2 c3 c4] w fun e w' => e = .returned (.bool (decide (liveN x = 0))) ∧ Keeps noBlk w w' := by
  have HL := Lib.hid (liveL_zero h hl)
  have HC := Lib.hid (implLive_any x A1 A2 A3 A4 c1 c2 c3 c4 (w.alloc (.cells #[.int .i64 x.way, .int .i64 x.ver, .int .i64 x.want, .slice A1 x.sent.length c1, .slice A2 x.live.length c2, .slice A3 x.back.length c3, .slice A4 x.got.length c4] 31)) (hx.alloc _) (ht.keeps ((Keeps.refl _ _).alloc _)))
  have HK := Lib.hid ((Keeps.refl noBlk w).alloc (.cells #[.int .i64 x.way, .int .i64 x.ver, .int .i64 x.want, .slice A1 x.sent.length c1, .slice A2 x.live.length c2, .slice A3 x.back.length c3, .slice A4 x.got.length c4] 31))
  clear h hl
  generalize liveL x = xs at HL HC
  unfold stV at HC ⊢
  go_enter Tryd.func96, Tryd.ntmps96
  go_wp2_with fail
  refine HC.out.mono ?_
  rintro e w1 ⟨v, rfl, ho, hk1⟩
  obtain ⟨A, c, rfl⟩ := (show Rw (fun _ => 0) 0 w1 3 1 v _ _ from ⟨owns_less ho, fun _ _ => rfl⟩).shape
  have HK1 := Lib.hid (HK.out.trans hk1)
  clear ho hk1
  by_cases h0 : xs.length = 0
  · have e0 : ((xs.length : Int) == 0) = true := by simp [h0]
    have HF := Lib.hid (HL.out.1 h0)
    clear h0
    go_wp2
    go_ret
    exact ⟨by simp [HF.out], HK1.out⟩
  · have e0 : ((xs.length : Int) == 0) = false := by rw [beq_eq_false_iff_ne]; omega
    have HF := Lib.hid (show ¬ liveN x = 0 from fun h => h0 (HL.out.2 h))
    clear h0
    go_wp2
    go_ret
    exact ⟨by simp [HF.out], HK1.out⟩
set_option maxRecDepth 100000 in
set_option maxHeartbeats 2000000 in
theorem impl_followed (x y : StL) (A1 A2 A3 A4 B1 B2 B3 B4 : Option Addr) (c1 c2 c3 c4 d1 d2 d3 d4 : Nat) (w : World) (hx : StAt w x A1 A2 A3 A4) (hy : StAt w y B1 B2 B3 B4) (ht : Tabs w) (h1 : stB x = true) (h2 : stB y = true) (l1 : x.live.length = x.sent.length) (l2 : y.live.length = y.sent.length) :
    Calls Tryd.prog 97 #[stV x A1 A2 A3 A4 c1 c2 c3 c4, stV y B1 B2 B3 B4 d1 d2 d3 d4] w fun e w' => e = .returned (.bool (decide ((y.way = 4 ∧ y.want = x.want ∧ liveN y = 0) ∨ y.ver = x.want))) ∧ Keeps noBlk w w' := by
  have HX := Lib.hid ((hx.alloc (.cells #[.int .i64 x.way, .int .i64 x.ver, .int .i64 x.want, .slice A1 x.sent.length c1, .slice A2 x.live.length c2, .slice A3 x.back.length c3, .slice A4 x.got.length c4] 31)).alloc (.cells #[.int .i64 y.way, .int .i64 y.ver, .int .i64 y.want, .slice B1 y.sent.length d1, .slice B2 y.live.length d2, .slice B3 y.back.length d3, .slice B4 y.got.length d4] 31))
  have HY := Lib.hid ((hy.alloc (.cells #[.int .i64 x.way, .int .i64 x.ver, .int .i64 x.want, .slice A1 x.sent.length c1, .slice A2 x.live.length c2, .slice A3 x.back.length c3, .slice A4 x.got.length c4] 31)).alloc (.cells #[.int .i64 y.way, .int .i64 y.ver, .int .i64 y.want, .slice B1 y.sent.length d1, .slice B2 y.live.length d2, .slice B3 y.back.length d3, .slice B4 y.got.length d4] 31))
  have HT := Lib.hid (ht.keeps (((Keeps.refl _ _).alloc (.cells #[.int .i64 x.way, .int .i64 x.ver, .int .i64 x.want, .slice A1 x.sent.length c1, .slice A2 x.live.length c2, .slice A3 x.back.length c3, .slice A4 x.got.length c4] 31)).alloc (.cells #[.int .i64 y.way, .int .i64 y.ver, .int .i64 y.want, .slice B1 y.sent.length d1, .slice B2 y.live.length d2, .slice B3 y.back.length d3, .slice B4 y.got.length d4] 31)))
  have HK := Lib.hid (((Keeps.refl noBlk w).alloc (.cells #[.int .i64 x.way, .int .i64 x.ver, .int .i64 x.want, .slice A1 x.sent.length c1, .slice A2 x.live.length c2, .slice A3 x.back.length c3, .slice A4 x.got.length c4] 31)).alloc (.cells #[.int .i64 y.way, .int .i64 y.ver, .int .i64 y.want, .slice B1 y.sent.length d1, .slice B2 y.live.length d2, .slice B3 y.back.length d3, .slice B4 y.got.length d4] 31))
  have HBX := Lib.hid ((Box.new w _ rfl 31 #[.int .i64 x.way, .int .i64 x.ver, .int .i64 x.want, .slice A1 x.sent.length c1, .slice A2 x.live.length c2, .slice A3 x.back.length c3, .slice A4 x.got.length c4]).alloc (.cells #[.int .i64 y.way, .int .i64 y.ver, .int .i64 y.want, .slice B1 y.sent.length d1, .slice B2 y.live.length d2, .slice B3 y.back.length d3, .slice B4 y.got.length d4] 31))
  have HBY := Lib.hid (Box.new (w.alloc (.cells #[.int .i64 x.way, .int .i64 x.ver, .int .i64 x.want, .slice A1 x.sent.length c1, .slice A2 x.live.length c2, .slice A3 x.back.length c3, .slice A4 x.got.length c4] 31)) (w.heap.size + 1) (by simp) 31 #[.int .i64 y.way, .int .i64 y.ver, .int .i64 y.want, .slice B1 y.sent.length d1, .slice B2 y.live.length d2, .slice B3 y.back.length d3, .slice B4 y.got.length d4])
  have HN := Lib.hid (impl_nothingLive y B1 B2 B3 B4 d1 d2 d3 d4 _ HY.out HT.out h2 l2)
  clear hx hy ht h1 h2 l1 l2
  unfold stV at HN ⊢
  go_enter Tryd.func97, Tryd.ntmps97
  by_cases q0 : y.ver = x.want
  · have e0 : (y.ver == x.want) = true := by simp [q0]
    have HF := Lib.hid (show (decide ((y.way = 4 ∧ y.want = x.want ∧ liveN y = 0) ∨ y.ver = x.want)) = true by simp [q0])
    clear q0
    go_wp2
    go_ret
    exact ⟨by simp [HF.out], HK.out⟩
  · have e0 : (y.ver == x.want) = false := by simp [q0]
    by_cases q1 : y.way = 4
    · have e1 : (y.way == 4) = true := by simp [q1]
      by_cases q2 : y.want = x.want
      · have e2 : (y.want == x.want) = true := by simp [q2]
        have HF := Lib.hid (show (decide ((y.way = 4 ∧ y.want = x.want ∧ liveN y = 0) ∨ y.ver = x.want)) = decide (liveN y = 0) by simp [q0, q1, q2])
        clear q0 q1 q2
        generalize decide (liveN y = 0) = o at HN HF
        go_wp2_with fail
        refine HN.out.mono ?_
        rintro e w1 ⟨rfl, hk1⟩
        have HK1 := Lib.hid (HK.out.trans hk1)
        clear hk1
        go_wp2
        go_ret
        exact ⟨by simp [HF.out], HK1.out⟩
      · have e2 : (y.want == x.want) = false := by simp [q2]
        have HF := Lib.hid (show (decide ((y.way = 4 ∧ y.want = x.want ∧ liveN y = 0) ∨ y.ver = x.want)) = false by simp [q0, q2])
        clear q0 q1 q2
        go_wp2
        go_ret
        exact ⟨by simp [HF.out], HK.out⟩
    · have e1 : (y.way == 4) = false := by simp [q1]
      have HF := Lib.hid (show (decide ((y.way = 4 ∧ y.want = x.want ∧ liveN y = 0) ∨ y.ver = x.want)) = false by simp [q0, q1])
      clear q0 q1
      go_wp2
      go_ret
      exact ⟨by simp [HF.out], HK.out⟩
set_option maxRecDepth 100000 in
set_option maxHeartbeats 2000000 in
theorem impl_mayFresh (x y : StL) (A1 A2 A3 A4 B1 B2 B3 B4 : Option Addr) (c1 c2 c3 c4 d1 d2 d3 d4 : Nat) (w : World) (hx : StAt w x A1 A2 A3 A4) (hy : StAt w y B1 B2 B3 B4) (ht : Tabs w) (h1 : stB x = true) (h2 : stB y = true) (l1 : x.live.length = x.sent.length) (l2 : y.live.length = y.sent.length) :
    Calls Tryd.prog 90 #[stV x A1 A2 A3 A4 c1 c2 c3 c4, stV y B1 B2 B3 B4 d1 d2 d3 d4] w fun e w' => e = .returned (.bool (mayB x y 7)) ∧ Keeps noBlk w w' := by
  have HX := Lib.hid ((hx.alloc (.cells #[.int .i64 x.way, .int .i64 x.ver, .int .i64 x.want, .slice A1 x.sent.length c1, .slice A2 x.live.length c2, .slice A3 x.back.length c3, .slice A4 x.got.length c4] 31)).alloc (.cells #[.int .i64 y.way, .int .i64 y.ver, .int .i64 y.want, .slice B1 y.sent.length d1, .slice B2 y.live.length d2, .slice B3 y.back.length d3, .slice B4 y.got.length d4] 31))
  have HY := Lib.hid ((hy.alloc (.cells #[.int .i64 x.way, .int .i64 x.ver, .int .i64 x.want, .slice A1 x.sent.length c1, .slice A2 x.live.length c2, .slice A3 x.back.length c3, .slice A4 x.got.length c4] 31)).alloc (.cells #[.int .i64 y.way, .int .i64 y.ver, .int .i64 y.want, .slice B1 y.sent.length d1, .slice B2 y.live.length d2, .slice B3 y.back.length d3, .slice B4 y.got.length d4] 31))
  have HT := Lib.hid (ht.keeps (((Keeps.refl _ _).alloc (.cells #[.int .i64 x.way, .int .i64 x.ver, .int .i64 x.want, .slice A1 x.sent.length c1, .slice A2 x.live.length c2, .slice A3 x.back.length c3, .slice A4 x.got.length c4] 31)).alloc (.cells #[.int .i64 y.way, .int .i64 y.ver, .int .i64 y.want, .slice B1 y.sent.length d1, .slice B2 y.live.length d2, .slice B3 y.back.length d3, .slice B4 y.got.length d4] 31)))
  have HK := Lib.hid (((Keeps.refl noBlk w).alloc (.cells #[.int .i64 x.way, .int .i64 x.ver, .int .i64 x.want, .slice A1 x.sent.length c1, .slice A2 x.live.length c2, .slice A3 x.back.length c3, .slice A4 x.got.length c4] 31)).alloc (.cells #[.int .i64 y.way, .int .i64 y.ver, .int .i64 y.want, .slice B1 y.sent.length d1, .slice B2 y.live.length d2, .slice B3 y.back.length d3, .slice B4 y.got.length d4] 31))
  have HBX := Lib.hid ((Box.new w _ rfl 31 #[.int .i64 x.way, .int .i64 x.ver, .int .i64 x.want, .slice A1 x.sent.length c1, .slice A2 x.live.length c2, .slice A3 x.back.length c3, .slice A4 x.got.length c4]).alloc (.cells #[.int .i64 y.way, .int .i64 y.ver, .int .i64 y.want, .slice B1 y.sent.length d1, .slice B2 y.live.length d2, .slice B3 y.back.length d3, .slice B4 y.got.length d4] 31))
  have HBY := Lib.hid (Box.new (w.alloc (.cells #[.int .i64 x.way, .int .i64 x.ver, .int .i64 x.want, .slice A1 x.sent.length c1, .slice A2 x.live.length c2, .slice A3 x.back.length c3, .slice A4 x.got.length c4] 31)) (w.heap.size + 1) (by simp) 31 #[.int .i64 y.way, .int .i64 y.ver, .int .i64 y.want, .slice B1 y.sent.length d1, .slice B2 y.live.length d2, .slice B3 y.back.length d3, .slice B4 y.got.length d4])
  have HN := Lib.hid (impl_nothingLive x A1 A2 A3 A4 c1 c2 c3 c4 _ HX.out HT.out h1 l1)
  have HFO := Lib.hid (fun W hX hY hT => impl_followed x y A1 A2 A3 A4 B1 B2 B3 B4 c1 c2 c3 c4 d1 d2 d3 d4 W hX hY hT h1 h2 l1 l2)
  clear hx hy ht h1 h2 l1 l2
  have HM := Lib.hid (show mayB x y 7 = (decide (x.way = 4) && (decide (liveN x = 0) && decide ((y.way = 4 ∧ y.want = x.want ∧ liveN y = 0) ∨ y.ver = x.want))) by simp [mayB, Bool.decide_and])
  generalize mayB x y 7 = o at HM
  generalize decide ((y.way = 4 ∧ y.want = x.want ∧ liveN y = 0) ∨ y.ver = x.want) = o2 at HFO HM
  generalize decide (liveN x = 0) = o1 at HN HM
  unfold stV at HN HFO ⊢
  go_enter Tryd.func90, Tryd.ntmps90
  by_cases q0 : x.way = 4
  · have e0 : (x.way == 4) = true := by simp [q0]
    have HF := Lib.hid (show o = (o1 && o2) by rw [HM.out]; simp [q0])
    clear q0 HM
    go_wp2_with fail
    refine HN.out.mono ?_
    rintro e w1 ⟨rfl, hk1⟩
    have HK1 := Lib.hid (HK.out.trans hk1)
    have HX1 := Lib.hid (HX.out.kept hk1)
    have HY1 := Lib.hid (HY.out.kept hk1)
    have HT1 := Lib.hid (HT.out.keeps hk1)
    have hbx := HBX.out.keeps hk1 fun h => h
    have hby := HBY.out.keeps hk1 fun h => h
    have x0 := hbx.cell 0
    have y0 := hby.cell 0
    have x1 := hbx.cell 1
    have y1 := hby.cell 1
    have x2 := hbx.cell 2
    have y2 := hby.cell 2
    have x3 := hbx.cell 3
    have y3 := hby.cell 3
    have x4 := hbx.cell 4
    have y4 := hby.cell 4
    have x5 := hbx.cell 5
    have y5 := hby.cell 5
    have x6 := hbx.cell 6
    have y6 := hby.cell 6
    simp at x0 y0 x1 y1 x2 y2 x3 y3 x4 y4 x5 y5 x6 y6
    have zx := hbx.lt
    have zy := hby.lt
    clear hbx hby hk1
    cases o1 with
    | false =>
      go_wp2
      go_ret
      exact ⟨by simp [HF.out], HK1.out⟩
    | true =>
      go_wp2_with fail
      refine (HFO.out _ HX1.out HY1.out HT1.out).mono ?_
      rintro e w2 ⟨rfl, hk2⟩
      have HK2 := Lib.hid (HK1.out.trans hk2)
      clear hk2
      go_wp2
      go_ret
      exact ⟨by simp [HF.out], HK2.out⟩
  · have e0 : (x.way == 4) = false := by simp [q0]
    have HF := Lib.hid (show o = false by rw [HM.out]; simp [q0])
    clear q0 HM
    go_wp2
    go_ret
    exact ⟨by simp [HF.out], HK.out⟩
set_option maxRecDepth 100000 in
set_option maxHeartbeats 2000000 in
theorem impl_begun (x : StL) (A1 A2 A3 A4 : Option Addr) (c1 c2 c3 c4 : Nat) (w : World) (hv : -100 ≤ x.ver ∧ x.ver ≤ 100) :
    Calls Tryd.prog 81 #[stV x A1 A2 A3 A4 c1 c2 c3 c4] w fun e w' => e = .returned (stV ⟨1, x.ver, x.want, x.sent, x.live, x.back, x.got⟩ A1 A2 A3 A4 c1 c2 c3 c4) ∧ Keeps noBlk w w' := by
  unfold stV
  go_enter Tryd.func81, Tryd.ntmps81
  go_wp2
  refine bodyPost_ret (v := .agg #[.int .i64 (1), .int .i64 (x.ver), .int .i64 (x.want), .slice A1 x.sent.length c1, .slice A2 x.live.length c2, .slice A3 x.back.length c3, .slice A4 x.got.length c4]) (by simp [results, Tryd.results81, go_sem, *]) rfl ⟨rfl, ?_⟩
  first | exact ((Keeps.refl _ _).alloc _).alloc _ | exact (Keeps.refl _ _).alloc _ | exact (((Keeps.refl _ _).alloc _).alloc _).alloc _
set_option maxRecDepth 100000 in
set_option maxHeartbeats 2000000 in
theorem impl_tried (x : StL) (A1 A2 A3 A4 : Option Addr) (c1 c2 c3 c4 : Nat) (w : World) (hv : -100 ≤ x.ver ∧ x.ver ≤ 100) :
    Calls Tryd.prog 83 #[stV x A1 A2 A3 A4 c1 c2 c3 c4] w fun e w' => e = .returned (stV ⟨2, x.ver, x.want, x.sent, x.live, x.back, x.got⟩ A1 A2 A3 A4 c1 c2 c3 c4) ∧ Keeps noBlk w w' := by
  unfold stV
  go_enter Tryd.func83, Tryd.ntmps83
  go_wp2
  refine bodyPost_ret (v := .agg #[.int .i64 (2), .int .i64 (x.ver), .int .i64 (x.want), .slice A1 x.sent.length c1, .slice A2 x.live.length c2, .slice A3 x.back.length c3, .slice A4 x.got.length c4]) (by simp [results, Tryd.results83, go_sem, *]) rfl ⟨rfl, ?_⟩
  first | exact ((Keeps.refl _ _).alloc _).alloc _ | exact (Keeps.refl _ _).alloc _ | exact (((Keeps.refl _ _).alloc _).alloc _).alloc _
set_option maxRecDepth 100000 in
set_option maxHeartbeats 2000000 in
theorem impl_opened (x : StL) (A1 A2 A3 A4 : Option Addr) (c1 c2 c3 c4 : Nat) (w : World) (hv : -100 ≤ x.ver ∧ x.ver ≤ 100) :
    Calls Tryd.prog 85 #[stV x A1 A2 A3 A4 c1 c2 c3 c4] w fun e w' => e = .returned (stV ⟨3, x.ver, x.want, x.sent, x.live, x.back, x.got⟩ A1 A2 A3 A4 c1 c2 c3 c4) ∧ Keeps noBlk w w' := by
  unfold stV
  go_enter Tryd.func85, Tryd.ntmps85
  go_wp2
  refine bodyPost_ret (v := .agg #[.int .i64 (3), .int .i64 (x.ver), .int .i64 (x.want), .slice A1 x.sent.length c1, .slice A2 x.live.length c2, .slice A3 x.back.length c3, .slice A4 x.got.length c4]) (by simp [results, Tryd.results85, go_sem, *]) rfl ⟨rfl, ?_⟩
  first | exact ((Keeps.refl _ _).alloc _).alloc _ | exact (Keeps.refl _ _).alloc _ | exact (((Keeps.refl _ _).alloc _).alloc _).alloc _
set_option maxRecDepth 100000 in
set_option maxHeartbeats 2000000 in
theorem impl_flushing (x : StL) (A1 A2 A3 A4 : Option Addr) (c1 c2 c3 c4 : Nat) (w : World) (hv : -100 ≤ x.ver ∧ x.ver ≤ 100) :
    Calls Tryd.prog 88 #[stV x A1 A2 A3 A4 c1 c2 c3 c4] w fun e w' => e = .returned (stV ⟨4, x.ver, x.ver + 1, x.sent, x.live, x.back, x.got⟩ A1 A2 A3 A4 c1 c2 c3 c4) ∧ Keeps noBlk w w' := by
  unfold stV
  go_enter Tryd.func88, Tryd.ntmps88
  go_wp2
  refine bodyPost_ret (v := .agg #[.int .i64 (4), .int .i64 (x.ver), .int .i64 (x.ver + 1), .slice A1 x.sent.length c1, .slice A2 x.live.length c2, .slice A3 x.back.length c3, .slice A4 x.got.length c4]) (by simp [results, Tryd.results88, go_sem, *]) rfl ⟨rfl, ?_⟩
  first | exact ((Keeps.refl _ _).alloc _).alloc _ | exact (Keeps.refl _ _).alloc _ | exact (((Keeps.refl _ _).alloc _).alloc _).alloc _
set_option maxRecDepth 100000 in
set_option maxHeartbeats 2000000 in
theorem impl_renewed (x : StL) (A1 A2 A3 A4 : Option Addr) (c1 c2 c3 c4 : Nat) (w : World) (hv : -100 ≤ x.ver ∧ x.ver ≤ 100) :
    Calls Tryd.prog 91 #[stV x A1 A2 A3 A4 c1 c2 c3 c4] w fun e w' => e = .returned (stV ⟨3, x.want, 0, x.sent, x.live, x.back, x.got⟩ A1 A2 A3 A4 c1 c2 c3 c4) ∧ Keeps noBlk w w' := by
  unfold stV
  go_enter Tryd.func91, Tryd.ntmps91
  go_wp2
  refine bodyPost_ret (v := .agg #[.int .i64 (3), .int .i64 (x.want), .int .i64 (0), .slice A1 x.sent.length c1, .slice A2 x.live.length c2, .slice A3 x.back.length c3, .slice A4 x.got.length c4]) (by simp [results, Tryd.results91, go_sem, *]) rfl ⟨rfl, ?_⟩
  first | exact ((Keeps.refl _ _).alloc _).alloc _ | exact (Keeps.refl _ _).alloc _ | exact (((Keeps.refl _ _).alloc _).alloc _).alloc _
set_option maxRecDepth 100000 in
set_option maxHeartbeats 2000000 in
theorem impl_stepAt_1 (w : World) : Calls Tryd.prog 52 #[.int .i64 1] w fun e w' => e = .returned (.tuple #[.agg #[.func (.func 80) #[] #[], .func (.func 81) #[] #[]], .bool true]) ∧ Keeps noBlk w w' := by
  go_enter Tryd.func52, Tryd.ntmps52
  go_wp2
  refine bodyPost_ret (v := .tuple #[.agg #[.func (.func 80) #[] #[], .func (.func 81) #[] #[]], .bool true]) (by simp [results, Tryd.results52, go_sem, *]) rfl ⟨rfl, ?_⟩
  first | exact ((Keeps.refl _ _).alloc _).alloc _ | exact (Keeps.refl _ _).alloc _ | exact (((Keeps.refl _ _).alloc _).alloc _).alloc _
set_option maxRecDepth 100000 in
set_option maxHeartbeats 2000000 in
theorem impl_stepAt_2 (w : World) : Calls Tryd.prog 52 #[.int .i64 2] w fun e w' => e = .returned (.tuple #[.agg #[.func (.func 82) #[] #[], .func (.func 83) #[] #[]], .bool true]) ∧ Keeps noBlk w w' := by
  go_enter Tryd.func52, Tryd.ntmps52
  go_wp2
  refine bodyPost_ret (v := .tuple #[.agg #[.func (.func 82) #[] #[], .func (.func 83) #[] #[]], .bool true]) (by simp [results, Tryd.results52, go_sem, *]) rfl ⟨rfl, ?_⟩
  first | exact ((Keeps.refl _ _).alloc _).alloc _ | exact (Keeps.refl _ _).alloc _ | exact (((Keeps.refl _ _).alloc _).alloc _).alloc _
set_option maxRecDepth 100000 in
set_option maxHeartbeats 2000000 in
theorem impl_stepAt_3 (w : World) : Calls Tryd.prog 52 #[.int .i64 3] w fun e w' => e = .returned (.tuple #[.agg #[.func (.func 84) #[] #[], .func (.func 85) #[] #[]], .bool true]) ∧ Keeps noBlk w w' := by
  go_enter Tryd.func52, Tryd.ntmps52
  go_wp2
  refine bodyPost_ret (v := .tuple #[.agg #[.func (.func 84) #[] #[], .func (.func 85) #[] #[]], .bool true]) (by simp [results, Tryd.results52, go_sem, *]) rfl ⟨rfl, ?_⟩
  first | exact ((Keeps.refl _ _).alloc _).alloc _ | exact (Keeps.refl _ _).alloc _ | exact (((Keeps.refl _ _).alloc _).alloc _).alloc _
set_option maxRecDepth 100000 in
set_option maxHeartbeats 2000000 in
theorem impl_stepAt_4 (w : World) : Calls Tryd.prog 52 #[.int .i64 4] w fun e w' => e = .returned (.tuple #[.agg #[.func (.func 86) #[] #[], .func (.func 85) #[] #[]], .bool true]) ∧ Keeps noBlk w w' := by
  go_enter Tryd.func52, Tryd.ntmps52
  go_wp2
  refine bodyPost_ret (v := .tuple #[.agg #[.func (.func 86) #[] #[], .func (.func 85) #[] #[]], .bool true]) (by simp [results, Tryd.results52, go_sem, *]) rfl ⟨rfl, ?_⟩
  first | exact ((Keeps.refl _ _).alloc _).alloc _ | exact (Keeps.refl _ _).alloc _ | exact (((Keeps.refl _ _).alloc _).alloc _).alloc _
set_option maxRecDepth 100000 in
set_option maxHeartbeats 2000000 in
theorem impl_stepAt_5 (w : World) : Calls Tryd.prog 52 #[.int .i64 5] w fun e w' => e = .returned (.tuple #[.agg #[.func (.func 87) #[] #[], .func (.func 88) #[] #[]], .bool true]) ∧ Keeps noBlk w w' := by
  go_enter Tryd.func52, Tryd.ntmps52
  go_wp2
  refine bodyPost_ret (v := .tuple #[.agg #[.func (.func 87) #[] #[], .func (.func 88) #[] #[]], .bool true]) (by simp [results, Tryd.results52, go_sem, *]) rfl ⟨rfl, ?_⟩
  first | exact ((Keeps.refl _ _).alloc _).alloc _ | exact (Keeps.refl _ _).alloc _ | exact (((Keeps.refl _ _).alloc _).alloc _).alloc _
set_option maxRecDepth 100000 in
set_option maxHeartbeats 2000000 in
theorem impl_stepAt_6 (w : World) : Calls Tryd.prog 52 #[.int .i64 6] w fun e w' => e = .returned (.tuple #[.agg #[.func (.func 89) #[] #[], .func (.func 88) #[] #[]], .bool true]) ∧ Keeps noBlk w w' := by
  go_enter Tryd.func52, Tryd.ntmps52
  go_wp2
  refine bodyPost_ret (v := .tuple #[.agg #[.func (.func 89) #[] #[], .func (.func 88) #[] #[]], .bool true]) (by simp [results, Tryd.results52, go_sem, *]) rfl ⟨rfl, ?_⟩
  first | exact ((Keeps.refl _ _).alloc _).alloc _ | exact (Keeps.refl _ _).alloc _ | exact (((Keeps.refl _ _).alloc _).alloc _).alloc _
set_option maxRecDepth 100000 in
set_option maxHeartbeats 2000000 in
theorem impl_stepAt_7 (w : World) : Calls Tryd.prog 52 #[.int .i64 7] w fun e w' => e = .returned (.tuple #[.agg #[.func (.func 90) #[] #[], .func (.func 91) #[] #[]], .bool true]) ∧ Keeps noBlk w w' := by
  go_enter Tryd.func52, Tryd.ntmps52
  go_wp2
  refine bodyPost_ret (v := .tuple #[.agg #[.func (.func 90) #[] #[], .func (.func 91) #[] #[]], .bool true]) (by simp [results, Tryd.results52, go_sem, *]) rfl ⟨rfl, ?_⟩
  first | exact ((Keeps.refl _ _).alloc _).alloc _ | exact (Keeps.refl _ _).alloc _ | exact (((Keeps.refl _ _).alloc _).alloc _).alloc _
set_option maxRecDepth 100000 in
set_option maxHeartbeats 2000000 in
theorem impl_stepAt_no (k : Int) (hn : k < 1 ∨ 7 < k) (w : World) : Calls Tryd.prog 52 #[.int .i64 k] w fun e w' => e = .returned (.tuple #[.agg #[.nilFunc, .nilFunc], .bool false]) ∧ Keeps noBlk w w' := by
  go_enter Tryd.func52, Tryd.ntmps52
  rcases hn with h | h
  · have e1 : decide (k < 1) = true := by simp; omega
    clear h
    go_wp2
    refine bodyPost_ret (v := .tuple #[.agg #[.nilFunc, .nilFunc], .bool false]) (by simp [results, Tryd.results52, go_sem, *]) rfl ⟨rfl, ?_⟩
    first | exact ((Keeps.refl _ _).alloc _).alloc _ | exact (Keeps.refl _ _).alloc _ | exact (((Keeps.refl _ _).alloc _).alloc _).alloc _ | exact Keeps.refl _ _
  · have e1 : decide (k < 1) = false := by simp; omega
    have e2 : decide (7 < k) = true := by simp; omega
    clear h
    go_wp2
    refine bodyPost_ret (v := .tuple #[.agg #[.nilFunc, .nilFunc], .bool false]) (by simp [results, Tryd.results52, go_sem, *]) rfl ⟨rfl, ?_⟩
    first | exact ((Keeps.refl _ _).alloc _).alloc _ | exact (Keeps.refl _ _).alloc _ | exact (((Keeps.refl _ _).alloc _).alloc _).alloc _ | exact Keeps.refl _ _
end Go.Proofs.YtifocngajndnnaaDoor
