/- BankAway and BankBack of the model. -/
import Derived.Test.YtedmkbiamjpdaabSTurn
set_option linter.unusedVariables false
set_option linter.unusedSimpArgs false
namespace Go.Proofs.Ytedmkbiamjpdaab
open Go.RowKit

set_option maxHeartbeats 1000000 in
theorem l1Away_big_1 (A1 A2 : Option Addr) (c1 c2 lo : Nat) (L : Int) (xs ys : List Int) (w : World) (hr1 : Row w lo A1 3 xs) (hr2 : Row w lo A2 3 ys) (hd : ∀ i, blk A1 3 i → ¬ blk A2 3 i)
    (u : Nat) (sm : Int) (q1 : okB ⟨xs, ys, L⟩ = true) (q3 : userB ((u : Int) + 1) = true) (hs0 : 0 ≤ sm) (q6 : xs.getD u 0 < sm) :
    Calls Try.prog 36 #[.agg #[.slice A1 3 c1, .slice A2 3 c2, .int .i64 L], .int .i64 1, .int .i64 ((u : Int) + 1), .int .i64 sm] w (RetTurn w lo A1 A2 c1 c2 ⟨xs, ys, L⟩ false) := by
  have hu := user_range q3
  have hun : (u : Int) < 3 := by omega
  have hx : 0 ≤ xs.getD u 0 ∧ xs.getD u 0 ≤ 30 := by simpa [has, lst, ix] using has_bounds q1 1 ((u : Int) + 1)
  have hLb := locked_bounds q1
  dsimp only at hLb
  obtain ⟨g, og, e1, hgl, hg, hc, hf⟩ := hr1.at_ (k := u) (by omega)
  subst e1
  have d6 : decide (xs.getD u 0 < sm) = true := by simpa using q6
  have hg1 : g < w.heap.size + 1 := by omega
  have hg2 : g < w.heap.size + 1 + 1 := by omega
  have HR1 := Lib.hid hr1
  have HR2 := Lib.hid hr2
  have HD := Lib.hid hd
  clear hr1 hr2 hd
  generalize xs.getD u 0 = x at *
  go_enter Try.func36, Try.ntmps36
  go_wp2_with fail
  refine (l1List_own _ _ 3 3 _ _ L _).mono ?_
  rintro e w' ⟨rfl, rfl⟩
  go_wp2
  refine bodyPost_ret (v := .tuple #[.agg #[.slice (some ⟨g, og, none⟩) 3 c1, .slice A2 3 c2, .int .i64 (L)], .bool false]) (by simp [results, Try.results36, go_sem]) rfl ?_
  exact ⟨rfl, ((HR1.out.alloc _).alloc _).alloc _, ((HR2.out.alloc _).alloc _).alloc _, (((Keeps.refl _ _).alloc _).alloc _).alloc _⟩

set_option maxHeartbeats 1000000 in
theorem l1Away_big_2 (A1 A2 : Option Addr) (c1 c2 lo : Nat) (L : Int) (xs ys : List Int) (w : World) (hr1 : Row w lo A1 3 xs) (hr2 : Row w lo A2 3 ys) (hd : ∀ i, blk A1 3 i → ¬ blk A2 3 i)
    (u : Nat) (sm : Int) (q1 : okB ⟨xs, ys, L⟩ = true) (q3 : userB ((u : Int) + 1) = true) (hs0 : 0 ≤ sm) (q6 : ys.getD u 0 < sm) :
    Calls Try.prog 36 #[.agg #[.slice A1 3 c1, .slice A2 3 c2, .int .i64 L], .int .i64 2, .int .i64 ((u : Int) + 1), .int .i64 sm] w (RetTurn w lo A1 A2 c1 c2 ⟨xs, ys, L⟩ false) := by
  have hu := user_range q3
  have hun : (u : Int) < 3 := by omega
  have hx : 0 ≤ ys.getD u 0 ∧ ys.getD u 0 ≤ 30 := by simpa [has, lst, ix] using has_bounds q1 2 ((u : Int) + 1)
  have hLb := locked_bounds q1
  dsimp only at hLb
  obtain ⟨g, og, e1, hgl, hg, hc, hf⟩ := hr2.at_ (k := u) (by omega)
  subst e1
  have d6 : decide (ys.getD u 0 < sm) = true := by simpa using q6
  have hg1 : g < w.heap.size + 1 := by omega
  have hg2 : g < w.heap.size + 1 + 1 := by omega
  have HR1 := Lib.hid hr1
  have HR2 := Lib.hid hr2
  have HD := Lib.hid hd
  clear hr1 hr2 hd
  generalize ys.getD u 0 = x at *
  go_enter Try.func36, Try.ntmps36
  go_wp2_with fail
  refine (l1List_note _ _ 3 3 _ _ L _).mono ?_
  rintro e w' ⟨rfl, rfl⟩
  go_wp2
  refine bodyPost_ret (v := .tuple #[.agg #[.slice A1 3 c1, .slice (some ⟨g, og, none⟩) 3 c2, .int .i64 (L)], .bool false]) (by simp [results, Try.results36, go_sem]) rfl ?_
  exact ⟨rfl, ((HR1.out.alloc _).alloc _).alloc _, ((HR2.out.alloc _).alloc _).alloc _, (((Keeps.refl _ _).alloc _).alloc _).alloc _⟩

theorem l1Away_all (A1 A2 : Option Addr) (c1 c2 lo : Nat) (L : Int) (xs ys : List Int) (w : World) (hr1 : Row w lo A1 3 xs) (hr2 : Row w lo A2 3 ys) (hd : ∀ i, blk A1 3 i → ¬ blk A2 3 i)
    (kd f sm : Int) (q1 : okB ⟨xs, ys, L⟩ = true) (q2 : kindB kd = true) (q3 : userB f = true) (hs0 : 0 ≤ sm) :
    Calls Try.prog 36 #[.agg #[.slice A1 3 c1, .slice A2 3 c2, .int .i64 L], .int .i64 kd, .int .i64 f, .int .i64 sm] w (RetTurn w lo A1 A2 c1 c2 (turnA ⟨xs, ys, L⟩ kd f sm) (decide (sm ≤ has ⟨xs, ys, L⟩ kd f))) := by
  by_cases hs1 : sm ≤ 1000
  · exact l1Away_any A1 A2 c1 c2 lo L xs ys w hr1 hr2 hd kd f sm q1 q2 q3 hs0 hs1
  · have h : ¬ sm ≤ has ⟨xs, ys, L⟩ kd f := by have := has_bounds q1 kd f; omega
    obtain ⟨u, rfl⟩ := nat_of_user q3
    rw [turnA, if_neg h, decide_eq_false h]
    rcases kind_cases q2 with rfl | rfl
    · exact l1Away_big_1 A1 A2 c1 c2 lo L xs ys w hr1 hr2 hd u sm q1 q3 hs0 (by simpa [has, lst, ix] using h)
    · exact l1Away_big_2 A1 A2 c1 c2 lo L xs ys w hr1 hr2 hd u sm q1 q3 hs0 (by simpa [has, lst, ix] using h)

def sumB (s : Int) : Bool := decide (0 ≤ s) && decide (s ≤ 30)
theorem l6In_sum (x : Int) (w : World) : Calls Try.prog 15 #[.int .i64 x, .int .i64 0, .int .i64 30] w fun e w' => e = .returned (.bool (sumB x)) ∧ w = w' := l6In_bk x 0 30 w

set_option maxHeartbeats 1000000 in
theorem specBack_f1 (A1 A2 : Option Addr) (n1 n2 c1 c2 : Nat) (L : Int) (xs ys : List Int) (w : World) (ha1 : Ints w A1 n1 xs) (ha2 : Ints w A2 n2 ys)
    (h1 : n1 ≤ maxLen) (h2 : n2 ≤ maxLen) (hL : L ≤ 9223372036854775807) (kd fr sm : Int) (q1 : okB ⟨xs, ys, L⟩ = false) :
    Calls Try.prog 6 #[.agg #[.slice A1 n1 c1, .slice A2 n2 c2, .int .i64 L], .int .i64 kd, .int .i64 fr, .int .i64 sm] w (RetNo w) := by
  have HA1 := Lib.hid ha1
  have HA2 := Lib.hid ha2
  clear ha1 ha2
  go_enter Try.func6, Try.ntmps6
  go_wp2_with fail
  refine (specOk_any A1 A2 n1 n2 _ _ L xs ys _ ((HA1.out.alloc _).alloc _) ((HA2.out.alloc _).alloc _) h1 h2 hL).mono ?_
  rintro e w1 ⟨rfl, hk1⟩
  have hb5 := ((Box.new w _ rfl 25 #[.slice A1 n1 c1, .slice A2 n2 c2, .int .i64 L]).alloc (.cells #[.slice none 0 0, .slice none 0 0, .int .i64 0] 25)).keeps hk1 fun h => h
  have hb6 := (Box.new (w.alloc (.cells #[.slice A1 n1 c1, .slice A2 n2 c2, .int .i64 L] 25)) (w.heap.size + 1) (by simp) 25 #[.slice none 0 0, .slice none 0 0, .int .i64 0]).keeps hk1 fun h => h
  have a0 := hb5.cell 0
  have a1 := hb5.cell 1
  have a2 := hb5.cell 2
  have r0 := hb6.cell 0
  have r1 := hb6.cell 1
  have r2 := hb6.cell 2
  have f0 := hb6.frozen 0
  have f1 := hb6.frozen 1
  have f2 := hb6.frozen 2
  simp at a0 a1 a2 r0 r1 r2
  have hz : w.heap.size + 1 < w1.heap.size := hb6.lt
  have hz0 : w.heap.size < w1.heap.size := by omega
  have HB5 := Lib.hid hb5
  have HB6 := Lib.hid hb6
  have HK1 := Lib.hid hk1
  clear hb5 hb6 hk1
  go_wp2
  refine bodyPost_ret (v := .tuple #[noBank, .bool false]) (by simp [results, Try.results6, go_sem, noBank, r0, r1, r2, hz]) rfl ?_
  exact ⟨rfl, (((((((Keeps.refl _ w).alloc _).alloc _).trans HK1.out).new (by omega) _ _).new (by omega) _ _).new (by omega) _ _)⟩

set_option maxHeartbeats 1000000 in
theorem specBack_f2 (A1 A2 : Option Addr) (n1 n2 c1 c2 : Nat) (L : Int) (xs ys : List Int) (w : World) (ha1 : Ints w A1 n1 xs) (ha2 : Ints w A2 n2 ys)
    (h1 : n1 ≤ maxLen) (h2 : n2 ≤ maxLen) (hL : L ≤ 9223372036854775807) (kd fr sm : Int) (q1 : okB ⟨xs, ys, L⟩ = true) (q2 : kindB kd = false) :
    Calls Try.prog 6 #[.agg #[.slice A1 n1 c1, .slice A2 n2 c2, .int .i64 L], .int .i64 kd, .int .i64 fr, .int .i64 sm] w (RetNo w) := by
  have HA1 := Lib.hid ha1
  have HA2 := Lib.hid ha2
  clear ha1 ha2
  go_enter Try.func6, Try.ntmps6
  go_wp2_with fail
  refine (specOk_any A1 A2 n1 n2 _ _ L xs ys _ ((HA1.out.alloc _).alloc _) ((HA2.out.alloc _).alloc _) h1 h2 hL).mono ?_
  rintro e w1 ⟨rfl, hk1⟩
  have hb5 := ((Box.new w _ rfl 25 #[.slice A1 n1 c1, .slice A2 n2 c2, .int .i64 L]).alloc (.cells #[.slice none 0 0, .slice none 0 0, .int .i64 0] 25)).keeps hk1 fun h => h
  have hb6 := (Box.new (w.alloc (.cells #[.slice A1 n1 c1, .slice A2 n2 c2, .int .i64 L] 25)) (w.heap.size + 1) (by simp) 25 #[.slice none 0 0, .slice none 0 0, .int .i64 0]).keeps hk1 fun h => h
  have a0 := hb5.cell 0
  have a1 := hb5.cell 1
  have a2 := hb5.cell 2
  have r0 := hb6.cell 0
  have r1 := hb6.cell 1
  have r2 := hb6.cell 2
  have f0 := hb6.frozen 0
  have f1 := hb6.frozen 1
  have f2 := hb6.frozen 2
  simp at a0 a1 a2 r0 r1 r2
  have hz : w.heap.size + 1 < w1.heap.size := hb6.lt
  have hz0 : w.heap.size < w1.heap.size := by omega
  have HB5 := Lib.hid hb5
  have HB6 := Lib.hid hb6
  have HK1 := Lib.hid hk1
  clear hb5 hb6 hk1
  go_wp2_with fail
  refine (l6In_kind kd _).mono ?_
  rintro e w' ⟨rfl, rfl⟩
  go_wp2
  refine bodyPost_ret (v := .tuple #[noBank, .bool false]) (by simp [results, Try.results6, go_sem, noBank, r0, r1, r2, hz]) rfl ?_
  exact ⟨rfl, (((((((Keeps.refl _ w).alloc _).alloc _).trans HK1.out).new (by omega) _ _).new (by omega) _ _).new (by omega) _ _)⟩

set_option maxHeartbeats 1000000 in
theorem specBack_f3 (A1 A2 : Option Addr) (n1 n2 c1 c2 : Nat) (L : Int) (xs ys : List Int) (w : World) (ha1 : Ints w A1 n1 xs) (ha2 : Ints w A2 n2 ys)
    (h1 : n1 ≤ maxLen) (h2 : n2 ≤ maxLen) (hL : L ≤ 9223372036854775807) (kd fr sm : Int) (q1 : okB ⟨xs, ys, L⟩ = true) (q2 : kindB kd = true) (q3 : userB fr = false) :
    Calls Try.prog 6 #[.agg #[.slice A1 n1 c1, .slice A2 n2 c2, .int .i64 L], .int .i64 kd, .int .i64 fr, .int .i64 sm] w (RetNo w) := by
  have HA1 := Lib.hid ha1
  have HA2 := Lib.hid ha2
  clear ha1 ha2
  go_enter Try.func6, Try.ntmps6
  go_wp2_with fail
  refine (specOk_any A1 A2 n1 n2 _ _ L xs ys _ ((HA1.out.alloc _).alloc _) ((HA2.out.alloc _).alloc _) h1 h2 hL).mono ?_
  rintro e w1 ⟨rfl, hk1⟩
  have hb5 := ((Box.new w _ rfl 25 #[.slice A1 n1 c1, .slice A2 n2 c2, .int .i64 L]).alloc (.cells #[.slice none 0 0, .slice none 0 0, .int .i64 0] 25)).keeps hk1 fun h => h
  have hb6 := (Box.new (w.alloc (.cells #[.slice A1 n1 c1, .slice A2 n2 c2, .int .i64 L] 25)) (w.heap.size + 1) (by simp) 25 #[.slice none 0 0, .slice none 0 0, .int .i64 0]).keeps hk1 fun h => h
  have a0 := hb5.cell 0
  have a1 := hb5.cell 1
  have a2 := hb5.cell 2
  have r0 := hb6.cell 0
  have r1 := hb6.cell 1
  have r2 := hb6.cell 2
  have f0 := hb6.frozen 0
  have f1 := hb6.frozen 1
  have f2 := hb6.frozen 2
  simp at a0 a1 a2 r0 r1 r2
  have hz : w.heap.size + 1 < w1.heap.size := hb6.lt
  have hz0 : w.heap.size < w1.heap.size := by omega
  have HB5 := Lib.hid hb5
  have HB6 := Lib.hid hb6
  have HK1 := Lib.hid hk1
  clear hb5 hb6 hk1
  go_wp2_with fail
  refine (l6In_kind kd _).mono ?_
  rintro e w' ⟨rfl, rfl⟩
  go_wp2_with fail
  refine (l1User_bk fr _).mono ?_
  rintro e w' ⟨rfl, rfl⟩
  go_wp2
  refine bodyPost_ret (v := .tuple #[noBank, .bool false]) (by simp [results, Try.results6, go_sem, noBank, r0, r1, r2, hz]) rfl ?_
  exact ⟨rfl, (((((((Keeps.refl _ w).alloc _).alloc _).trans HK1.out).new (by omega) _ _).new (by omega) _ _).new (by omega) _ _)⟩

set_option maxHeartbeats 1000000 in
theorem specBack_f4 (A1 A2 : Option Addr) (n1 n2 c1 c2 : Nat) (L : Int) (xs ys : List Int) (w : World) (ha1 : Ints w A1 n1 xs) (ha2 : Ints w A2 n2 ys)
    (h1 : n1 ≤ maxLen) (h2 : n2 ≤ maxLen) (hL : L ≤ 9223372036854775807) (kd fr sm : Int) (q1 : okB ⟨xs, ys, L⟩ = true) (q2 : kindB kd = true) (q3 : userB fr = true) (q5 : sumB sm = false) :
    Calls Try.prog 6 #[.agg #[.slice A1 n1 c1, .slice A2 n2 c2, .int .i64 L], .int .i64 kd, .int .i64 fr, .int .i64 sm] w (RetNo w) := by
  have HA1 := Lib.hid ha1
  have HA2 := Lib.hid ha2
  clear ha1 ha2
  go_enter Try.func6, Try.ntmps6
  go_wp2_with fail
  refine (specOk_any A1 A2 n1 n2 _ _ L xs ys _ ((HA1.out.alloc _).alloc _) ((HA2.out.alloc _).alloc _) h1 h2 hL).mono ?_
  rintro e w1 ⟨rfl, hk1⟩
  have hb5 := ((Box.new w _ rfl 25 #[.slice A1 n1 c1, .slice A2 n2 c2, .int .i64 L]).alloc (.cells #[.slice none 0 0, .slice none 0 0, .int .i64 0] 25)).keeps hk1 fun h => h
  have hb6 := (Box.new (w.alloc (.cells #[.slice A1 n1 c1, .slice A2 n2 c2, .int .i64 L] 25)) (w.heap.size + 1) (by simp) 25 #[.slice none 0 0, .slice none 0 0, .int .i64 0]).keeps hk1 fun h => h
  have a0 := hb5.cell 0
  have a1 := hb5.cell 1
  have a2 := hb5.cell 2
  have r0 := hb6.cell 0
  have r1 := hb6.cell 1
  have r2 := hb6.cell 2
  have f0 := hb6.frozen 0
  have f1 := hb6.frozen 1
  have f2 := hb6.frozen 2
  simp at a0 a1 a2 r0 r1 r2
  have hz : w.heap.size + 1 < w1.heap.size := hb6.lt
  have hz0 : w.heap.size < w1.heap.size := by omega
  have HB5 := Lib.hid hb5
  have HB6 := Lib.hid hb6
  have HK1 := Lib.hid hk1
  clear hb5 hb6 hk1
  go_wp2_with fail
  refine (l6In_kind kd _).mono ?_
  rintro e w' ⟨rfl, rfl⟩
  go_wp2_with fail
  refine (l1User_bk fr _).mono ?_
  rintro e w' ⟨rfl, rfl⟩
  go_wp2_with fail
  refine (l6In_sum sm _).mono ?_
  rintro e w' ⟨rfl, rfl⟩
  go_wp2
  refine bodyPost_ret (v := .tuple #[noBank, .bool false]) (by simp [results, Try.results6, go_sem, noBank, r0, r1, r2, hz]) rfl ?_
  exact ⟨rfl, (((((((Keeps.refl _ w).alloc _).alloc _).trans HK1.out).new (by omega) _ _).new (by omega) _ _).new (by omega) _ _)⟩

set_option maxHeartbeats 1000000 in
theorem specBack_yes (A1 A2 : Option Addr) (c1 c2 : Nat) (L : Int) (xs ys : List Int) (w : World) (ha1 : Ints w A1 3 xs) (ha2 : Ints w A2 3 ys)
    (h1 : 3 ≤ maxLen) (h2 : 3 ≤ maxLen) (hL : L ≤ 9223372036854775807) (kd fr sm : Int) (q1 : okB ⟨xs, ys, L⟩ = true) (q2 : kindB kd = true) (q3 : userB fr = true) (q5 : sumB sm = true) (hs0 : 0 ≤ sm) (hs1 : sm ≤ 1000) (bb : BankL) (hbb : turnB ⟨xs, ys, L⟩ kd fr sm = bb) (hdec : decide (sm ≤ room ⟨xs, ys, L⟩ kd) = true) :
    Calls Try.prog 6 #[.agg #[.slice A1 3 c1, .slice A2 3 c2, .int .i64 L], .int .i64 kd, .int .i64 fr, .int .i64 sm] w (RetYes w bb) := by
  have hl1 : xs.length = 3 := lst_len q1 1
  have hl2 : ys.length = 3 := lst_len q1 2
  have HDEC := Lib.hid hdec
  have HBB := Lib.hid hbb
  clear hdec hbb
  have HA1 := Lib.hid ha1
  have HA2 := Lib.hid ha2
  clear ha1 ha2
  go_enter Try.func6, Try.ntmps6
  go_wp2_with fail
  refine (specOk_any A1 A2 3 3 _ _ L xs ys _ ((HA1.out.alloc _).alloc _) ((HA2.out.alloc _).alloc _) h1 h2 hL).mono ?_
  rintro e w1 ⟨rfl, hk1⟩
  have hb5 := ((Box.new w _ rfl 25 #[.slice A1 3 c1, .slice A2 3 c2, .int .i64 L]).alloc (.cells #[.slice none 0 0, .slice none 0 0, .int .i64 0] 25)).keeps hk1 fun h => h
  have hb6 := (Box.new (w.alloc (.cells #[.slice A1 3 c1, .slice A2 3 c2, .int .i64 L] 25)) (w.heap.size + 1) (by simp) 25 #[.slice none 0 0, .slice none 0 0, .int .i64 0]).keeps hk1 fun h => h
  have a0 := hb5.cell 0
  have a1 := hb5.cell 1
  have a2 := hb5.cell 2
  have r0 := hb6.cell 0
  have r1 := hb6.cell 1
  have r2 := hb6.cell 2
  have f0 := hb6.frozen 0
  have f1 := hb6.frozen 1
  have f2 := hb6.frozen 2
  simp at a0 a1 a2 r0 r1 r2
  have hz : w.heap.size + 1 < w1.heap.size := hb6.lt
  have hz0 : w.heap.size < w1.heap.size := by omega
  have HB5 := Lib.hid hb5
  have HB6 := Lib.hid hb6
  have HK1 := Lib.hid hk1
  clear hb5 hb6 hk1
  go_wp2_with fail
  refine (l6In_kind kd _).mono ?_
  rintro e w' ⟨rfl, rfl⟩
  go_wp2_with fail
  refine (l1User_bk fr _).mono ?_
  rintro e w' ⟨rfl, rfl⟩
  go_wp2_with fail
  refine (l6In_sum sm _).mono ?_
  rintro e w' ⟨rfl, rfl⟩
  go_wp2_with fail
  refine (l1Copy_any _ _ 3 3 _ _ L xs ys _ (((HA1.out.alloc _).alloc _).keeps HK1.out fun _ _ h => h) (((HA2.out.alloc _).alloc _).keeps HK1.out fun _ _ h => h) (by omega) (by omega) (by omega) (by omega)).mono ?_
  rintro e w2 ⟨_, rfl, ⟨B1, m1, d1, B2, m2, d2, rfl, hr1, hr2, hd, hd1, hd2, hm1, hm2⟩, hk2⟩
  obtain rfl : 3 = m1 := hl1.symm.trans hr1.1.1
  obtain rfl : 3 = m2 := hl2.symm.trans hr2.1.1
  dsimp only at hr1 hr2
  have lt1 : ∀ i, blk B1 3 i → w1.heap.size ≤ i := fun i hi => hr1.ge hi
  have lt2 : ∀ i, blk B2 3 i → w1.heap.size ≤ i := fun i hi => hr2.ge hi
  have hT := l1Back_any B1 B2 d1 d2 _ L xs ys w2 hr1 hr2 hd kd fr sm q1 q2 q3 hs0 hs1
  rw [HDEC.out, HBB.out] at hT
  have HT := Lib.hid hT
  have HK2 := Lib.hid hk2
  have HD := Lib.hid hd
  clear hT hk2 hr1 hr2 hd
  go_wp2_with fail
  refine HT.out.mono ?_
  rintro e w3 ⟨rfl, hr1, hr2, hk3⟩
  have hb6 := (HB6.out.keeps HK2.out fun h => h).keeps hk3 fun h => by rcases h with h | h; (have := lt1 _ h; omega); (have := lt2 _ h; omega)
  have r0 := hb6.cell 0
  have r1 := hb6.cell 1
  have r2 := hb6.cell 2
  have f0 := hb6.frozen 0
  have f1 := hb6.frozen 1
  have f2 := hb6.frozen 2
  simp at r0 r1 r2
  have hz3 : w.heap.size + 1 < w3.heap.size := hb6.lt
  have hz4 : w.heap.size < w3.heap.size := by omega
  have hK := ((((Keeps.refl noBlk w).alloc (.cells #[.slice A1 3 c1, .slice A2 3 c2, .int .i64 L] 25)).alloc (.cells #[.slice none 0 0, .slice none 0 0, .int .i64 0] 25)).trans HK1.out).trans HK2.out |>.then hk3 fun i hi h => by rcases h with h | h; (have := lt1 _ h; omega); (have := lt2 _ h; omega)
  have HKA := Lib.hid hK
  have HR1 := Lib.hid hr1
  have HR2 := Lib.hid hr2
  clear hb6 hr1 hr2 hk3 hK HB5 HB6 a0 a1 a2
  go_wp2
  refine bodyPost_ret (v := .tuple #[.agg #[.slice B1 3 d1, .slice B2 3 d2, .int .i64 bb.locked], .bool true]) (by simp [results, Try.results6, go_sem, r0, r1, r2, hz3, hz4]) rfl ?_
  have hS : Keeps (one (w.heap.size + 1)) w3 (((w3.setCell ⟨w.heap.size + 1, 0, none⟩ (.slice B1 3 d1)).setCell ⟨w.heap.size + 1, 1, none⟩ (.slice B2 3 d2)).setCell ⟨w.heap.size + 1, 2, none⟩ (.int .i64 bb.locked)) := (((Keeps.refl _ w3).set1 _ _).set1 _ _).set1 _ _
  have hx1 := (HR1.out.keeps hS fun i hi h => by have h' : i = w.heap.size + 1 := h; have := lt1 _ hi; omega).less (lo' := w.heap.size) (by omega)
  have hx2 := (HR2.out.keeps hS fun i hi h => by have h' : i = w.heap.size + 1 := h; have := lt2 _ hi; omega).less (lo' := w.heap.size) (by omega)
  have hKS := HKA.out.then hS fun i hi h => by have h' : i = w.heap.size + 1 := h; omega
  exact ⟨_, rfl, ⟨B1, 3, d1, B2, 3, d2, rfl, (hx1.alloc _), (hx2.alloc _), HD.out, hd1, hd2, hm1, hm2⟩, (hKS.alloc _)⟩

set_option maxHeartbeats 1000000 in
theorem specBack_no (A1 A2 : Option Addr) (c1 c2 : Nat) (L : Int) (xs ys : List Int) (w : World) (ha1 : Ints w A1 3 xs) (ha2 : Ints w A2 3 ys)
    (h1 : 3 ≤ maxLen) (h2 : 3 ≤ maxLen) (hL : L ≤ 9223372036854775807) (kd fr sm : Int) (q1 : okB ⟨xs, ys, L⟩ = true) (q2 : kindB kd = true) (q3 : userB fr = true) (q5 : sumB sm = true) (hs0 : 0 ≤ sm) (hs1 : sm ≤ 1000) (bb : BankL) (hbb : turnB ⟨xs, ys, L⟩ kd fr sm = bb) (hdec : decide (sm ≤ room ⟨xs, ys, L⟩ kd) = false) :
    Calls Try.prog 6 #[.agg #[.slice A1 3 c1, .slice A2 3 c2, .int .i64 L], .int .i64 kd, .int .i64 fr, .int .i64 sm] w (RetNo w) := by
  have hl1 : xs.length = 3 := lst_len q1 1
  have hl2 : ys.length = 3 := lst_len q1 2
  have HDEC := Lib.hid hdec
  have HBB := Lib.hid hbb
  clear hdec hbb
  have HA1 := Lib.hid ha1
  have HA2 := Lib.hid ha2
  clear ha1 ha2
  go_enter Try.func6, Try.ntmps6
  go_wp2_with fail
  refine (specOk_any A1 A2 3 3 _ _ L xs ys _ ((HA1.out.alloc _).alloc _) ((HA2.out.alloc _).alloc _) h1 h2 hL).mono ?_
  rintro e w1 ⟨rfl, hk1⟩
  have hb5 := ((Box.new w _ rfl 25 #[.slice A1 3 c1, .slice A2 3 c2, .int .i64 L]).alloc (.cells #[.slice none 0 0, .slice none 0 0, .int .i64 0] 25)).keeps hk1 fun h => h
  have hb6 := (Box.new (w.alloc (.cells #[.slice A1 3 c1, .slice A2 3 c2, .int .i64 L] 25)) (w.heap.size + 1) (by simp) 25 #[.slice none 0 0, .slice none 0 0, .int .i64 0]).keeps hk1 fun h => h
  have a0 := hb5.cell 0
  have a1 := hb5.cell 1
  have a2 := hb5.cell 2
  have r0 := hb6.cell 0
  have r1 := hb6.cell 1
  have r2 := hb6.cell 2
  have f0 := hb6.frozen 0
  have f1 := hb6.frozen 1
  have f2 := hb6.frozen 2
  simp at a0 a1 a2 r0 r1 r2
  have hz : w.heap.size + 1 < w1.heap.size := hb6.lt
  have hz0 : w.heap.size < w1.heap.size := by omega
  have HB5 := Lib.hid hb5
  have HB6 := Lib.hid hb6
  have HK1 := Lib.hid hk1
  clear hb5 hb6 hk1
  go_wp2_with fail
  refine (l6In_kind kd _).mono ?_
  rintro e w' ⟨rfl, rfl⟩
  go_wp2_with fail
  refine (l1User_bk fr _).mono ?_
  rintro e w' ⟨rfl, rfl⟩
  go_wp2_with fail
  refine (l6In_sum sm _).mono ?_
  rintro e w' ⟨rfl, rfl⟩
  go_wp2_with fail
  refine (l1Copy_any _ _ 3 3 _ _ L xs ys _ (((HA1.out.alloc _).alloc _).keeps HK1.out fun _ _ h => h) (((HA2.out.alloc _).alloc _).keeps HK1.out fun _ _ h => h) (by omega) (by omega) (by omega) (by omega)).mono ?_
  rintro e w2 ⟨_, rfl, ⟨B1, m1, d1, B2, m2, d2, rfl, hr1, hr2, hd, hd1, hd2, hm1, hm2⟩, hk2⟩
  obtain rfl : 3 = m1 := hl1.symm.trans hr1.1.1
  obtain rfl : 3 = m2 := hl2.symm.trans hr2.1.1
  dsimp only at hr1 hr2
  have lt1 : ∀ i, blk B1 3 i → w1.heap.size ≤ i := fun i hi => hr1.ge hi
  have lt2 : ∀ i, blk B2 3 i → w1.heap.size ≤ i := fun i hi => hr2.ge hi
  have hT := l1Back_any B1 B2 d1 d2 _ L xs ys w2 hr1 hr2 hd kd fr sm q1 q2 q3 hs0 hs1
  rw [HDEC.out, HBB.out] at hT
  have HT := Lib.hid hT
  have HK2 := Lib.hid hk2
  have HD := Lib.hid hd
  clear hT hk2 hr1 hr2 hd
  go_wp2_with fail
  refine HT.out.mono ?_
  rintro e w3 ⟨rfl, hr1, hr2, hk3⟩
  have hb6 := (HB6.out.keeps HK2.out fun h => h).keeps hk3 fun h => by rcases h with h | h; (have := lt1 _ h; omega); (have := lt2 _ h; omega)
  have r0 := hb6.cell 0
  have r1 := hb6.cell 1
  have r2 := hb6.cell 2
  have f0 := hb6.frozen 0
  have f1 := hb6.frozen 1
  have f2 := hb6.frozen 2
  simp at r0 r1 r2
  have hz3 : w.heap.size + 1 < w3.heap.size := hb6.lt
  have hz4 : w.heap.size < w3.heap.size := by omega
  have hK := ((((Keeps.refl noBlk w).alloc (.cells #[.slice A1 3 c1, .slice A2 3 c2, .int .i64 L] 25)).alloc (.cells #[.slice none 0 0, .slice none 0 0, .int .i64 0] 25)).trans HK1.out).trans HK2.out |>.then hk3 fun i hi h => by rcases h with h | h; (have := lt1 _ h; omega); (have := lt2 _ h; omega)
  have HKA := Lib.hid hK
  have HR1 := Lib.hid hr1
  have HR2 := Lib.hid hr2
  clear hb6 hr1 hr2 hk3 hK HB5 HB6 a0 a1 a2
  go_wp2
  refine bodyPost_ret (v := .tuple #[noBank, .bool false]) (by simp [results, Try.results6, go_sem, noBank, r0, r1, r2, hz3, hz4]) rfl ?_
  exact ⟨rfl, (((HKA.out.new (by omega) _ _).new (by omega) _ _).new (by omega) _ _).alloc _⟩

theorem room_le {b : BankL} (h : okB b = true) {k : Int} : room b k ≤ 30 := by
  have h1 := locked_bounds h
  have h2 := notes_bounds h
  unfold room
  split <;> omega

theorem specBack_any (A1 A2 : Option Addr) (n1 n2 c1 c2 : Nat) (L : Int) (xs ys : List Int) (w : World) (ha1 : Ints w A1 n1 xs) (ha2 : Ints w A2 n2 ys)
    (h1 : n1 ≤ maxLen) (h2 : n2 ≤ maxLen) (hL : L ≤ 9223372036854775807) (kd fr sm : Int) :
    Calls Try.prog 6 #[.agg #[.slice A1 n1 c1, .slice A2 n2 c2, .int .i64 L], .int .i64 kd, .int .i64 fr, .int .i64 sm] w (RetB2 w (backOk ⟨xs, ys, L⟩ kd fr sm) (backed ⟨xs, ys, L⟩ kd fr sm)) := by
  by_cases q1 : okB ⟨xs, ys, L⟩ = true
  · by_cases q2 : kindB kd = true
    · by_cases q3 : userB fr = true
      · by_cases q5 : sumB sm = true
        · have hs0 : 0 ≤ sm := by simp [sumB] at q5; omega
          have hs1 : sm ≤ 1000 := by simp [sumB] at q5; omega
          obtain rfl : 3 = n1 := (lst_len q1 1).symm.trans ha1.1
          obtain rfl : 3 = n2 := (lst_len q1 2).symm.trans ha2.1
          by_cases q6 : sm ≤ room ⟨xs, ys, L⟩ kd
          · have hyes : backOk ⟨xs, ys, L⟩ kd fr sm = true := by simp [backOk, q1, q2, q3, q6, hs0]
            exact (specBack_yes A1 A2 c1 c2 L xs ys w ha1 ha2 h1 h2 hL kd fr sm q1 q2 q3 q5 hs0 hs1 _ (by rw [turnB, if_pos q6]) (decide_eq_true q6)).mono fun _ _ hr => RetB2.yes hyes hr
          · have hno : backOk ⟨xs, ys, L⟩ kd fr sm = false := by simp [backOk, q6]
            exact (specBack_no A1 A2 c1 c2 L xs ys w ha1 ha2 h1 h2 hL kd fr sm q1 q2 q3 q5 hs0 hs1 _ rfl (decide_eq_false q6)).mono fun _ _ hr => RetB2.no hno hr
        · exact (specBack_f4 A1 A2 n1 n2 c1 c2 L xs ys w ha1 ha2 h1 h2 hL kd fr sm q1 q2 q3 (Bool.eq_false_iff.2 q5)).mono fun _ _ hr => RetB2.no (by rw [Bool.eq_false_iff]; intro hm; simp only [backOk, Bool.and_eq_true, decide_eq_true_eq] at hm; have hr9 := room_le q1 (k := kd); exact q5 (by simp only [sumB, Bool.and_eq_true, decide_eq_true_eq]; omega)) hr
      · exact (specBack_f3 A1 A2 n1 n2 c1 c2 L xs ys w ha1 ha2 h1 h2 hL kd fr sm q1 q2 (Bool.eq_false_iff.2 q3)).mono fun _ _ hr => RetB2.no (by simp [backOk, q3]) hr
    · exact (specBack_f2 A1 A2 n1 n2 c1 c2 L xs ys w ha1 ha2 h1 h2 hL kd fr sm q1 (Bool.eq_false_iff.2 q2)).mono fun _ _ hr => RetB2.no (by simp [backOk, q2]) hr
  · exact (specBack_f1 A1 A2 n1 n2 c1 c2 L xs ys w ha1 ha2 h1 h2 hL kd fr sm (Bool.eq_false_iff.2 q1)).mono fun _ _ hr => RetB2.no (by simp [backOk, q1]) hr

end Go.Proofs.Ytedmkbiamjpdaab
