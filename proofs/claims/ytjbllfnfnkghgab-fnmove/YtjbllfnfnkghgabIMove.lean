/- BankMove of the program answers as moved. -/
import Derived.Test.YtjbllfnfnkghgabIBank
set_option linter.unusedVariables false
set_option linter.unusedSimpArgs false
namespace Go.Proofs.Ytjbllfnfnkghgab
open Go.RowKit


set_option maxHeartbeats 400000 in
theorem implMove_f1 (A1 A2 : Option Addr) (n1 n2 c1 c2 : Nat) (L : Int) (xs ys : List Int) (w : World) (ha1 : Ints w A1 n1 xs) (ha2 : Ints w A2 n2 ys) (h1 : n1 ≤ maxLen) (h2 : n2 ≤ maxLen) (kd fr to sm : Int) (q2 : kindB kd = false) : Calls Try.prog 17 #[.agg #[.slice A1 n1 c1, .slice A2 n2 c2, .int .i64 L], .int .i64 kd, .int .i64 fr, .int .i64 to, .int .i64 sm] w (RetNo w) := by
  go_enter Try.func17, Try.ntmps17
  go_wp2_with fail
  refine (openLed_f1 A1 A2 n1 n2 _ _ L xs ys _ ((ha1.alloc _).alloc _) ((ha2.alloc _).alloc _) h1 h2 kd q2).mono ?_
  rintro e w1 ⟨rfl, hk1⟩
  simp only [noLed]
  have hb6 := (Box.new (w.alloc (.cells #[.slice A1 n1 c1, .slice A2 n2 c2, .int .i64 L] 25)) (w.heap.size + 1) (by simp) 25 #[.slice none 0 0, .slice none 0 0, .int .i64 0]).keeps hk1 fun h => h
  have r0 := hb6.cell 0
  have r1 := hb6.cell 1
  have r2 := hb6.cell 2
  have f0 := hb6.frozen 0
  have f1 := hb6.frozen 1
  have f2 := hb6.frozen 2
  simp at r0 r1 r2
  have hz : w.heap.size + 1 < w1.heap.size := hb6.lt
  have hz0 : w.heap.size < w1.heap.size := by omega
  have HB6 := Lib.hid hb6
  have HK1 := Lib.hid hk1
  clear hb6 hk1
  go_wp2
  refine bodyPost_ret (v := .tuple #[noBank, .bool false]) (by simp [results, Try.results17, go_sem, noBank, r0, r1, r2, hz]) rfl ?_
  exact ⟨rfl, ((((((((Keeps.refl _ w).alloc _).alloc _).trans HK1.out).new (by omega) _ _).new (by omega) _ _).new (by omega) _ _).alloc _)⟩

set_option maxHeartbeats 400000 in
theorem implMove_f2_1 (A1 A2 : Option Addr) (n1 n2 c1 c2 : Nat) (L : Int) (xs ys : List Int) (w : World) (ha1 : Ints w A1 n1 xs) (ha2 : Ints w A2 n2 ys) (h1 : n1 ≤ maxLen) (h2 : n2 ≤ maxLen) (fr to sm : Int) (q1 : okB ⟨xs, ys, L⟩ = false) : Calls Try.prog 17 #[.agg #[.slice A1 n1 c1, .slice A2 n2 c2, .int .i64 L], .int .i64 1, .int .i64 fr, .int .i64 to, .int .i64 sm] w (RetNo w) := by
  go_enter Try.func17, Try.ntmps17
  go_wp2_with fail
  refine (openLed_f2_1 A1 A2 n1 n2 _ _ L xs ys _ ((ha1.alloc _).alloc _) ((ha2.alloc _).alloc _) h1 h2 q1).mono ?_
  rintro e w1 ⟨rfl, hk1⟩
  simp only [noLed]
  have hb6 := (Box.new (w.alloc (.cells #[.slice A1 n1 c1, .slice A2 n2 c2, .int .i64 L] 25)) (w.heap.size + 1) (by simp) 25 #[.slice none 0 0, .slice none 0 0, .int .i64 0]).keeps hk1 fun h => h
  have r0 := hb6.cell 0
  have r1 := hb6.cell 1
  have r2 := hb6.cell 2
  have f0 := hb6.frozen 0
  have f1 := hb6.frozen 1
  have f2 := hb6.frozen 2
  simp at r0 r1 r2
  have hz : w.heap.size + 1 < w1.heap.size := hb6.lt
  have hz0 : w.heap.size < w1.heap.size := by omega
  have HB6 := Lib.hid hb6
  have HK1 := Lib.hid hk1
  clear hb6 hk1
  go_wp2
  refine bodyPost_ret (v := .tuple #[noBank, .bool false]) (by simp [results, Try.results17, go_sem, noBank, r0, r1, r2, hz]) rfl ?_
  exact ⟨rfl, ((((((((Keeps.refl _ w).alloc _).alloc _).trans HK1.out).new (by omega) _ _).new (by omega) _ _).new (by omega) _ _).alloc _)⟩

set_option maxHeartbeats 400000 in
theorem implMove_f2_2 (A1 A2 : Option Addr) (n1 n2 c1 c2 : Nat) (L : Int) (xs ys : List Int) (w : World) (ha1 : Ints w A1 n1 xs) (ha2 : Ints w A2 n2 ys) (h1 : n1 ≤ maxLen) (h2 : n2 ≤ maxLen) (fr to sm : Int) (q1 : okB ⟨xs, ys, L⟩ = false) : Calls Try.prog 17 #[.agg #[.slice A1 n1 c1, .slice A2 n2 c2, .int .i64 L], .int .i64 2, .int .i64 fr, .int .i64 to, .int .i64 sm] w (RetNo w) := by
  go_enter Try.func17, Try.ntmps17
  go_wp2_with fail
  refine (openLed_f2_2 A1 A2 n1 n2 _ _ L xs ys _ ((ha1.alloc _).alloc _) ((ha2.alloc _).alloc _) h1 h2 q1).mono ?_
  rintro e w1 ⟨rfl, hk1⟩
  simp only [noLed]
  have hb6 := (Box.new (w.alloc (.cells #[.slice A1 n1 c1, .slice A2 n2 c2, .int .i64 L] 25)) (w.heap.size + 1) (by simp) 25 #[.slice none 0 0, .slice none 0 0, .int .i64 0]).keeps hk1 fun h => h
  have r0 := hb6.cell 0
  have r1 := hb6.cell 1
  have r2 := hb6.cell 2
  have f0 := hb6.frozen 0
  have f1 := hb6.frozen 1
  have f2 := hb6.frozen 2
  simp at r0 r1 r2
  have hz : w.heap.size + 1 < w1.heap.size := hb6.lt
  have hz0 : w.heap.size < w1.heap.size := by omega
  have HB6 := Lib.hid hb6
  have HK1 := Lib.hid hk1
  clear hb6 hk1
  go_wp2
  refine bodyPost_ret (v := .tuple #[noBank, .bool false]) (by simp [results, Try.results17, go_sem, noBank, r0, r1, r2, hz]) rfl ?_
  exact ⟨rfl, ((((((((Keeps.refl _ w).alloc _).alloc _).trans HK1.out).new (by omega) _ _).new (by omega) _ _).new (by omega) _ _).alloc _)⟩

set_option maxHeartbeats 400000 in
theorem implMove_f3_1 (A1 A2 : Option Addr) (n1 n2 c1 c2 : Nat) (L : Int) (xs ys : List Int) (w : World) (ha1 : Ints w A1 n1 xs) (ha2 : Ints w A2 n2 ys) (h1 : n1 ≤ maxLen) (h2 : n2 ≤ maxLen) (fr to sm : Int) (hfr : I64 fr) (q1 : okB ⟨xs, ys, L⟩ = true) (q3 : takeB xs fr sm = false) : Calls Try.prog 17 #[.agg #[.slice A1 n1 c1, .slice A2 n2 c2, .int .i64 L], .int .i64 1, .int .i64 fr, .int .i64 to, .int .i64 sm] w (RetNo w) := by
  have HA1 := Lib.hid ha1
  have HA2 := Lib.hid ha2
  clear ha1 ha2
  go_enter Try.func17, Try.ntmps17
  go_wp2_with fail
  refine (openLed_ok_1 A1 A2 n1 n2 _ _ L xs ys _ ((HA1.out.alloc _).alloc _) ((HA2.out.alloc _).alloc _) h1 h2 q1).mono ?_
  rintro e w1 ⟨M1, M2, rfl, g1, g2, gne, hm1, hm2, hk1⟩
  simp only [if_true]
  simp only [World.size_alloc] at g1 g2
  have hb6 := (Box.new (w.alloc (.cells #[.slice A1 n1 c1, .slice A2 n2 c2, .int .i64 L] 25)) (w.heap.size + 1) (by simp) 25 #[.slice none 0 0, .slice none 0 0, .int .i64 0]).keeps hk1 fun h => h
  have r0 := hb6.cell 0
  have r1 := hb6.cell 1
  have r2 := hb6.cell 2
  have f0 := hb6.frozen 0
  have f1 := hb6.frozen 1
  have f2 := hb6.frozen 2
  simp at r0 r1 r2
  have hz : w.heap.size + 1 < w1.heap.size := hb6.lt
  have hz0 : w.heap.size < w1.heap.size := by omega
  have HB6 := Lib.hid hb6
  have HK1 := Lib.hid hk1
  clear hb6 hk1
  have HM1 := Lib.hid hm1
  have HM2 := Lib.hid hm2
  clear hm1 hm2
  go_wp2_with fail
  refine (canTake_any M1 _ xs fr sm _ (HM1.out.alloc _) hfr).mono ?_
  rintro e w' ⟨rfl, rfl⟩
  go_wp2
  refine bodyPost_ret (v := .tuple #[noBank, .bool false]) (by simp [results, Try.results17, go_sem, noBank, r0, r1, r2, hz]) rfl ?_
  exact ⟨rfl, ((((((((Keeps.refl _ w).alloc _).alloc _).trans HK1.out).new (by omega) _ _).new (by omega) _ _).new (by omega) _ _).alloc _)⟩

set_option maxHeartbeats 400000 in
theorem implMove_f4_1 (A1 A2 : Option Addr) (n1 n2 c1 c2 : Nat) (L : Int) (xs ys : List Int) (w : World) (ha1 : Ints w A1 n1 xs) (ha2 : Ints w A2 n2 ys) (h1 : n1 ≤ maxLen) (h2 : n2 ≤ maxLen) (fr to sm : Int) (hfr : I64 fr) (hto : I64 to) (q1 : okB ⟨xs, ys, L⟩ = true) (q3 : takeB xs fr sm = true) (q4 : mhas xs to = false) : Calls Try.prog 17 #[.agg #[.slice A1 n1 c1, .slice A2 n2 c2, .int .i64 L], .int .i64 1, .int .i64 fr, .int .i64 to, .int .i64 sm] w (RetNo w) := by
  have HA1 := Lib.hid ha1
  have HA2 := Lib.hid ha2
  clear ha1 ha2
  go_enter Try.func17, Try.ntmps17
  go_wp2_with fail
  refine (openLed_ok_1 A1 A2 n1 n2 _ _ L xs ys _ ((HA1.out.alloc _).alloc _) ((HA2.out.alloc _).alloc _) h1 h2 q1).mono ?_
  rintro e w1 ⟨M1, M2, rfl, g1, g2, gne, hm1, hm2, hk1⟩
  simp only [if_true]
  simp only [World.size_alloc] at g1 g2
  have hb6 := (Box.new (w.alloc (.cells #[.slice A1 n1 c1, .slice A2 n2 c2, .int .i64 L] 25)) (w.heap.size + 1) (by simp) 25 #[.slice none 0 0, .slice none 0 0, .int .i64 0]).keeps hk1 fun h => h
  have r0 := hb6.cell 0
  have r1 := hb6.cell 1
  have r2 := hb6.cell 2
  have f0 := hb6.frozen 0
  have f1 := hb6.frozen 1
  have f2 := hb6.frozen 2
  simp at r0 r1 r2
  have hz : w.heap.size + 1 < w1.heap.size := hb6.lt
  have hz0 : w.heap.size < w1.heap.size := by omega
  have HB6 := Lib.hid hb6
  have HK1 := Lib.hid hk1
  clear hb6 hk1
  have HM1 := Lib.hid hm1
  have HM2 := Lib.hid hm2
  clear hm1 hm2
  go_wp2_with fail
  refine (canTake_any M1 _ xs fr sm _ (HM1.out.alloc _) hfr).mono ?_
  rintro e w' ⟨rfl, rfl⟩
  go_wp2_with fail
  refine (hasUser_any M1 _ xs to _ (HM1.out.alloc _) hto).mono ?_
  rintro e w' ⟨rfl, rfl⟩
  go_wp2
  refine bodyPost_ret (v := .tuple #[noBank, .bool false]) (by simp [results, Try.results17, go_sem, noBank, r0, r1, r2, hz]) rfl ?_
  exact ⟨rfl, ((((((((Keeps.refl _ w).alloc _).alloc _).trans HK1.out).new (by omega) _ _).new (by omega) _ _).new (by omega) _ _).alloc _)⟩

set_option maxHeartbeats 400000 in
theorem implMove_f3_2 (A1 A2 : Option Addr) (n1 n2 c1 c2 : Nat) (L : Int) (xs ys : List Int) (w : World) (ha1 : Ints w A1 n1 xs) (ha2 : Ints w A2 n2 ys) (h1 : n1 ≤ maxLen) (h2 : n2 ≤ maxLen) (fr to sm : Int) (hfr : I64 fr) (q1 : okB ⟨xs, ys, L⟩ = true) (q3 : takeB ys fr sm = false) : Calls Try.prog 17 #[.agg #[.slice A1 n1 c1, .slice A2 n2 c2, .int .i64 L], .int .i64 2, .int .i64 fr, .int .i64 to, .int .i64 sm] w (RetNo w) := by
  have HA1 := Lib.hid ha1
  have HA2 := Lib.hid ha2
  clear ha1 ha2
  go_enter Try.func17, Try.ntmps17
  go_wp2_with fail
  refine (openLed_ok_2 A1 A2 n1 n2 _ _ L xs ys _ ((HA1.out.alloc _).alloc _) ((HA2.out.alloc _).alloc _) h1 h2 q1).mono ?_
  rintro e w1 ⟨M1, M2, rfl, g1, g2, gne, hm1, hm2, hk1⟩
  simp only [reduceIte, Nat.reduceEqDiff]
  simp only [World.size_alloc] at g1 g2
  have hb6 := (Box.new (w.alloc (.cells #[.slice A1 n1 c1, .slice A2 n2 c2, .int .i64 L] 25)) (w.heap.size + 1) (by simp) 25 #[.slice none 0 0, .slice none 0 0, .int .i64 0]).keeps hk1 fun h => h
  have r0 := hb6.cell 0
  have r1 := hb6.cell 1
  have r2 := hb6.cell 2
  have f0 := hb6.frozen 0
  have f1 := hb6.frozen 1
  have f2 := hb6.frozen 2
  simp at r0 r1 r2
  have hz : w.heap.size + 1 < w1.heap.size := hb6.lt
  have hz0 : w.heap.size < w1.heap.size := by omega
  have HB6 := Lib.hid hb6
  have HK1 := Lib.hid hk1
  clear hb6 hk1
  have HM1 := Lib.hid hm1
  have HM2 := Lib.hid hm2
  clear hm1 hm2
  go_wp2_with fail
  refine (canTake_any M2 _ ys fr sm _ (HM2.out.alloc _) hfr).mono ?_
  rintro e w' ⟨rfl, rfl⟩
  go_wp2
  refine bodyPost_ret (v := .tuple #[noBank, .bool false]) (by simp [results, Try.results17, go_sem, noBank, r0, r1, r2, hz]) rfl ?_
  exact ⟨rfl, ((((((((Keeps.refl _ w).alloc _).alloc _).trans HK1.out).new (by omega) _ _).new (by omega) _ _).new (by omega) _ _).alloc _)⟩

set_option maxHeartbeats 400000 in
theorem implMove_f4_2 (A1 A2 : Option Addr) (n1 n2 c1 c2 : Nat) (L : Int) (xs ys : List Int) (w : World) (ha1 : Ints w A1 n1 xs) (ha2 : Ints w A2 n2 ys) (h1 : n1 ≤ maxLen) (h2 : n2 ≤ maxLen) (fr to sm : Int) (hfr : I64 fr) (hto : I64 to) (q1 : okB ⟨xs, ys, L⟩ = true) (q3 : takeB ys fr sm = true) (q4 : mhas ys to = false) : Calls Try.prog 17 #[.agg #[.slice A1 n1 c1, .slice A2 n2 c2, .int .i64 L], .int .i64 2, .int .i64 fr, .int .i64 to, .int .i64 sm] w (RetNo w) := by
  have HA1 := Lib.hid ha1
  have HA2 := Lib.hid ha2
  clear ha1 ha2
  go_enter Try.func17, Try.ntmps17
  go_wp2_with fail
  refine (openLed_ok_2 A1 A2 n1 n2 _ _ L xs ys _ ((HA1.out.alloc _).alloc _) ((HA2.out.alloc _).alloc _) h1 h2 q1).mono ?_
  rintro e w1 ⟨M1, M2, rfl, g1, g2, gne, hm1, hm2, hk1⟩
  simp only [reduceIte, Nat.reduceEqDiff]
  simp only [World.size_alloc] at g1 g2
  have hb6 := (Box.new (w.alloc (.cells #[.slice A1 n1 c1, .slice A2 n2 c2, .int .i64 L] 25)) (w.heap.size + 1) (by simp) 25 #[.slice none 0 0, .slice none 0 0, .int .i64 0]).keeps hk1 fun h => h
  have r0 := hb6.cell 0
  have r1 := hb6.cell 1
  have r2 := hb6.cell 2
  have f0 := hb6.frozen 0
  have f1 := hb6.frozen 1
  have f2 := hb6.frozen 2
  simp at r0 r1 r2
  have hz : w.heap.size + 1 < w1.heap.size := hb6.lt
  have hz0 : w.heap.size < w1.heap.size := by omega
  have HB6 := Lib.hid hb6
  have HK1 := Lib.hid hk1
  clear hb6 hk1
  have HM1 := Lib.hid hm1
  have HM2 := Lib.hid hm2
  clear hm1 hm2
  go_wp2_with fail
  refine (canTake_any M2 _ ys fr sm _ (HM2.out.alloc _) hfr).mono ?_
  rintro e w' ⟨rfl, rfl⟩
  go_wp2_with fail
  refine (hasUser_any M2 _ ys to _ (HM2.out.alloc _) hto).mono ?_
  rintro e w' ⟨rfl, rfl⟩
  go_wp2
  refine bodyPost_ret (v := .tuple #[noBank, .bool false]) (by simp [results, Try.results17, go_sem, noBank, r0, r1, r2, hz]) rfl ?_
  exact ⟨rfl, ((((((((Keeps.refl _ w).alloc _).alloc _).trans HK1.out).new (by omega) _ _).new (by omega) _ _).new (by omega) _ _).alloc _)⟩

set_option maxHeartbeats 2000000 in
theorem implMove_ok_1 (A1 A2 : Option Addr) (n1 n2 c1 c2 : Nat) (L : Int) (xs ys : List Int) (w : World) (ha1 : Ints w A1 n1 xs) (ha2 : Ints w A2 n2 ys) (h1 : n1 ≤ maxLen) (h2 : n2 ≤ maxLen) (u v : Nat) (sm : Int) (q1 : okB ⟨xs, ys, L⟩ = true) (hu : (u : Int) < 3) (hv : (v : Int) < 3) (hs0 : 0 ≤ sm) (q6 : sm ≤ xs.getD u 0) :
    Calls Try.prog 17 #[.agg #[.slice A1 n1 c1, .slice A2 n2 c2, .int .i64 L], .int .i64 1, .int .i64 ((u : Int) + 1), .int .i64 ((v : Int) + 1), .int .i64 sm] w (RetYes w (moved ⟨xs, ys, L⟩ 1 (u + 1) (v + 1) sm)) := by
  have hl1 : xs.length = 3 := lst_len q1 1
  have hl2 : ys.length = 3 := lst_len q1 2
  have hfr : I64 ((u : Int) + 1) := ⟨by omega, by omega⟩
  have hto : I64 ((v : Int) + 1) := ⟨by omega, by omega⟩
  have hx : 0 ≤ xs.getD u 0 ∧ xs.getD u 0 ≤ 30 := by simpa [has, lst, ix] using has_bounds q1 1 ((u : Int) + 1)
  have hy : -60 ≤ (xs.set u (xs.getD u 0 - sm)).getD v 0 ∧ (xs.set u (xs.getD u 0 - sm)).getD v 0 ≤ 60 := by
    have h9 : 0 ≤ xs.getD v 0 ∧ xs.getD v 0 ≤ 30 := by simpa [has, lst, ix] using has_bounds q1 1 ((v : Int) + 1)
    rw [getD_set]
    split
    · omega
    · omega
  have HMV : Hid (moved ⟨xs, ys, L⟩ 1 (u + 1) (v + 1) sm = put ⟨xs, ys, L⟩ 1 ((xs.set u (xs.getD u 0 - sm)).set v ((xs.set u (xs.getD u 0 - sm)).getD v 0 + sm))) := by
    show _ = _
    exact moved_1 xs ys L u v sm
  have hg1 : mget xs ((u : Int) + 1) = xs.getD u 0 := by unfold mget; rw [if_pos (by omega), ix]
  have hg2 : mget (xs.set u (xs.getD u 0 - sm)) ((v : Int) + 1) = (xs.set u (xs.getD u 0 - sm)).getD v 0 := by unfold mget; rw [if_pos (by simp; omega), ix]
  have q3 : takeB xs ((u : Int) + 1) sm = true := by
    unfold takeB mhas
    rw [hg1]
    simp only [Bool.and_eq_true, decide_eq_true_eq]
    omega
  have q4 : mhas xs ((v : Int) + 1) = true := by
    unfold mhas
    simp only [Bool.and_eq_true, decide_eq_true_eq]
    omega
  generalize hxe : xs.getD u 0 = x at q6 hx hy HMV hg1 hg2
  generalize hye : (xs.set u (x - sm)).getD v 0 = y at hy HMV hg2
  clear hxe hye
  have HG1 := Lib.hid hg1
  have HG2 := Lib.hid hg2
  have HL1 := Lib.hid hl1
  have HL2 := Lib.hid hl2
  clear hg1 hg2 hl1 hl2
  have HA1 := Lib.hid ha1
  have HA2 := Lib.hid ha2
  clear ha1 ha2
  go_enter Try.func17, Try.ntmps17
  go_wp2_with fail
  refine (openLed_ok_1 A1 A2 n1 n2 _ _ L xs ys _ ((HA1.out.alloc _).alloc _) ((HA2.out.alloc _).alloc _) h1 h2 q1).mono ?_
  rintro e w1 ⟨M1, M2, rfl, g1, g2, gne, hm1, hm2, hk1⟩
  simp only [if_true]
  simp only [World.size_alloc] at g1 g2
  have hb6 := (Box.new (w.alloc (.cells #[.slice A1 n1 c1, .slice A2 n2 c2, .int .i64 L] 25)) (w.heap.size + 1) (by simp) 25 #[.slice none 0 0, .slice none 0 0, .int .i64 0]).keeps hk1 fun h => h
  have r0 := hb6.cell 0
  have r1 := hb6.cell 1
  have r2 := hb6.cell 2
  have f0 := hb6.frozen 0
  have f1 := hb6.frozen 1
  have f2 := hb6.frozen 2
  simp at r0 r1 r2
  have hz : w.heap.size + 1 < w1.heap.size := hb6.lt
  have hz0 : w.heap.size < w1.heap.size := by omega
  have HB6 := Lib.hid hb6
  have HK1 := Lib.hid hk1
  clear hb6 hk1
  have HM1 := Lib.hid hm1
  have HM2 := Lib.hid hm2
  clear hm1 hm2
  go_wp2_with fail
  refine (canTake_any M1 _ xs ((u : Int) + 1) sm _ (HM1.out.alloc _) hfr).mono ?_
  rintro e w' ⟨rfl, rfl⟩
  go_wp2_with fail
  refine (hasUser_any M1 _ xs ((v : Int) + 1) _ (HM1.out.alloc _) hto).mono ?_
  rintro e w' ⟨rfl, rfl⟩
  have hM := HM1.out.alloc (.cells #[.map (some M1), .map (some M2), .int .i64 L] 55)
  have hlk1 := hM.look (k := (u : Int) + 1) hfr
  rw [HG1.out] at hlk1
  obtain ⟨w2, hrun1, hM2, hk2⟩ := hM.put (k := (u : Int) + 1) (x := x - sm) (by rw [HL1.out]; omega) (by rw [HL1.out]; omega) ⟨by omega, by omega⟩ (by rw [HL1.out]; omega)
  rw [ix] at hM2
  have hlk2 := hM2.look (k := (v : Int) + 1) hto
  rw [HG2.out] at hlk2
  obtain ⟨w3, hrun2, hM3, hk3⟩ := hM2.put (k := (v : Int) + 1) (x := y + sm) (by rw [HL1.out]; omega) (by rw [List.length_set, HL1.out]; omega) ⟨by omega, by omega⟩ (by rw [List.length_set, HL1.out]; omega)
  rw [ix] at hM3
  have hMlt := HM1.out.lt
  have hBox := ((Box.new w1 _ rfl 55 #[.map (some M1), .map (some M2), .int .i64 L]).keeps hk2 fun h => by have h' : w1.heap.size = M1 := h; omega).keeps hk3 fun h => by have h' : w1.heap.size = M1 := h; omega
  have t0 := hBox.cell 0
  have t1 := hBox.cell 1
  have t2 := hBox.cell 2
  simp at t0 t1 t2
  have hOther := ((HM2.out.alloc (.cells #[.map (some M1), .map (some M2), .int .i64 L] 55)).keeps hk2 fun h => by have h' : M2 = M1 := h; omega).keeps hk3 fun h => by have h' : M2 = M1 := h; omega
  have hRes := ((HB6.out.alloc (.cells #[.map (some M1), .map (some M2), .int .i64 L] 55)).keeps hk2 fun h => by have h' : w.heap.size + 1 = M1 := h; omega).keeps hk3 fun h => by have h' : w.heap.size + 1 = M1 := h; omega
  have HM3 := Lib.hid hM3
  have HOT := Lib.hid hOther
  have HRES := Lib.hid hRes
  have HK2 := Lib.hid hk2
  have HK3 := Lib.hid hk3
  clear hM hM2 hM3 hOther hRes hk2 hk3 hBox
  go_wp2_with fail
  refine (ledBank_any M1 M2 _ _ L _ _ _ HM3.out HOT.out (by rw [List.length_set, List.length_set, HL1.out]; omega) (by rw [HL2.out]; omega)).mono ?_
  rintro e w4 ⟨_, rfl, ⟨A3, m1, d1, A4, m2, d2, rfl, hr1, hr2, hd, k1, k2, j1, j2⟩, hk4⟩
  have hR4 := HRES.out.keeps hk4 fun h => h
  have r0 := hR4.cell 0
  have r1 := hR4.cell 1
  have r2 := hR4.cell 2
  have f0 := hR4.frozen 0
  have f1 := hR4.frozen 1
  have f2 := hR4.frozen 2
  simp at r0 r1 r2
  have s3 : w.heap.size + 1 < w3.heap.size := HRES.out.lt
  have hS : Keeps (one (w.heap.size + 1)) w4 (((w4.setCell ⟨w.heap.size + 1, 0, none⟩ (.slice A3 m1 d1)).setCell ⟨w.heap.size + 1, 1, none⟩ (.slice A4 m2 d2)).setCell ⟨w.heap.size + 1, 2, none⟩ (.int .i64 L)) := (((Keeps.refl _ w4).set1 _ _).set1 _ _).set1 _ _
  have hx1 := (hr1.keeps hS fun i hi h => by have h' : i = w.heap.size + 1 := h; have := hr1.ge hi; omega).less (lo' := w.heap.size) (by omega)
  have hx2 := (hr2.keeps hS fun i hi h => by have h' : i = w.heap.size + 1 := h; have := hr2.ge hi; omega).less (lo' := w.heap.size) (by omega)
  have hMge : w.heap.size + 1 < M1 := by omega
  have hK := ((((((((Keeps.refl noBlk w).alloc _).alloc _).trans HK1.out).alloc _).then HK2.out fun i hi h => by have h' : i = M1 := h; omega).then HK3.out fun i hi h => by have h' : i = M1 := h; omega).trans hk4).then hS fun i hi h => by have h' : i = w.heap.size + 1 := h; omega
  have HFIN : Hid (RetYes w (moved ⟨xs, ys, L⟩ 1 (u + 1) (v + 1) sm) (.returned (.tuple #[.agg #[.slice A3 m1 d1, .slice A4 m2 d2, .int .i64 L], .bool true])) (((w4.setCell ⟨w.heap.size + 1, 0, none⟩ (.slice A3 m1 d1)).setCell ⟨w.heap.size + 1, 1, none⟩ (.slice A4 m2 d2)).setCell ⟨w.heap.size + 1, 2, none⟩ (.int .i64 L))) := by
    show RetYes _ _ _ _
    rw [HMV.out]
    exact ⟨_, rfl, ⟨A3, m1, d1, A4, m2, d2, rfl, hx1, hx2, hd, k1, k2, j1, j2⟩, hK⟩
  clear hS hx1 hx2 hK hr1 hr2 hd hR4 hk4
  go_wp2
  refine bodyPost_ret (v := .tuple #[.agg #[.slice A3 m1 d1, .slice A4 m2 d2, .int .i64 L], .bool true]) (by simp [results, Try.results17, go_sem, r0, r1, r2]) rfl ?_
  exact HFIN.out

set_option maxHeartbeats 2000000 in
theorem implMove_ok_2 (A1 A2 : Option Addr) (n1 n2 c1 c2 : Nat) (L : Int) (xs ys : List Int) (w : World) (ha1 : Ints w A1 n1 xs) (ha2 : Ints w A2 n2 ys) (h1 : n1 ≤ maxLen) (h2 : n2 ≤ maxLen) (u v : Nat) (sm : Int) (q1 : okB ⟨xs, ys, L⟩ = true) (hu : (u : Int) < 3) (hv : (v : Int) < 3) (hs0 : 0 ≤ sm) (q6 : sm ≤ ys.getD u 0) :
    Calls Try.prog 17 #[.agg #[.slice A1 n1 c1, .slice A2 n2 c2, .int .i64 L], .int .i64 2, .int .i64 ((u : Int) + 1), .int .i64 ((v : Int) + 1), .int .i64 sm] w (RetYes w (moved ⟨xs, ys, L⟩ 2 (u + 1) (v + 1) sm)) := by
  have hl1 : xs.length = 3 := lst_len q1 1
  have hl2 : ys.length = 3 := lst_len q1 2
  have hfr : I64 ((u : Int) + 1) := ⟨by omega, by omega⟩
  have hto : I64 ((v : Int) + 1) := ⟨by omega, by omega⟩
  have hx : 0 ≤ ys.getD u 0 ∧ ys.getD u 0 ≤ 30 := by simpa [has, lst, ix] using has_bounds q1 2 ((u : Int) + 1)
  have hy : -60 ≤ (ys.set u (ys.getD u 0 - sm)).getD v 0 ∧ (ys.set u (ys.getD u 0 - sm)).getD v 0 ≤ 60 := by
    have h9 : 0 ≤ ys.getD v 0 ∧ ys.getD v 0 ≤ 30 := by simpa [has, lst, ix] using has_bounds q1 2 ((v : Int) + 1)
    rw [getD_set]
    split
    · omega
    · omega
  have HMV : Hid (moved ⟨xs, ys, L⟩ 2 (u + 1) (v + 1) sm = put ⟨xs, ys, L⟩ 2 ((ys.set u (ys.getD u 0 - sm)).set v ((ys.set u (ys.getD u 0 - sm)).getD v 0 + sm))) := by
    show _ = _
    exact moved_2 xs ys L u v sm
  have hg1 : mget ys ((u : Int) + 1) = ys.getD u 0 := by unfold mget; rw [if_pos (by omega), ix]
  have hg2 : mget (ys.set u (ys.getD u 0 - sm)) ((v : Int) + 1) = (ys.set u (ys.getD u 0 - sm)).getD v 0 := by unfold mget; rw [if_pos (by simp; omega), ix]
  have q3 : takeB ys ((u : Int) + 1) sm = true := by
    unfold takeB mhas
    rw [hg1]
    simp only [Bool.and_eq_true, decide_eq_true_eq]
    omega
  have q4 : mhas ys ((v : Int) + 1) = true := by
    unfold mhas
    simp only [Bool.and_eq_true, decide_eq_true_eq]
    omega
  generalize hxe : ys.getD u 0 = x at q6 hx hy HMV hg1 hg2
  generalize hye : (ys.set u (x - sm)).getD v 0 = y at hy HMV hg2
  clear hxe hye
  have HG1 := Lib.hid hg1
  have HG2 := Lib.hid hg2
  have HL1 := Lib.hid hl1
  have HL2 := Lib.hid hl2
  clear hg1 hg2 hl1 hl2
  have HA1 := Lib.hid ha1
  have HA2 := Lib.hid ha2
  clear ha1 ha2
  go_enter Try.func17, Try.ntmps17
  go_wp2_with fail
  refine (openLed_ok_2 A1 A2 n1 n2 _ _ L xs ys _ ((HA1.out.alloc _).alloc _) ((HA2.out.alloc _).alloc _) h1 h2 q1).mono ?_
  rintro e w1 ⟨M1, M2, rfl, g1, g2, gne, hm1, hm2, hk1⟩
  simp only [reduceIte, Nat.reduceEqDiff]
  simp only [World.size_alloc] at g1 g2
  have hb6 := (Box.new (w.alloc (.cells #[.slice A1 n1 c1, .slice A2 n2 c2, .int .i64 L] 25)) (w.heap.size + 1) (by simp) 25 #[.slice none 0 0, .slice none 0 0, .int .i64 0]).keeps hk1 fun h => h
  have r0 := hb6.cell 0
  have r1 := hb6.cell 1
  have r2 := hb6.cell 2
  have f0 := hb6.frozen 0
  have f1 := hb6.frozen 1
  have f2 := hb6.frozen 2
  simp at r0 r1 r2
  have hz : w.heap.size + 1 < w1.heap.size := hb6.lt
  have hz0 : w.heap.size < w1.heap.size := by omega
  have HB6 := Lib.hid hb6
  have HK1 := Lib.hid hk1
  clear hb6 hk1
  have HM1 := Lib.hid hm1
  have HM2 := Lib.hid hm2
  clear hm1 hm2
  go_wp2_with fail
  refine (canTake_any M2 _ ys ((u : Int) + 1) sm _ (HM2.out.alloc _) hfr).mono ?_
  rintro e w' ⟨rfl, rfl⟩
  go_wp2_with fail
  refine (hasUser_any M2 _ ys ((v : Int) + 1) _ (HM2.out.alloc _) hto).mono ?_
  rintro e w' ⟨rfl, rfl⟩
  have hM := HM2.out.alloc (.cells #[.map (some M1), .map (some M2), .int .i64 L] 55)
  have hlk1 := hM.look (k := (u : Int) + 1) hfr
  rw [HG1.out] at hlk1
  obtain ⟨w2, hrun1, hM2, hk2⟩ := hM.put (k := (u : Int) + 1) (x := x - sm) (by rw [HL2.out]; omega) (by rw [HL2.out]; omega) ⟨by omega, by omega⟩ (by rw [HL2.out]; omega)
  rw [ix] at hM2
  have hlk2 := hM2.look (k := (v : Int) + 1) hto
  rw [HG2.out] at hlk2
  obtain ⟨w3, hrun2, hM3, hk3⟩ := hM2.put (k := (v : Int) + 1) (x := y + sm) (by rw [HL2.out]; omega) (by rw [List.length_set, HL2.out]; omega) ⟨by omega, by omega⟩ (by rw [List.length_set, HL2.out]; omega)
  rw [ix] at hM3
  have hMlt := HM2.out.lt
  have hBox := ((Box.new w1 _ rfl 55 #[.map (some M1), .map (some M2), .int .i64 L]).keeps hk2 fun h => by have h' : w1.heap.size = M2 := h; omega).keeps hk3 fun h => by have h' : w1.heap.size = M2 := h; omega
  have t0 := hBox.cell 0
  have t1 := hBox.cell 1
  have t2 := hBox.cell 2
  simp at t0 t1 t2
  have hOther := ((HM1.out.alloc (.cells #[.map (some M1), .map (some M2), .int .i64 L] 55)).keeps hk2 fun h => by have h' : M1 = M2 := h; omega).keeps hk3 fun h => by have h' : M1 = M2 := h; omega
  have hRes := ((HB6.out.alloc (.cells #[.map (some M1), .map (some M2), .int .i64 L] 55)).keeps hk2 fun h => by have h' : w.heap.size + 1 = M2 := h; omega).keeps hk3 fun h => by have h' : w.heap.size + 1 = M2 := h; omega
  have HM3 := Lib.hid hM3
  have HOT := Lib.hid hOther
  have HRES := Lib.hid hRes
  have HK2 := Lib.hid hk2
  have HK3 := Lib.hid hk3
  clear hM hM2 hM3 hOther hRes hk2 hk3 hBox
  go_wp2_with fail
  refine (ledBank_any M1 M2 _ _ L _ _ _ HOT.out HM3.out (by rw [HL1.out]; omega) (by rw [List.length_set, List.length_set, HL2.out]; omega)).mono ?_
  rintro e w4 ⟨_, rfl, ⟨A3, m1, d1, A4, m2, d2, rfl, hr1, hr2, hd, k1, k2, j1, j2⟩, hk4⟩
  have hR4 := HRES.out.keeps hk4 fun h => h
  have r0 := hR4.cell 0
  have r1 := hR4.cell 1
  have r2 := hR4.cell 2
  have f0 := hR4.frozen 0
  have f1 := hR4.frozen 1
  have f2 := hR4.frozen 2
  simp at r0 r1 r2
  have s3 : w.heap.size + 1 < w3.heap.size := HRES.out.lt
  have hS : Keeps (one (w.heap.size + 1)) w4 (((w4.setCell ⟨w.heap.size + 1, 0, none⟩ (.slice A3 m1 d1)).setCell ⟨w.heap.size + 1, 1, none⟩ (.slice A4 m2 d2)).setCell ⟨w.heap.size + 1, 2, none⟩ (.int .i64 L)) := (((Keeps.refl _ w4).set1 _ _).set1 _ _).set1 _ _
  have hx1 := (hr1.keeps hS fun i hi h => by have h' : i = w.heap.size + 1 := h; have := hr1.ge hi; omega).less (lo' := w.heap.size) (by omega)
  have hx2 := (hr2.keeps hS fun i hi h => by have h' : i = w.heap.size + 1 := h; have := hr2.ge hi; omega).less (lo' := w.heap.size) (by omega)
  have hMge : w.heap.size + 1 < M2 := by omega
  have hK := ((((((((Keeps.refl noBlk w).alloc _).alloc _).trans HK1.out).alloc _).then HK2.out fun i hi h => by have h' : i = M2 := h; omega).then HK3.out fun i hi h => by have h' : i = M2 := h; omega).trans hk4).then hS fun i hi h => by have h' : i = w.heap.size + 1 := h; omega
  have HFIN : Hid (RetYes w (moved ⟨xs, ys, L⟩ 2 (u + 1) (v + 1) sm) (.returned (.tuple #[.agg #[.slice A3 m1 d1, .slice A4 m2 d2, .int .i64 L], .bool true])) (((w4.setCell ⟨w.heap.size + 1, 0, none⟩ (.slice A3 m1 d1)).setCell ⟨w.heap.size + 1, 1, none⟩ (.slice A4 m2 d2)).setCell ⟨w.heap.size + 1, 2, none⟩ (.int .i64 L))) := by
    show RetYes _ _ _ _
    rw [HMV.out]
    exact ⟨_, rfl, ⟨A3, m1, d1, A4, m2, d2, rfl, hx1, hx2, hd, k1, k2, j1, j2⟩, hK⟩
  clear hS hx1 hx2 hK hr1 hr2 hd hR4 hk4
  go_wp2
  refine bodyPost_ret (v := .tuple #[.agg #[.slice A3 m1 d1, .slice A4 m2 d2, .int .i64 L], .bool true]) (by simp [results, Try.results17, go_sem, r0, r1, r2]) rfl ?_
  exact HFIN.out

theorem mhas_user {zs : List Int} (h : zs.length = 3) (u : Int) : mhas zs u = userB u := by
  unfold mhas userB
  rw [h]
  rfl
theorem take_eq {b : BankL} {k f s : Int} (h : okB b = true) (hk : kindB k = true) : takeB (lst b k) f s = (userB f && decide (0 ≤ s) && decide (s ≤ has b k f)) := by
  unfold takeB
  rw [mhas_user (lst_len h k)]
  by_cases hf : userB f = true
  · have hu := user_range hf
    have e : mget (lst b k) f = has b k f := by
      unfold mget has
      rw [if_pos (by rw [lst_len h k]; omega)]
    rw [e]
  · simp [hf]

theorem implMove_any (A1 A2 : Option Addr) (n1 n2 c1 c2 : Nat) (L : Int) (xs ys : List Int) (w : World) (ha1 : Ints w A1 n1 xs) (ha2 : Ints w A2 n2 ys)
    (h1 : n1 ≤ maxLen) (h2 : n2 ≤ maxLen) (kd fr to sm : Int) (hfr : I64 fr) (hto : I64 to) :
    Calls Try.prog 17 #[.agg #[.slice A1 n1 c1, .slice A2 n2 c2, .int .i64 L], .int .i64 kd, .int .i64 fr, .int .i64 to, .int .i64 sm] w (RetB2 w (moveOk ⟨xs, ys, L⟩ kd fr to sm) (moved ⟨xs, ys, L⟩ kd fr to sm)) := by
  by_cases q2 : kindB kd = true
  · by_cases q1 : okB ⟨xs, ys, L⟩ = true
    · have ht := take_eq (f := fr) (s := sm) q1 q2
      by_cases q3 : takeB (lst ⟨xs, ys, L⟩ kd) fr sm = true
      · have q3' := q3
        rw [ht] at q3'
        simp only [Bool.and_eq_true, decide_eq_true_eq] at q3'
        obtain ⟨⟨hf, hs0⟩, hs1⟩ := q3'
        by_cases q4 : userB to = true
        · have hyes : moveOk ⟨xs, ys, L⟩ kd fr to sm = true := by simp [moveOk, q1, q2, hf, q4, hs0, hs1]
          have hu := user_range hf
          have hv := user_range q4
          obtain ⟨u, rfl⟩ := nat_of_user hf
          obtain ⟨v, rfl⟩ := nat_of_user q4
          rcases kind_cases q2 with rfl | rfl
          · exact (implMove_ok_1 A1 A2 n1 n2 c1 c2 L xs ys w ha1 ha2 h1 h2 u v sm q1 (by omega) (by omega) hs0 (by simpa [has, lst, ix] using hs1)).mono fun _ _ hr => RetB2.yes hyes hr
          · exact (implMove_ok_2 A1 A2 n1 n2 c1 c2 L xs ys w ha1 ha2 h1 h2 u v sm q1 (by omega) (by omega) hs0 (by simpa [has, lst, ix] using hs1)).mono fun _ _ hr => RetB2.yes hyes hr
        · have hno : moveOk ⟨xs, ys, L⟩ kd fr to sm = false := by simp [moveOk, q4]
          rcases kind_cases q2 with rfl | rfl
          · exact (implMove_f4_1 A1 A2 n1 n2 c1 c2 L xs ys w ha1 ha2 h1 h2 fr to sm hfr hto q1 q3 ((mhas_user (zs := xs) (lst_len q1 1) to).trans (Bool.eq_false_iff.2 q4))).mono fun _ _ hr => RetB2.no hno hr
          · exact (implMove_f4_2 A1 A2 n1 n2 c1 c2 L xs ys w ha1 ha2 h1 h2 fr to sm hfr hto q1 q3 ((mhas_user (zs := ys) (lst_len q1 2) to).trans (Bool.eq_false_iff.2 q4))).mono fun _ _ hr => RetB2.no hno hr
      · have hno : moveOk ⟨xs, ys, L⟩ kd fr to sm = false := by
          rw [ht] at q3
          rw [Bool.eq_false_iff]
          intro hm
          simp only [moveOk, Bool.and_eq_true] at hm
          exact q3 (by simp only [Bool.and_eq_true]; exact ⟨⟨hm.1.1.1.2, hm.1.2⟩, hm.2⟩)
        rcases kind_cases q2 with rfl | rfl
        · exact (implMove_f3_1 A1 A2 n1 n2 c1 c2 L xs ys w ha1 ha2 h1 h2 fr to sm hfr q1 (Bool.eq_false_iff.2 q3)).mono fun _ _ hr => RetB2.no hno hr
        · exact (implMove_f3_2 A1 A2 n1 n2 c1 c2 L xs ys w ha1 ha2 h1 h2 fr to sm hfr q1 (Bool.eq_false_iff.2 q3)).mono fun _ _ hr => RetB2.no hno hr
    · have hno : moveOk ⟨xs, ys, L⟩ kd fr to sm = false := by simp [moveOk, q1]
      rcases kind_cases q2 with rfl | rfl
      · exact (implMove_f2_1 A1 A2 n1 n2 c1 c2 L xs ys w ha1 ha2 h1 h2 fr to sm (Bool.eq_false_iff.2 q1)).mono fun _ _ hr => RetB2.no hno hr
      · exact (implMove_f2_2 A1 A2 n1 n2 c1 c2 L xs ys w ha1 ha2 h1 h2 fr to sm (Bool.eq_false_iff.2 q1)).mono fun _ _ hr => RetB2.no hno hr
  · exact (implMove_f1 A1 A2 n1 n2 c1 c2 L xs ys w ha1 ha2 h1 h2 kd fr to sm (Bool.eq_false_iff.2 q2)).mono fun _ _ hr => RetB2.no (by simp [moveOk, q2]) hr

end Go.Proofs.Ytjbllfnfnkghgab
