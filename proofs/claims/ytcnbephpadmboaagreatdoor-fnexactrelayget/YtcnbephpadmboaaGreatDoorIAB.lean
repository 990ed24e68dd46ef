/- BankAway and BankBack of the program. -/
import Derived.Test.YtcnbephpadmboaaGreatDoorUIMv
import Derived.Test.YtcnbephpadmboaaGreatDoorUTurn
set_option linter.unusedVariables false
set_option linter.unusedSimpArgs false
namespace Go.Proofs.YtcnbephpadmboaaGreatDoor
open Go.RowKit
set_option maxRecDepth 100000


set_option maxHeartbeats 400000 in
theorem implBack_f1 (A1 A2 : Option Addr) (n1 n2 c1 c2 : Nat) (L : Int) (xs ys : List Int) (w : World) (ha1 : Ints w A1 n1 xs) (ha2 : Ints w A2 n2 ys) (h1 : n1 ≤ maxLen) (h2 : n2 ≤ maxLen) (kd fr sm : Int) (q2 : kindB kd = false) : Calls Tryz.prog 84 #[.agg #[.slice A1 n1 c1, .slice A2 n2 c2, .int .i64 L], .int .i64 kd, .int .i64 fr, .int .i64 sm] w (RetNo w) := by
  go_enter Tryz.func84, Tryz.ntmps84
  go_wp2_with fail
  refine (openLed_f1 A1 A2 n1 n2 _ _ L xs ys _ ((ha1.alloc _).alloc _) ((ha2.alloc _).alloc _) h1 h2 kd q2).mono ?_
  rintro e w1 ⟨rfl, hk1⟩
  simp only [noLed]
  have hb6 := (Box.new (w.alloc (.cells #[.slice A1 n1 c1, .slice A2 n2 c2, .int .i64 L] 36)) (w.heap.size + 1) (by simp) 36 #[.slice none 0 0, .slice none 0 0, .int .i64 0]).keeps hk1 fun h => h
  have r0 := hb6.cell 0
  have r1 := hb6.cell 1
  have r2 := hb6.cell 2
  have f0 := hb6.frozen 0
  have f1 := hb6.frozen 1
  have f2 := hb6.frozen 2
  simp at r0 r1 r2
  have hz : w.heap.size + 1 < w1.heap.size := hb6.lt
  have hz0 : w.heap.size < w1.heap.size := by omega
  have HB6 := Lib.hid hb6
  have HK1 := Lib.hid hk1
  clear hb6 hk1
  go_wp2
  refine bodyPost_ret (v := .tuple #[noBank, .bool false]) (by simp [results, Tryz.results84, go_sem, noBank, r0, r1, r2, hz]) rfl ?_
  exact ⟨rfl, ((((((((Keeps.refl _ w).alloc _).alloc _).trans HK1.out).new (by omega) _ _).new (by omega) _ _).new (by omega) _ _).alloc _)⟩

set_option maxHeartbeats 400000 in
theorem implBack_f2_1 (A1 A2 : Option Addr) (n1 n2 c1 c2 : Nat) (L : Int) (xs ys : List Int) (w : World) (ha1 : Ints w A1 n1 xs) (ha2 : Ints w A2 n2 ys) (h1 : n1 ≤ maxLen) (h2 : n2 ≤ maxLen) (fr sm : Int) (q1 : okB ⟨xs, ys, L⟩ = false) : Calls Tryz.prog 84 #[.agg #[.slice A1 n1 c1, .slice A2 n2 c2, .int .i64 L], .int .i64 1, .int .i64 fr, .int .i64 sm] w (RetNo w) := by
  go_enter Tryz.func84, Tryz.ntmps84
  go_wp2_with fail
  refine (openLed_f2_1 A1 A2 n1 n2 _ _ L xs ys _ ((ha1.alloc _).alloc _) ((ha2.alloc _).alloc _) h1 h2 q1).mono ?_
  rintro e w1 ⟨rfl, hk1⟩
  simp only [noLed]
  have hb6 := (Box.new (w.alloc (.cells #[.slice A1 n1 c1, .slice A2 n2 c2, .int .i64 L] 36)) (w.heap.size + 1) (by simp) 36 #[.slice none 0 0, .slice none 0 0, .int .i64 0]).keeps hk1 fun h => h
  have r0 := hb6.cell 0
  have r1 := hb6.cell 1
  have r2 := hb6.cell 2
  have f0 := hb6.frozen 0
  have f1 := hb6.frozen 1
  have f2 := hb6.frozen 2
  simp at r0 r1 r2
  have hz : w.heap.size + 1 < w1.heap.size := hb6.lt
  have hz0 : w.heap.size < w1.heap.size := by omega
  have HB6 := Lib.hid hb6
  have HK1 := Lib.hid hk1
  clear hb6 hk1
  go_wp2
  refine bodyPost_ret (v := .tuple #[noBank, .bool false]) (by simp [results, Tryz.results84, go_sem, noBank, r0, r1, r2, hz]) rfl ?_
  exact ⟨rfl, ((((((((Keeps.refl _ w).alloc _).alloc _).trans HK1.out).new (by omega) _ _).new (by omega) _ _).new (by omega) _ _).alloc _)⟩

set_option maxHeartbeats 400000 in
theorem implBack_f2_2 (A1 A2 : Option Addr) (n1 n2 c1 c2 : Nat) (L : Int) (xs ys : List Int) (w : World) (ha1 : Ints w A1 n1 xs) (ha2 : Ints w A2 n2 ys) (h1 : n1 ≤ maxLen) (h2 : n2 ≤ maxLen) (fr sm : Int) (q1 : okB ⟨xs, ys, L⟩ = false) : Calls Tryz.prog 84 #[.agg #[.slice A1 n1 c1, .slice A2 n2 c2, .int .i64 L], .int .i64 2, .int .i64 fr, .int .i64 sm] w (RetNo w) := by
  go_enter Tryz.func84, Tryz.ntmps84
  go_wp2_with fail
  refine (openLed_f2_2 A1 A2 n1 n2 _ _ L xs ys _ ((ha1.alloc _).alloc _) ((ha2.alloc _).alloc _) h1 h2 q1).mono ?_
  rintro e w1 ⟨rfl, hk1⟩
  simp only [noLed]
  have hb6 := (Box.new (w.alloc (.cells #[.slice A1 n1 c1, .slice A2 n2 c2, .int .i64 L] 36)) (w.heap.size + 1) (by simp) 36 #[.slice none 0 0, .slice none 0 0, .int .i64 0]).keeps hk1 fun h => h
  have r0 := hb6.cell 0
  have r1 := hb6.cell 1
  have r2 := hb6.cell 2
  have f0 := hb6.frozen 0
  have f1 := hb6.frozen 1
  have f2 := hb6.frozen 2
  simp at r0 r1 r2
  have hz : w.heap.size + 1 < w1.heap.size := hb6.lt
  have hz0 : w.heap.size < w1.heap.size := by omega
  have HB6 := Lib.hid hb6
  have HK1 := Lib.hid hk1
  clear hb6 hk1
  go_wp2
  refine bodyPost_ret (v := .tuple #[noBank, .bool false]) (by simp [results, Tryz.results84, go_sem, noBank, r0, r1, r2, hz]) rfl ?_
  exact ⟨rfl, ((((((((Keeps.refl _ w).alloc _).alloc _).trans HK1.out).new (by omega) _ _).new (by omega) _ _).new (by omega) _ _).alloc _)⟩

set_option maxHeartbeats 400000 in
theorem implBack_f3_1 (A1 A2 : Option Addr) (n1 n2 c1 c2 : Nat) (L : Int) (xs ys : List Int) (w : World) (ha1 : Ints w A1 n1 xs) (ha2 : Ints w A2 n2 ys) (h1 : n1 ≤ maxLen) (h2 : n2 ≤ maxLen) (fr sm : Int) (hfr : M64 fr) (q1 : okB ⟨xs, ys, L⟩ = true) (q3 : mhas xs fr = false) : Calls Tryz.prog 84 #[.agg #[.slice A1 n1 c1, .slice A2 n2 c2, .int .i64 L], .int .i64 1, .int .i64 fr, .int .i64 sm] w (RetNo w) := by
  have HA1 := Lib.hid ha1
  have HA2 := Lib.hid ha2
  clear ha1 ha2
  go_enter Tryz.func84, Tryz.ntmps84
  go_wp2_with fail
  refine (openLed_ok_1 A1 A2 n1 n2 _ _ L xs ys _ ((HA1.out.alloc _).alloc _) ((HA2.out.alloc _).alloc _) h1 h2 q1).mono ?_
  rintro e w1 ⟨M1, M2, rfl, g1, g2, gne, hm1, hm2, hk1⟩
  simp only [if_true]
  simp only [World.size_alloc] at g1 g2
  have hb6 := (Box.new (w.alloc (.cells #[.slice A1 n1 c1, .slice A2 n2 c2, .int .i64 L] 36)) (w.heap.size + 1) (by simp) 36 #[.slice none 0 0, .slice none 0 0, .int .i64 0]).keeps hk1 fun h => h
  have r0 := hb6.cell 0
  have r1 := hb6.cell 1
  have r2 := hb6.cell 2
  have f0 := hb6.frozen 0
  have f1 := hb6.frozen 1
  have f2 := hb6.frozen 2
  simp at r0 r1 r2
  have hz : w.heap.size + 1 < w1.heap.size := hb6.lt
  have hz0 : w.heap.size < w1.heap.size := by omega
  have HB6 := Lib.hid hb6
  have HK1 := Lib.hid hk1
  clear hb6 hk1
  have HM1 := Lib.hid hm1
  have HM2 := Lib.hid hm2
  clear hm1 hm2
  go_wp2_with fail
  refine (hasUser_any M1 _ xs fr _ (HM1.out.alloc _) hfr).mono ?_
  rintro e w' ⟨rfl, rfl⟩
  go_wp2
  refine bodyPost_ret (v := .tuple #[noBank, .bool false]) (by simp [results, Tryz.results84, go_sem, noBank, r0, r1, r2, hz]) rfl ?_
  exact ⟨rfl, ((((((((Keeps.refl _ w).alloc _).alloc _).trans HK1.out).new (by omega) _ _).new (by omega) _ _).new (by omega) _ _).alloc _)⟩

set_option maxHeartbeats 400000 in
theorem implBack_f4_1 (A1 A2 : Option Addr) (n1 n2 c1 c2 : Nat) (L : Int) (xs ys : List Int) (w : World) (ha1 : Ints w A1 n1 xs) (ha2 : Ints w A2 n2 ys) (h1 : n1 ≤ maxLen) (h2 : n2 ≤ maxLen) (fr sm : Int) (hfr : M64 fr) (q1 : okB ⟨xs, ys, L⟩ = true) (q3 : mhas xs fr = true) (q5 : decide (sm < 0) = true) : Calls Tryz.prog 84 #[.agg #[.slice A1 n1 c1, .slice A2 n2 c2, .int .i64 L], .int .i64 1, .int .i64 fr, .int .i64 sm] w (RetNo w) := by
  have HA1 := Lib.hid ha1
  have HA2 := Lib.hid ha2
  clear ha1 ha2
  go_enter Tryz.func84, Tryz.ntmps84
  go_wp2_with fail
  refine (openLed_ok_1 A1 A2 n1 n2 _ _ L xs ys _ ((HA1.out.alloc _).alloc _) ((HA2.out.alloc _).alloc _) h1 h2 q1).mono ?_
  rintro e w1 ⟨M1, M2, rfl, g1, g2, gne, hm1, hm2, hk1⟩
  simp only [if_true]
  simp only [World.size_alloc] at g1 g2
  have hb6 := (Box.new (w.alloc (.cells #[.slice A1 n1 c1, .slice A2 n2 c2, .int .i64 L] 36)) (w.heap.size + 1) (by simp) 36 #[.slice none 0 0, .slice none 0 0, .int .i64 0]).keeps hk1 fun h => h
  have r0 := hb6.cell 0
  have r1 := hb6.cell 1
  have r2 := hb6.cell 2
  have f0 := hb6.frozen 0
  have f1 := hb6.frozen 1
  have f2 := hb6.frozen 2
  simp at r0 r1 r2
  have hz : w.heap.size + 1 < w1.heap.size := hb6.lt
  have hz0 : w.heap.size < w1.heap.size := by omega
  have HB6 := Lib.hid hb6
  have HK1 := Lib.hid hk1
  clear hb6 hk1
  have HM1 := Lib.hid hm1
  have HM2 := Lib.hid hm2
  clear hm1 hm2
  go_wp2_with fail
  refine (hasUser_any M1 _ xs fr _ (HM1.out.alloc _) hfr).mono ?_
  rintro e w' ⟨rfl, rfl⟩
  go_wp2
  refine bodyPost_ret (v := .tuple #[noBank, .bool false]) (by simp [results, Tryz.results84, go_sem, noBank, r0, r1, r2, hz]) rfl ?_
  exact ⟨rfl, ((((((((Keeps.refl _ w).alloc _).alloc _).trans HK1.out).new (by omega) _ _).new (by omega) _ _).new (by omega) _ _).alloc _)⟩

set_option maxHeartbeats 400000 in
theorem implBack_f3_2 (A1 A2 : Option Addr) (n1 n2 c1 c2 : Nat) (L : Int) (xs ys : List Int) (w : World) (ha1 : Ints w A1 n1 xs) (ha2 : Ints w A2 n2 ys) (h1 : n1 ≤ maxLen) (h2 : n2 ≤ maxLen) (fr sm : Int) (hfr : M64 fr) (q1 : okB ⟨xs, ys, L⟩ = true) (q3 : mhas ys fr = false) : Calls Tryz.prog 84 #[.agg #[.slice A1 n1 c1, .slice A2 n2 c2, .int .i64 L], .int .i64 2, .int .i64 fr, .int .i64 sm] w (RetNo w) := by
  have HA1 := Lib.hid ha1
  have HA2 := Lib.hid ha2
  clear ha1 ha2
  go_enter Tryz.func84, Tryz.ntmps84
  go_wp2_with fail
  refine (openLed_ok_2 A1 A2 n1 n2 _ _ L xs ys _ ((HA1.out.alloc _).alloc _) ((HA2.out.alloc _).alloc _) h1 h2 q1).mono ?_
  rintro e w1 ⟨M1, M2, rfl, g1, g2, gne, hm1, hm2, hk1⟩
  simp only [reduceIte, Nat.reduceEqDiff]
  simp only [World.size_alloc] at g1 g2
  have hb6 := (Box.new (w.alloc (.cells #[.slice A1 n1 c1, .slice A2 n2 c2, .int .i64 L] 36)) (w.heap.size + 1) (by simp) 36 #[.slice none 0 0, .slice none 0 0, .int .i64 0]).keeps hk1 fun h => h
  have r0 := hb6.cell 0
  have r1 := hb6.cell 1
  have r2 := hb6.cell 2
  have f0 := hb6.frozen 0
  have f1 := hb6.frozen 1
  have f2 := hb6.frozen 2
  simp at r0 r1 r2
  have hz : w.heap.size + 1 < w1.heap.size := hb6.lt
  have hz0 : w.heap.size < w1.heap.size := by omega
  have HB6 := Lib.hid hb6
  have HK1 := Lib.hid hk1
  clear hb6 hk1
  have HM1 := Lib.hid hm1
  have HM2 := Lib.hid hm2
  clear hm1 hm2
  go_wp2_with fail
  refine (hasUser_any M2 _ ys fr _ (HM2.out.alloc _) hfr).mono ?_
  rintro e w' ⟨rfl, rfl⟩
  go_wp2
  refine bodyPost_ret (v := .tuple #[noBank, .bool false]) (by simp [results, Tryz.results84, go_sem, noBank, r0, r1, r2, hz]) rfl ?_
  exact ⟨rfl, ((((((((Keeps.refl _ w).alloc _).alloc _).trans HK1.out).new (by omega) _ _).new (by omega) _ _).new (by omega) _ _).alloc _)⟩

set_option maxHeartbeats 400000 in
theorem implBack_f4_2 (A1 A2 : Option Addr) (n1 n2 c1 c2 : Nat) (L : Int) (xs ys : List Int) (w : World) (ha1 : Ints w A1 n1 xs) (ha2 : Ints w A2 n2 ys) (h1 : n1 ≤ maxLen) (h2 : n2 ≤ maxLen) (fr sm : Int) (hfr : M64 fr) (q1 : okB ⟨xs, ys, L⟩ = true) (q3 : mhas ys fr = true) (q5 : decide (sm < 0) = true) : Calls Tryz.prog 84 #[.agg #[.slice A1 n1 c1, .slice A2 n2 c2, .int .i64 L], .int .i64 2, .int .i64 fr, .int .i64 sm] w (RetNo w) := by
  have HA1 := Lib.hid ha1
  have HA2 := Lib.hid ha2
  clear ha1 ha2
  go_enter Tryz.func84, Tryz.ntmps84
  go_wp2_with fail
  refine (openLed_ok_2 A1 A2 n1 n2 _ _ L xs ys _ ((HA1.out.alloc _).alloc _) ((HA2.out.alloc _).alloc _) h1 h2 q1).mono ?_
  rintro e w1 ⟨M1, M2, rfl, g1, g2, gne, hm1, hm2, hk1⟩
  simp only [reduceIte, Nat.reduceEqDiff]
  simp only [World.size_alloc] at g1 g2
  have hb6 := (Box.new (w.alloc (.cells #[.slice A1 n1 c1, .slice A2 n2 c2, .int .i64 L] 36)) (w.heap.size + 1) (by simp) 36 #[.slice none 0 0, .slice none 0 0, .int .i64 0]).keeps hk1 fun h => h
  have r0 := hb6.cell 0
  have r1 := hb6.cell 1
  have r2 := hb6.cell 2
  have f0 := hb6.frozen 0
  have f1 := hb6.frozen 1
  have f2 := hb6.frozen 2
  simp at r0 r1 r2
  have hz : w.heap.size + 1 < w1.heap.size := hb6.lt
  have hz0 : w.heap.size < w1.heap.size := by omega
  have HB6 := Lib.hid hb6
  have HK1 := Lib.hid hk1
  clear hb6 hk1
  have HM1 := Lib.hid hm1
  have HM2 := Lib.hid hm2
  clear hm1 hm2
  go_wp2_with fail
  refine (hasUser_any M2 _ ys fr _ (HM2.out.alloc _) hfr).mono ?_
  rintro e w' ⟨rfl, rfl⟩
  go_wp2
  refine bodyPost_ret (v := .tuple #[noBank, .bool false]) (by simp [results, Tryz.results84, go_sem, noBank, r0, r1, r2, hz]) rfl ?_
  exact ⟨rfl, ((((((((Keeps.refl _ w).alloc _).alloc _).trans HK1.out).new (by omega) _ _).new (by omega) _ _).new (by omega) _ _).alloc _)⟩

set_option maxHeartbeats 400000 in
theorem implBack_f5_1 (A1 A2 : Option Addr) (n1 n2 c1 c2 : Nat) (L : Int) (xs ys : List Int) (w : World) (ha1 : Ints w A1 n1 xs) (ha2 : Ints w A2 n2 ys) (h1 : n1 ≤ maxLen) (h2 : n2 ≤ maxLen) (fr sm : Int) (hfr : M64 fr) (q1 : okB ⟨xs, ys, L⟩ = true) (q3 : mhas xs fr = true) (q5 : decide (sm < 0) = false) (q6 : decide (sm > L) = true) : Calls Tryz.prog 84 #[.agg #[.slice A1 n1 c1, .slice A2 n2 c2, .int .i64 L], .int .i64 1, .int .i64 fr, .int .i64 sm] w (RetNo w) := by
  have hl1 : xs.length = 3 := lst_len q1 1
  have hl2 : ys.length = 3 := lst_len q1 2
  have HL1 := Lib.hid hl1
  have HL2 := Lib.hid hl2
  have HS2 := Lib.hid (lst_small q1 2)
  simp only [lst] at HS2
  have hNb := notes_bounds q1
  have hLb := locked_bounds q1
  dsimp only at hNb hLb
  have HA1 := Lib.hid ha1
  have HA2 := Lib.hid ha2
  clear ha1 ha2
  go_enter Tryz.func84, Tryz.ntmps84
  go_wp2_with fail
  refine (openLed_ok_1 A1 A2 n1 n2 _ _ L xs ys _ ((HA1.out.alloc _).alloc _) ((HA2.out.alloc _).alloc _) h1 h2 q1).mono ?_
  rintro e w1 ⟨M1, M2, rfl, g1, g2, gne, hm1, hm2, hk1⟩
  simp only [if_true]
  simp only [World.size_alloc] at g1 g2
  have hb6 := (Box.new (w.alloc (.cells #[.slice A1 n1 c1, .slice A2 n2 c2, .int .i64 L] 36)) (w.heap.size + 1) (by simp) 36 #[.slice none 0 0, .slice none 0 0, .int .i64 0]).keeps hk1 fun h => h
  have r0 := hb6.cell 0
  have r1 := hb6.cell 1
  have r2 := hb6.cell 2
  have f0 := hb6.frozen 0
  have f1 := hb6.frozen 1
  have f2 := hb6.frozen 2
  simp at r0 r1 r2
  have hz : w.heap.size + 1 < w1.heap.size := hb6.lt
  have hz0 : w.heap.size < w1.heap.size := by omega
  have HB6 := Lib.hid hb6
  have HK1 := Lib.hid hk1
  clear hb6 hk1
  have HM1 := Lib.hid hm1
  have HM2 := Lib.hid hm2
  clear hm1 hm2
  go_wp2_with fail
  refine (hasUser_any M1 _ xs fr _ (HM1.out.alloc _) hfr).mono ?_
  rintro e w' ⟨rfl, rfl⟩
  go_wp2_with fail
  refine (room_1 M1 M2 L _).mono ?_
  rintro e w5 ⟨rfl, hk5⟩
  have hb7 := (HB6.out.alloc (.cells #[.map (some M1), .map (some M2), .int .i64 L] 140)).keeps hk5 fun h => h
  have r0 := hb7.cell 0
  have r1 := hb7.cell 1
  have r2 := hb7.cell 2
  have f0 := hb7.frozen 0
  have f1 := hb7.frozen 1
  have f2 := hb7.frozen 2
  simp at r0 r1 r2
  have hz5 : w.heap.size + 1 < w5.heap.size := hb7.lt
  have hz6 : w.heap.size < w5.heap.size := by omega
  have hbl := (Box.new w1 _ rfl 140 #[.map (some M1), .map (some M2), .int .i64 L]).keeps hk5 fun h => h
  have hzl : w1.heap.size < w5.heap.size := hbl.lt
  have hn1 := (HM1.out.alloc (.cells #[.map (some M1), .map (some M2), .int .i64 L] 140)).keeps hk5 fun h => h
  have hn2 := (HM2.out.alloc (.cells #[.map (some M1), .map (some M2), .int .i64 L] 140)).keeps hk5 fun h => h
  have HN1 := Lib.hid hn1
  have HN2 := Lib.hid hn2
  have HB7 := Lib.hid hb7
  have HBL := Lib.hid hbl
  have HK5 := Lib.hid hk5
  clear hn1 hn2 hb7 hbl hk5
  go_wp2
  refine bodyPost_ret (v := .tuple #[noBank, .bool false]) (by simp [results, Tryz.results84, go_sem, noBank, r0, r1, r2, hz5, hz6]) rfl ?_
  exact ⟨rfl, ((((((((Keeps.refl _ w).alloc _).alloc _).trans HK1.out).alloc _).trans HK5.out).new (by omega) _ _).new (by omega) _ _).new (by omega) _ _⟩

set_option maxHeartbeats 400000 in
theorem implBack_f5_2 (A1 A2 : Option Addr) (n1 n2 c1 c2 : Nat) (L : Int) (xs ys : List Int) (w : World) (ha1 : Ints w A1 n1 xs) (ha2 : Ints w A2 n2 ys) (h1 : n1 ≤ maxLen) (h2 : n2 ≤ maxLen) (fr sm : Int) (hfr : M64 fr) (q1 : okB ⟨xs, ys, L⟩ = true) (q3 : mhas ys fr = true) (q5 : decide (sm < 0) = false) (q6 : decide (sm > (30 - sumL ys)) = true) : Calls Tryz.prog 84 #[.agg #[.slice A1 n1 c1, .slice A2 n2 c2, .int .i64 L], .int .i64 2, .int .i64 fr, .int .i64 sm] w (RetNo w) := by
  have hl1 : xs.length = 3 := lst_len q1 1
  have hl2 : ys.length = 3 := lst_len q1 2
  have HL1 := Lib.hid hl1
  have HL2 := Lib.hid hl2
  have HS2 := Lib.hid (lst_small q1 2)
  simp only [lst] at HS2
  have hNb := notes_bounds q1
  have hLb := locked_bounds q1
  dsimp only at hNb hLb
  have HA1 := Lib.hid ha1
  have HA2 := Lib.hid ha2
  clear ha1 ha2
  go_enter Tryz.func84, Tryz.ntmps84
  go_wp2_with fail
  refine (openLed_ok_2 A1 A2 n1 n2 _ _ L xs ys _ ((HA1.out.alloc _).alloc _) ((HA2.out.alloc _).alloc _) h1 h2 q1).mono ?_
  rintro e w1 ⟨M1, M2, rfl, g1, g2, gne, hm1, hm2, hk1⟩
  simp only [reduceIte, Nat.reduceEqDiff]
  simp only [World.size_alloc] at g1 g2
  have hb6 := (Box.new (w.alloc (.cells #[.slice A1 n1 c1, .slice A2 n2 c2, .int .i64 L] 36)) (w.heap.size + 1) (by simp) 36 #[.slice none 0 0, .slice none 0 0, .int .i64 0]).keeps hk1 fun h => h
  have r0 := hb6.cell 0
  have r1 := hb6.cell 1
  have r2 := hb6.cell 2
  have f0 := hb6.frozen 0
  have f1 := hb6.frozen 1
  have f2 := hb6.frozen 2
  simp at r0 r1 r2
  have hz : w.heap.size + 1 < w1.heap.size := hb6.lt
  have hz0 : w.heap.size < w1.heap.size := by omega
  have HB6 := Lib.hid hb6
  have HK1 := Lib.hid hk1
  clear hb6 hk1
  have HM1 := Lib.hid hm1
  have HM2 := Lib.hid hm2
  clear hm1 hm2
  go_wp2_with fail
  refine (hasUser_any M2 _ ys fr _ (HM2.out.alloc _) hfr).mono ?_
  rintro e w' ⟨rfl, rfl⟩
  go_wp2_with fail
  refine (room_2 M1 M2 _ L ys _ (HM2.out.alloc _) (by rw [HL2.out]; omega) HS2.out).mono ?_
  rintro e w5 ⟨rfl, hk5⟩
  have hb7 := (HB6.out.alloc (.cells #[.map (some M1), .map (some M2), .int .i64 L] 140)).keeps hk5 fun h => h
  have r0 := hb7.cell 0
  have r1 := hb7.cell 1
  have r2 := hb7.cell 2
  have f0 := hb7.frozen 0
  have f1 := hb7.frozen 1
  have f2 := hb7.frozen 2
  simp at r0 r1 r2
  have hz5 : w.heap.size + 1 < w5.heap.size := hb7.lt
  have hz6 : w.heap.size < w5.heap.size := by omega
  have hbl := (Box.new w1 _ rfl 140 #[.map (some M1), .map (some M2), .int .i64 L]).keeps hk5 fun h => h
  have hzl : w1.heap.size < w5.heap.size := hbl.lt
  have hn1 := (HM1.out.alloc (.cells #[.map (some M1), .map (some M2), .int .i64 L] 140)).keeps hk5 fun h => h
  have hn2 := (HM2.out.alloc (.cells #[.map (some M1), .map (some M2), .int .i64 L] 140)).keeps hk5 fun h => h
  have HN1 := Lib.hid hn1
  have HN2 := Lib.hid hn2
  have HB7 := Lib.hid hb7
  have HBL := Lib.hid hbl
  have HK5 := Lib.hid hk5
  clear hn1 hn2 hb7 hbl hk5
  go_wp2
  refine bodyPost_ret (v := .tuple #[noBank, .bool false]) (by simp [results, Tryz.results84, go_sem, noBank, r0, r1, r2, hz5, hz6]) rfl ?_
  exact ⟨rfl, ((((((((Keeps.refl _ w).alloc _).alloc _).trans HK1.out).alloc _).trans HK5.out).new (by omega) _ _).new (by omega) _ _).new (by omega) _ _⟩

set_option maxHeartbeats 2000000 in
theorem implBack_ok_1 (A1 A2 : Option Addr) (n1 n2 c1 c2 : Nat) (L : Int) (xs ys : List Int) (w : World) (ha1 : Ints w A1 n1 xs) (ha2 : Ints w A2 n2 ys) (h1 : n1 ≤ maxLen) (h2 : n2 ≤ maxLen) (u : Nat) (sm : Int) (q1 : okB ⟨xs, ys, L⟩ = true) (hu : (u : Int) < 3) (hs0 : 0 ≤ sm) (q6 : decide (sm > L) = false) (hq6 : sm ≤ L) :
    Calls Tryz.prog 84 #[.agg #[.slice A1 n1 c1, .slice A2 n2 c2, .int .i64 L], .int .i64 1, .int .i64 ((u : Int) + 1), .int .i64 sm] w (RetYes w (backed ⟨xs, ys, L⟩ 1 (u + 1) sm)) := by
  have hl1 : xs.length = 3 := lst_len q1 1
  have hl2 : ys.length = 3 := lst_len q1 2
  have HL1 := Lib.hid hl1
  have HL2 := Lib.hid hl2
  have HS2 := Lib.hid (lst_small q1 2)
  simp only [lst] at HS2
  have hNb := notes_bounds q1
  have hLb := locked_bounds q1
  dsimp only at hNb hLb
  have hfr : M64 ((u : Int) + 1) := ⟨by omega, by omega⟩
  have hx : 0 ≤ xs.getD u 0 ∧ xs.getD u 0 ≤ 30 := by simpa [has, lst, ix] using has_bounds q1 1 ((u : Int) + 1)
  have HMV : Hid (backed ⟨xs, ys, L⟩ 1 (u + 1) sm = ⟨xs.set u (xs.getD u 0 + sm), ys, (L - sm)⟩) := by
    show _ = _
    exact backed_1 xs ys L u sm
  have hg1 : mget xs ((u : Int) + 1) = xs.getD u 0 := by unfold mget; rw [if_pos (by omega), ix]
  have q3 : mhas xs ((u : Int) + 1) = true := by
    unfold mhas
    simp only [Bool.and_eq_true, decide_eq_true_eq]
    omega
  have q5 : decide (sm < 0) = false := by simp; omega
  generalize hxe : xs.getD u 0 = x at hx HMV hg1
  clear hxe
  have HG1 := Lib.hid hg1
  clear hg1 hl1 hl2
  have HA1 := Lib.hid ha1
  have HA2 := Lib.hid ha2
  clear ha1 ha2
  go_enter Tryz.func84, Tryz.ntmps84
  go_wp2_with fail
  refine (openLed_ok_1 A1 A2 n1 n2 _ _ L xs ys _ ((HA1.out.alloc _).alloc _) ((HA2.out.alloc _).alloc _) h1 h2 q1).mono ?_
  rintro e w1 ⟨M1, M2, rfl, g1, g2, gne, hm1, hm2, hk1⟩
  simp only [if_true]
  simp only [World.size_alloc] at g1 g2
  have hb6 := (Box.new (w.alloc (.cells #[.slice A1 n1 c1, .slice A2 n2 c2, .int .i64 L] 36)) (w.heap.size + 1) (by simp) 36 #[.slice none 0 0, .slice none 0 0, .int .i64 0]).keeps hk1 fun h => h
  have r0 := hb6.cell 0
  have r1 := hb6.cell 1
  have r2 := hb6.cell 2
  have f0 := hb6.frozen 0
  have f1 := hb6.frozen 1
  have f2 := hb6.frozen 2
  simp at r0 r1 r2
  have hz : w.heap.size + 1 < w1.heap.size := hb6.lt
  have hz0 : w.heap.size < w1.heap.size := by omega
  have HB6 := Lib.hid hb6
  have HK1 := Lib.hid hk1
  clear hb6 hk1
  have HM1 := Lib.hid hm1
  have HM2 := Lib.hid hm2
  clear hm1 hm2
  go_wp2_with fail
  refine (hasUser_any M1 _ xs ((u : Int) + 1) _ (HM1.out.alloc _) hfr).mono ?_
  rintro e w' ⟨rfl, rfl⟩
  go_wp2_with fail
  refine (room_1 M1 M2 L _).mono ?_
  rintro e w5 ⟨rfl, hk5⟩
  have hb7 := (HB6.out.alloc (.cells #[.map (some M1), .map (some M2), .int .i64 L] 140)).keeps hk5 fun h => h
  have r0 := hb7.cell 0
  have r1 := hb7.cell 1
  have r2 := hb7.cell 2
  have f0 := hb7.frozen 0
  have f1 := hb7.frozen 1
  have f2 := hb7.frozen 2
  simp at r0 r1 r2
  have hz5 : w.heap.size + 1 < w5.heap.size := hb7.lt
  have hz6 : w.heap.size < w5.heap.size := by omega
  have hbl := (Box.new w1 _ rfl 140 #[.map (some M1), .map (some M2), .int .i64 L]).keeps hk5 fun h => h
  have hzl : w1.heap.size < w5.heap.size := hbl.lt
  have hn1 := (HM1.out.alloc (.cells #[.map (some M1), .map (some M2), .int .i64 L] 140)).keeps hk5 fun h => h
  have hn2 := (HM2.out.alloc (.cells #[.map (some M1), .map (some M2), .int .i64 L] 140)).keeps hk5 fun h => h
  have HN1 := Lib.hid hn1
  have HN2 := Lib.hid hn2
  have HB7 := Lib.hid hb7
  have HBL := Lib.hid hbl
  have HK5 := Lib.hid hk5
  clear hn1 hn2 hb7 hbl hk5
  have hM := HN1.out
  have hlk1 := hM.look (k := (u : Int) + 1) hfr
  rw [HG1.out] at hlk1
  obtain ⟨w2, hrun1, hM2, hk2⟩ := hM.put (k := (u : Int) + 1) (x := x + sm) (by rw [HL1.out]; omega) (by rw [HL1.out]; omega) ⟨by omega, by omega⟩ (by rw [HL1.out]; omega)
  rw [ix] at hM2
  have hMlt := HM1.out.lt
  have hMlo := HM2.out.lt
  have hBox := HBL.out.keeps hk2 fun h => by have h' : w1.heap.size = M1 := h; omega
  have t0 := hBox.cell 0
  have t1 := hBox.cell 1
  have t2 := hBox.cell 2
  have tf2 := hBox.frozen 2
  have tz : w1.heap.size < w2.heap.size := hBox.lt
  simp at t0 t1 t2
  have hOther := (HN2.out).keeps hk2 fun h => by have h' : M2 = M1 := h; omega
  have hRes := HB7.out.keeps hk2 fun h => by have h' : w.heap.size + 1 = M1 := h; omega
  have hKA := (((((Keeps.refl noBlk w).alloc _).alloc _).trans HK1.out).alloc _).trans HK5.out |>.then hk2 fun i hi h => by have h' : i = M1 := h; omega
  have hSL : Keeps (one w1.heap.size) w2 (w2.setCell ⟨w1.heap.size, 2, none⟩ (.int .i64 (L - sm))) := (Keeps.refl _ w2).set1 2 _
  have hM3 := hM2.keeps hSL fun h => by have h' : M1 = w1.heap.size := h; omega
  have hOther := hOther.keeps hSL fun h => by have h' : M2 = w1.heap.size := h; omega
  have hRes := hRes.keeps hSL fun h => by have h' : w.heap.size + 1 = w1.heap.size := h; omega
  have hKA := hKA.then hSL fun i hi h => by have h' : i = w1.heap.size := h; omega
  have HM3 := Lib.hid hM3
  have HOT := Lib.hid hOther
  have HRES := Lib.hid hRes
  have HKA := Lib.hid hKA
  clear hM hM2 hM3 hOther hRes hk2 hBox hKA hSL
  clear r0 r1 r2 f0 f1 f2
  go_wp2_with fail
  refine (ledBank_any M1 M2 _ _ (L - sm) _ _ _ HM3.out HOT.out (by rw [List.length_set, HL1.out]; omega) (by rw [HL2.out]; omega)).mono ?_
  rintro e w4 ⟨_, rfl, ⟨A3, m1, d1, A4, m2, d2, rfl, hr1, hr2, hd, k1, k2, j1, j2⟩, hk4⟩
  have hR4 := HRES.out.keeps hk4 fun h => h
  have r0 := hR4.cell 0
  have r1 := hR4.cell 1
  have r2 := hR4.cell 2
  have f0 := hR4.frozen 0
  have f1 := hR4.frozen 1
  have f2 := hR4.frozen 2
  simp at r0 r1 r2
  have s3 : w.heap.size + 1 < (w2.setCell ⟨w1.heap.size, 2, none⟩ (.int .i64 (L - sm))).heap.size := HRES.out.lt
  have hS : Keeps (one (w.heap.size + 1)) w4 (((w4.setCell ⟨w.heap.size + 1, 0, none⟩ (.slice A3 m1 d1)).setCell ⟨w.heap.size + 1, 1, none⟩ (.slice A4 m2 d2)).setCell ⟨w.heap.size + 1, 2, none⟩ (.int .i64 (L - sm))) := (((Keeps.refl _ w4).set1 _ _).set1 _ _).set1 _ _
  have hx1 := (hr1.keeps hS fun i hi h => by have h' : i = w.heap.size + 1 := h; have := hr1.ge hi; omega).less (lo' := w.heap.size) (by omega)
  have hx2 := (hr2.keeps hS fun i hi h => by have h' : i = w.heap.size + 1 := h; have := hr2.ge hi; omega).less (lo' := w.heap.size) (by omega)
  have hK := (HKA.out.trans hk4).then hS fun i hi h => by have h' : i = w.heap.size + 1 := h; omega
  have HFIN : Hid (RetYes w (backed ⟨xs, ys, L⟩ 1 (u + 1) sm) (.returned (.tuple #[.agg #[.slice A3 m1 d1, .slice A4 m2 d2, .int .i64 (L - sm)], .bool true])) (((w4.setCell ⟨w.heap.size + 1, 0, none⟩ (.slice A3 m1 d1)).setCell ⟨w.heap.size + 1, 1, none⟩ (.slice A4 m2 d2)).setCell ⟨w.heap.size + 1, 2, none⟩ (.int .i64 (L - sm)))) := by
    show RetYes _ _ _ _
    rw [HMV.out]
    exact ⟨_, rfl, ⟨A3, m1, d1, A4, m2, d2, rfl, hx1, hx2, hd, k1, k2, j1, j2⟩, hK⟩
  clear hS hx1 hx2 hK hr1 hr2 hd hR4 hk4
  go_wp2
  refine bodyPost_ret (v := .tuple #[.agg #[.slice A3 m1 d1, .slice A4 m2 d2, .int .i64 (L - sm)], .bool true]) (by simp [results, Tryz.results84, go_sem, r0, r1, r2]) rfl ?_
  exact HFIN.out

set_option maxHeartbeats 2000000 in
theorem implBack_ok_2 (A1 A2 : Option Addr) (n1 n2 c1 c2 : Nat) (L : Int) (xs ys : List Int) (w : World) (ha1 : Ints w A1 n1 xs) (ha2 : Ints w A2 n2 ys) (h1 : n1 ≤ maxLen) (h2 : n2 ≤ maxLen) (u : Nat) (sm : Int) (q1 : okB ⟨xs, ys, L⟩ = true) (hu : (u : Int) < 3) (hs0 : 0 ≤ sm) (q6 : decide (sm > (30 - sumL ys)) = false) (hq6 : sm ≤ (30 - sumL ys)) :
    Calls Tryz.prog 84 #[.agg #[.slice A1 n1 c1, .slice A2 n2 c2, .int .i64 L], .int .i64 2, .int .i64 ((u : Int) + 1), .int .i64 sm] w (RetYes w (backed ⟨xs, ys, L⟩ 2 (u + 1) sm)) := by
  have hl1 : xs.length = 3 := lst_len q1 1
  have hl2 : ys.length = 3 := lst_len q1 2
  have HL1 := Lib.hid hl1
  have HL2 := Lib.hid hl2
  have HS2 := Lib.hid (lst_small q1 2)
  simp only [lst] at HS2
  have hNb := notes_bounds q1
  have hLb := locked_bounds q1
  dsimp only at hNb hLb
  have hfr : M64 ((u : Int) + 1) := ⟨by omega, by omega⟩
  have hx : 0 ≤ ys.getD u 0 ∧ ys.getD u 0 ≤ 30 := by simpa [has, lst, ix] using has_bounds q1 2 ((u : Int) + 1)
  have HMV : Hid (backed ⟨xs, ys, L⟩ 2 (u + 1) sm = ⟨xs, ys.set u (ys.getD u 0 + sm), L⟩) := by
    show _ = _
    exact backed_2 xs ys L u sm
  have hg1 : mget ys ((u : Int) + 1) = ys.getD u 0 := by unfold mget; rw [if_pos (by omega), ix]
  have q3 : mhas ys ((u : Int) + 1) = true := by
    unfold mhas
    simp only [Bool.and_eq_true, decide_eq_true_eq]
    omega
  have q5 : decide (sm < 0) = false := by simp; omega
  generalize hxe : ys.getD u 0 = x at hx HMV hg1
  clear hxe
  have HG1 := Lib.hid hg1
  clear hg1 hl1 hl2
  have HA1 := Lib.hid ha1
  have HA2 := Lib.hid ha2
  clear ha1 ha2
  go_enter Tryz.func84, Tryz.ntmps84
  go_wp2_with fail
  refine (openLed_ok_2 A1 A2 n1 n2 _ _ L xs ys _ ((HA1.out.alloc _).alloc _) ((HA2.out.alloc _).alloc _) h1 h2 q1).mono ?_
  rintro e w1 ⟨M1, M2, rfl, g1, g2, gne, hm1, hm2, hk1⟩
  simp only [reduceIte, Nat.reduceEqDiff]
  simp only [World.size_alloc] at g1 g2
  have hb6 := (Box.new (w.alloc (.cells #[.slice A1 n1 c1, .slice A2 n2 c2, .int .i64 L] 36)) (w.heap.size + 1) (by simp) 36 #[.slice none 0 0, .slice none 0 0, .int .i64 0]).keeps hk1 fun h => h
  have r0 := hb6.cell 0
  have r1 := hb6.cell 1
  have r2 := hb6.cell 2
  have f0 := hb6.frozen 0
  have f1 := hb6.frozen 1
  have f2 := hb6.frozen 2
  simp at r0 r1 r2
  have hz : w.heap.size + 1 < w1.heap.size := hb6.lt
  have hz0 : w.heap.size < w1.heap.size := by omega
  have HB6 := Lib.hid hb6
  have HK1 := Lib.hid hk1
  clear hb6 hk1
  have HM1 := Lib.hid hm1
  have HM2 := Lib.hid hm2
  clear hm1 hm2
  go_wp2_with fail
  refine (hasUser_any M2 _ ys ((u : Int) + 1) _ (HM2.out.alloc _) hfr).mono ?_
  rintro e w' ⟨rfl, rfl⟩
  go_wp2_with fail
  refine (room_2 M1 M2 _ L ys _ (HM2.out.alloc _) (by rw [HL2.out]; omega) HS2.out).mono ?_
  rintro e w5 ⟨rfl, hk5⟩
  have hb7 := (HB6.out.alloc (.cells #[.map (some M1), .map (some M2), .int .i64 L] 140)).keeps hk5 fun h => h
  have r0 := hb7.cell 0
  have r1 := hb7.cell 1
  have r2 := hb7.cell 2
  have f0 := hb7.frozen 0
  have f1 := hb7.frozen 1
  have f2 := hb7.frozen 2
  simp at r0 r1 r2
  have hz5 : w.heap.size + 1 < w5.heap.size := hb7.lt
  have hz6 : w.heap.size < w5.heap.size := by omega
  have hbl := (Box.new w1 _ rfl 140 #[.map (some M1), .map (some M2), .int .i64 L]).keeps hk5 fun h => h
  have hzl : w1.heap.size < w5.heap.size := hbl.lt
  have hn1 := (HM1.out.alloc (.cells #[.map (some M1), .map (some M2), .int .i64 L] 140)).keeps hk5 fun h => h
  have hn2 := (HM2.out.alloc (.cells #[.map (some M1), .map (some M2), .int .i64 L] 140)).keeps hk5 fun h => h
  have HN1 := Lib.hid hn1
  have HN2 := Lib.hid hn2
  have HB7 := Lib.hid hb7
  have HBL := Lib.hid hbl
  have HK5 := Lib.hid hk5
  clear hn1 hn2 hb7 hbl hk5
  have hM := HN2.out
  have hlk1 := hM.look (k := (u : Int) + 1) hfr
  rw [HG1.out] at hlk1
  obtain ⟨w2, hrun1, hM2, hk2⟩ := hM.put (k := (u : Int) + 1) (x := x + sm) (by rw [HL2.out]; omega) (by rw [HL2.out]; omega) ⟨by omega, by omega⟩ (by rw [HL2.out]; omega)
  rw [ix] at hM2
  have hMlt := HM2.out.lt
  have hMlo := HM1.out.lt
  have hBox := HBL.out.keeps hk2 fun h => by have h' : w1.heap.size = M2 := h; omega
  have t0 := hBox.cell 0
  have t1 := hBox.cell 1
  have t2 := hBox.cell 2
  have tf2 := hBox.frozen 2
  have tz : w1.heap.size < w2.heap.size := hBox.lt
  simp at t0 t1 t2
  have hOther := (HN1.out).keeps hk2 fun h => by have h' : M1 = M2 := h; omega
  have hRes := HB7.out.keeps hk2 fun h => by have h' : w.heap.size + 1 = M2 := h; omega
  have hKA := (((((Keeps.refl noBlk w).alloc _).alloc _).trans HK1.out).alloc _).trans HK5.out |>.then hk2 fun i hi h => by have h' : i = M2 := h; omega
  have hM3 := hM2
  have HM3 := Lib.hid hM3
  have HOT := Lib.hid hOther
  have HRES := Lib.hid hRes
  have HKA := Lib.hid hKA
  clear hM hM2 hM3 hOther hRes hk2 hBox hKA
  clear r0 r1 r2 f0 f1 f2
  go_wp2_with fail
  refine (ledBank_any M1 M2 _ _ L _ _ _ HOT.out HM3.out (by rw [HL1.out]; omega) (by rw [List.length_set, HL2.out]; omega)).mono ?_
  rintro e w4 ⟨_, rfl, ⟨A3, m1, d1, A4, m2, d2, rfl, hr1, hr2, hd, k1, k2, j1, j2⟩, hk4⟩
  have hR4 := HRES.out.keeps hk4 fun h => h
  have r0 := hR4.cell 0
  have r1 := hR4.cell 1
  have r2 := hR4.cell 2
  have f0 := hR4.frozen 0
  have f1 := hR4.frozen 1
  have f2 := hR4.frozen 2
  simp at r0 r1 r2
  have s3 : w.heap.size + 1 < w2.heap.size := HRES.out.lt
  have hS : Keeps (one (w.heap.size + 1)) w4 (((w4.setCell ⟨w.heap.size + 1, 0, none⟩ (.slice A3 m1 d1)).setCell ⟨w.heap.size + 1, 1, none⟩ (.slice A4 m2 d2)).setCell ⟨w.heap.size + 1, 2, none⟩ (.int .i64 L)) := (((Keeps.refl _ w4).set1 _ _).set1 _ _).set1 _ _
  have hx1 := (hr1.keeps hS fun i hi h => by have h' : i = w.heap.size + 1 := h; have := hr1.ge hi; omega).less (lo' := w.heap.size) (by omega)
  have hx2 := (hr2.keeps hS fun i hi h => by have h' : i = w.heap.size + 1 := h; have := hr2.ge hi; omega).less (lo' := w.heap.size) (by omega)
  have hK := (HKA.out.trans hk4).then hS fun i hi h => by have h' : i = w.heap.size + 1 := h; omega
  have HFIN : Hid (RetYes w (backed ⟨xs, ys, L⟩ 2 (u + 1) sm) (.returned (.tuple #[.agg #[.slice A3 m1 d1, .slice A4 m2 d2, .int .i64 L], .bool true])) (((w4.setCell ⟨w.heap.size + 1, 0, none⟩ (.slice A3 m1 d1)).setCell ⟨w.heap.size + 1, 1, none⟩ (.slice A4 m2 d2)).setCell ⟨w.heap.size + 1, 2, none⟩ (.int .i64 L))) := by
    show RetYes _ _ _ _
    rw [HMV.out]
    exact ⟨_, rfl, ⟨A3, m1, d1, A4, m2, d2, rfl, hx1, hx2, hd, k1, k2, j1, j2⟩, hK⟩
  clear hS hx1 hx2 hK hr1 hr2 hd hR4 hk4
  go_wp2
  refine bodyPost_ret (v := .tuple #[.agg #[.slice A3 m1 d1, .slice A4 m2 d2, .int .i64 L], .bool true]) (by simp [results, Tryz.results84, go_sem, r0, r1, r2]) rfl ?_
  exact HFIN.out

theorem implBack_any (A1 A2 : Option Addr) (n1 n2 c1 c2 : Nat) (L : Int) (xs ys : List Int) (w : World) (ha1 : Ints w A1 n1 xs) (ha2 : Ints w A2 n2 ys) (h1 : n1 ≤ maxLen) (h2 : n2 ≤ maxLen) (kd fr sm : Int) (hfr : M64 fr) :
    Calls Tryz.prog 84 #[.agg #[.slice A1 n1 c1, .slice A2 n2 c2, .int .i64 L], .int .i64 kd, .int .i64 fr, .int .i64 sm] w (RetB2 w (backOk ⟨xs, ys, L⟩ kd fr sm) (backed ⟨xs, ys, L⟩ kd fr sm)) := by
  by_cases q2 : kindB kd = true
  · by_cases q1 : okB ⟨xs, ys, L⟩ = true
    · by_cases q3 : userB fr = true
      · by_cases q5 : 0 ≤ sm
        · by_cases q6 : sm ≤ room ⟨xs, ys, L⟩ kd
          · have hyes : backOk ⟨xs, ys, L⟩ kd fr sm = true := by simp [backOk, q1, q2, q3, q5, q6]
            have hu := user_range q3
            obtain ⟨u, rfl⟩ := nat_of_user q3
            rcases kind_cases q2 with rfl | rfl
            · have q7 : sm ≤ L := by simpa [room] using q6
              exact (implBack_ok_1 A1 A2 n1 n2 c1 c2 L xs ys w ha1 ha2 h1 h2 u sm q1 (by omega) q5 (by simp; omega) q7).mono fun _ _ hr => RetB2.yes hyes hr
            · have q7 : sm ≤ 30 - sumL ys := by simpa [room] using q6
              exact (implBack_ok_2 A1 A2 n1 n2 c1 c2 L xs ys w ha1 ha2 h1 h2 u sm q1 (by omega) q5 (by simp; omega) q7).mono fun _ _ hr => RetB2.yes hyes hr
          · have hno : backOk ⟨xs, ys, L⟩ kd fr sm = false := by simp [backOk, q6]
            rcases kind_cases q2 with rfl | rfl
            · have q7 : ¬ sm ≤ L := by simpa [room] using q6
              exact (implBack_f5_1 A1 A2 n1 n2 c1 c2 L xs ys w ha1 ha2 h1 h2 fr sm hfr q1 ((mhas_user (zs := xs) (lst_len q1 1) fr).trans q3) (by simp; omega) (by simp; omega)).mono fun _ _ hr => RetB2.no hno hr
            · have q7 : ¬ sm ≤ 30 - sumL ys := by simpa [room] using q6
              exact (implBack_f5_2 A1 A2 n1 n2 c1 c2 L xs ys w ha1 ha2 h1 h2 fr sm hfr q1 ((mhas_user (zs := ys) (lst_len q1 2) fr).trans q3) (by simp; omega) (by simp; omega)).mono fun _ _ hr => RetB2.no hno hr
        · have hno : backOk ⟨xs, ys, L⟩ kd fr sm = false := by simp [backOk, q5]
          rcases kind_cases q2 with rfl | rfl
          · exact (implBack_f4_1 A1 A2 n1 n2 c1 c2 L xs ys w ha1 ha2 h1 h2 fr sm hfr q1 ((mhas_user (zs := xs) (lst_len q1 1) fr).trans q3) (by simp; omega)).mono fun _ _ hr => RetB2.no hno hr
          · exact (implBack_f4_2 A1 A2 n1 n2 c1 c2 L xs ys w ha1 ha2 h1 h2 fr sm hfr q1 ((mhas_user (zs := ys) (lst_len q1 2) fr).trans q3) (by simp; omega)).mono fun _ _ hr => RetB2.no hno hr
      · have hno : backOk ⟨xs, ys, L⟩ kd fr sm = false := by simp [backOk, q3]
        rcases kind_cases q2 with rfl | rfl
        · exact (implBack_f3_1 A1 A2 n1 n2 c1 c2 L xs ys w ha1 ha2 h1 h2 fr sm hfr q1 ((mhas_user (zs := xs) (lst_len q1 1) fr).trans (Bool.eq_false_iff.2 q3))).mono fun _ _ hr => RetB2.no hno hr
        · exact (implBack_f3_2 A1 A2 n1 n2 c1 c2 L xs ys w ha1 ha2 h1 h2 fr sm hfr q1 ((mhas_user (zs := ys) (lst_len q1 2) fr).trans (Bool.eq_false_iff.2 q3))).mono fun _ _ hr => RetB2.no hno hr
    · have hno : backOk ⟨xs, ys, L⟩ kd fr sm = false := by simp [backOk, q1]
      rcases kind_cases q2 with rfl | rfl
      · exact (implBack_f2_1 A1 A2 n1 n2 c1 c2 L xs ys w ha1 ha2 h1 h2 fr sm (Bool.eq_false_iff.2 q1)).mono fun _ _ hr => RetB2.no hno hr
      · exact (implBack_f2_2 A1 A2 n1 n2 c1 c2 L xs ys w ha1 ha2 h1 h2 fr sm (Bool.eq_false_iff.2 q1)).mono fun _ _ hr => RetB2.no hno hr
  · exact (implBack_f1 A1 A2 n1 n2 c1 c2 L xs ys w ha1 ha2 h1 h2 kd fr sm (Bool.eq_false_iff.2 q2)).mono fun _ _ hr => RetB2.no (by simp [backOk, q2]) hr

end Go.Proofs.YtcnbephpadmboaaGreatDoor
