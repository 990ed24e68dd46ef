/- BankMove of the model answers as moved. -/
import Derived.Test.YtedmkbiamjpdaabModel
import Derived.Test.YtedmkbiamjpdaabCopy
set_option linter.unusedVariables false
set_option linter.unusedSimpArgs false
namespace Go.Proofs.Ytedmkbiamjpdaab
open Go.RowKit

set_option maxHeartbeats 400000 in
theorem l1User_bk (x : Int) (w : World) : Calls Try.prog 16 #[.int .i64 x] w fun e w' => e = .returned (.bool (userB x)) ∧ w = w' := by
  go_enter Try.func16, Try.ntmps16
  go_wp2_with fail
  refine (l6In_bk x 1 3 _).mono ?_
  rintro e w' ⟨rfl, rfl⟩
  go_wp2
  go_ret
  exact ⟨rfl, rfl⟩
theorem l6In_kind (x : Int) (w : World) : Calls Try.prog 15 #[.int .i64 x, .int .i64 1, .int .i64 2] w fun e w' => e = .returned (.bool (kindB x)) ∧ w = w' := l6In_bk x 1 2 w

def RetNo (w : World) (e : Ending) (w' : World) : Prop := e = .returned (.tuple #[noBank, .bool false]) ∧ Keeps noBlk w w'

set_option maxHeartbeats 1000000 in
theorem specMove_f1 (A1 A2 : Option Addr) (n1 n2 c1 c2 : Nat) (L : Int) (xs ys : List Int) (w : World) (ha1 : Ints w A1 n1 xs) (ha2 : Ints w A2 n2 ys)
    (h1 : n1 ≤ maxLen) (h2 : n2 ≤ maxLen) (hL : L ≤ 9223372036854775807) (kd fr to sm : Int) (q1 : okB ⟨xs, ys, L⟩ = false) :
    Calls Try.prog 37 #[.agg #[.slice A1 n1 c1, .slice A2 n2 c2, .int .i64 L], .int .i64 kd, .int .i64 fr, .int .i64 to, .int .i64 sm] w (RetNo w) := by
  have HA1 := Lib.hid ha1
  have HA2 := Lib.hid ha2
  clear ha1 ha2
  go_enter Try.func37, Try.ntmps37
  go_wp2_with fail
  refine (specOk_any A1 A2 n1 n2 _ _ L xs ys _ ((HA1.out.alloc _).alloc _) ((HA2.out.alloc _).alloc _) h1 h2 hL).mono ?_
  rintro e w1 ⟨rfl, hk1⟩
  have hb5 := ((Box.new w _ rfl 25 #[.slice A1 n1 c1, .slice A2 n2 c2, .int .i64 L]).alloc (.cells #[.slice none 0 0, .slice none 0 0, .int .i64 0] 25)).keeps hk1 fun h => h
  have hb6 := (Box.new (w.alloc (.cells #[.slice A1 n1 c1, .slice A2 n2 c2, .int .i64 L] 25)) (w.heap.size + 1) (by simp) 25 #[.slice none 0 0, .slice none 0 0, .int .i64 0]).keeps hk1 fun h => h
  have a0 := hb5.cell 0
  have a1 := hb5.cell 1
  have a2 := hb5.cell 2
  have r0 := hb6.cell 0
  have r1 := hb6.cell 1
  have r2 := hb6.cell 2
  have f0 := hb6.frozen 0
  have f1 := hb6.frozen 1
  have f2 := hb6.frozen 2
  simp at a0 a1 a2 r0 r1 r2
  have hz : w.heap.size + 1 < w1.heap.size := hb6.lt
  have hz0 : w.heap.size < w1.heap.size := by omega
  have HB5 := Lib.hid hb5
  have HB6 := Lib.hid hb6
  have HK1 := Lib.hid hk1
  clear hb5 hb6 hk1
  go_wp2
  refine bodyPost_ret (v := .tuple #[noBank, .bool false]) (by simp [results, Try.results37, go_sem, noBank, r0, r1, r2, hz]) rfl ?_
  exact ⟨rfl, (((((((Keeps.refl _ w).alloc _).alloc _).trans HK1.out).new (by omega) _ _).new (by omega) _ _).new (by omega) _ _)⟩

set_option maxHeartbeats 1000000 in
theorem specMove_f2 (A1 A2 : Option Addr) (n1 n2 c1 c2 : Nat) (L : Int) (xs ys : List Int) (w : World) (ha1 : Ints w A1 n1 xs) (ha2 : Ints w A2 n2 ys)
    (h1 : n1 ≤ maxLen) (h2 : n2 ≤ maxLen) (hL : L ≤ 9223372036854775807) (kd fr to sm : Int) (q1 : okB ⟨xs, ys, L⟩ = true) (q2 : kindB kd = false) :
    Calls Try.prog 37 #[.agg #[.slice A1 n1 c1, .slice A2 n2 c2, .int .i64 L], .int .i64 kd, .int .i64 fr, .int .i64 to, .int .i64 sm] w (RetNo w) := by
  have HA1 := Lib.hid ha1
  have HA2 := Lib.hid ha2
  clear ha1 ha2
  go_enter Try.func37, Try.ntmps37
  go_wp2_with fail
  refine (specOk_any A1 A2 n1 n2 _ _ L xs ys _ ((HA1.out.alloc _).alloc _) ((HA2.out.alloc _).alloc _) h1 h2 hL).mono ?_
  rintro e w1 ⟨rfl, hk1⟩
  have hb5 := ((Box.new w _ rfl 25 #[.slice A1 n1 c1, .slice A2 n2 c2, .int .i64 L]).alloc (.cells #[.slice none 0 0, .slice none 0 0, .int .i64 0] 25)).keeps hk1 fun h => h
  have hb6 := (Box.new (w.alloc (.cells #[.slice A1 n1 c1, .slice A2 n2 c2, .int .i64 L] 25)) (w.heap.size + 1) (by simp) 25 #[.slice none 0 0, .slice none 0 0, .int .i64 0]).keeps hk1 fun h => h
  have a0 := hb5.cell 0
  have a1 := hb5.cell 1
  have a2 := hb5.cell 2
  have r0 := hb6.cell 0
  have r1 := hb6.cell 1
  have r2 := hb6.cell 2
  have f0 := hb6.frozen 0
  have f1 := hb6.frozen 1
  have f2 := hb6.frozen 2
  simp at a0 a1 a2 r0 r1 r2
  have hz : w.heap.size + 1 < w1.heap.size := hb6.lt
  have hz0 : w.heap.size < w1.heap.size := by omega
  have HB5 := Lib.hid hb5
  have HB6 := Lib.hid hb6
  have HK1 := Lib.hid hk1
  clear hb5 hb6 hk1
  go_wp2_with fail
  refine (l6In_kind kd _).mono ?_
  rintro e w' ⟨rfl, rfl⟩
  go_wp2
  refine bodyPost_ret (v := .tuple #[noBank, .bool false]) (by simp [results, Try.results37, go_sem, noBank, r0, r1, r2, hz]) rfl ?_
  exact ⟨rfl, (((((((Keeps.refl _ w).alloc _).alloc _).trans HK1.out).new (by omega) _ _).new (by omega) _ _).new (by omega) _ _)⟩

set_option maxHeartbeats 1000000 in
theorem specMove_f3 (A1 A2 : Option Addr) (n1 n2 c1 c2 : Nat) (L : Int) (xs ys : List Int) (w : World) (ha1 : Ints w A1 n1 xs) (ha2 : Ints w A2 n2 ys)
    (h1 : n1 ≤ maxLen) (h2 : n2 ≤ maxLen) (hL : L ≤ 9223372036854775807) (kd fr to sm : Int) (q1 : okB ⟨xs, ys, L⟩ = true) (q2 : kindB kd = true) (q3 : userB fr = false) :
    Calls Try.prog 37 #[.agg #[.slice A1 n1 c1, .slice A2 n2 c2, .int .i64 L], .int .i64 kd, .int .i64 fr, .int .i64 to, .int .i64 sm] w (RetNo w) := by
  have HA1 := Lib.hid ha1
  have HA2 := Lib.hid ha2
  clear ha1 ha2
  go_enter Try.func37, Try.ntmps37
  go_wp2_with fail
  refine (specOk_any A1 A2 n1 n2 _ _ L xs ys _ ((HA1.out.alloc _).alloc _) ((HA2.out.alloc _).alloc _) h1 h2 hL).mono ?_
  rintro e w1 ⟨rfl, hk1⟩
  have hb5 := ((Box.new w _ rfl 25 #[.slice A1 n1 c1, .slice A2 n2 c2, .int .i64 L]).alloc (.cells #[.slice none 0 0, .slice none 0 0, .int .i64 0] 25)).keeps hk1 fun h => h
  have hb6 := (Box.new (w.alloc (.cells #[.slice A1 n1 c1, .slice A2 n2 c2, .int .i64 L] 25)) (w.heap.size + 1) (by simp) 25 #[.slice none 0 0, .slice none 0 0, .int .i64 0]).keeps hk1 fun h => h
  have a0 := hb5.cell 0
  have a1 := hb5.cell 1
  have a2 := hb5.cell 2
  have r0 := hb6.cell 0
  have r1 := hb6.cell 1
  have r2 := hb6.cell 2
  have f0 := hb6.frozen 0
  have f1 := hb6.frozen 1
  have f2 := hb6.frozen 2
  simp at a0 a1 a2 r0 r1 r2
  have hz : w.heap.size + 1 < w1.heap.size := hb6.lt
  have hz0 : w.heap.size < w1.heap.size := by omega
  have HB5 := Lib.hid hb5
  have HB6 := Lib.hid hb6
  have HK1 := Lib.hid hk1
  clear hb5 hb6 hk1
  go_wp2_with fail
  refine (l6In_kind kd _).mono ?_
  rintro e w' ⟨rfl, rfl⟩
  go_wp2_with fail
  refine (l1User_bk fr _).mono ?_
  rintro e w' ⟨rfl, rfl⟩
  go_wp2
  refine bodyPost_ret (v := .tuple #[noBank, .bool false]) (by simp [results, Try.results37, go_sem, noBank, r0, r1, r2, hz]) rfl ?_
  exact ⟨rfl, (((((((Keeps.refl _ w).alloc _).alloc _).trans HK1.out).new (by omega) _ _).new (by omega) _ _).new (by omega) _ _)⟩

set_option maxHeartbeats 1000000 in
theorem specMove_f4 (A1 A2 : Option Addr) (n1 n2 c1 c2 : Nat) (L : Int) (xs ys : List Int) (w : World) (ha1 : Ints w A1 n1 xs) (ha2 : Ints w A2 n2 ys)
    (h1 : n1 ≤ maxLen) (h2 : n2 ≤ maxLen) (hL : L ≤ 9223372036854775807) (kd fr to sm : Int) (q1 : okB ⟨xs, ys, L⟩ = true) (q2 : kindB kd = true) (q3 : userB fr = true) (q4 : userB to = false) :
    Calls Try.prog 37 #[.agg #[.slice A1 n1 c1, .slice A2 n2 c2, .int .i64 L], .int .i64 kd, .int .i64 fr, .int .i64 to, .int .i64 sm] w (RetNo w) := by
  have HA1 := Lib.hid ha1
  have HA2 := Lib.hid ha2
  clear ha1 ha2
  go_enter Try.func37, Try.ntmps37
  go_wp2_with fail
  refine (specOk_any A1 A2 n1 n2 _ _ L xs ys _ ((HA1.out.alloc _).alloc _) ((HA2.out.alloc _).alloc _) h1 h2 hL).mono ?_
  rintro e w1 ⟨rfl, hk1⟩
  have hb5 := ((Box.new w _ rfl 25 #[.slice A1 n1 c1, .slice A2 n2 c2, .int .i64 L]).alloc (.cells #[.slice none 0 0, .slice none 0 0, .int .i64 0] 25)).keeps hk1 fun h => h
  have hb6 := (Box.new (w.alloc (.cells #[.slice A1 n1 c1, .slice A2 n2 c2, .int .i64 L] 25)) (w.heap.size + 1) (by simp) 25 #[.slice none 0 0, .slice none 0 0, .int .i64 0]).keeps hk1 fun h => h
  have a0 := hb5.cell 0
  have a1 := hb5.cell 1
  have a2 := hb5.cell 2
  have r0 := hb6.cell 0
  have r1 := hb6.cell 1
  have r2 := hb6.cell 2
  have f0 := hb6.frozen 0
  have f1 := hb6.frozen 1
  have f2 := hb6.frozen 2
  simp at a0 a1 a2 r0 r1 r2
  have hz : w.heap.size + 1 < w1.heap.size := hb6.lt
  have hz0 : w.heap.size < w1.heap.size := by omega
  have HB5 := Lib.hid hb5
  have HB6 := Lib.hid hb6
  have HK1 := Lib.hid hk1
  clear hb5 hb6 hk1
  go_wp2_with fail
  refine (l6In_kind kd _).mono ?_
  rintro e w' ⟨rfl, rfl⟩
  go_wp2_with fail
  refine (l1User_bk fr _).mono ?_
  rintro e w' ⟨rfl, rfl⟩
  go_wp2_with fail
  refine (l1User_bk to _).mono ?_
  rintro e w' ⟨rfl, rfl⟩
  go_wp2
  refine bodyPost_ret (v := .tuple #[noBank, .bool false]) (by simp [results, Try.results37, go_sem, noBank, r0, r1, r2, hz]) rfl ?_
  exact ⟨rfl, (((((((Keeps.refl _ w).alloc _).alloc _).trans HK1.out).new (by omega) _ _).new (by omega) _ _).new (by omega) _ _)⟩

set_option maxHeartbeats 1000000 in
theorem specMove_f5 (A1 A2 : Option Addr) (n1 n2 c1 c2 : Nat) (L : Int) (xs ys : List Int) (w : World) (ha1 : Ints w A1 n1 xs) (ha2 : Ints w A2 n2 ys)
    (h1 : n1 ≤ maxLen) (h2 : n2 ≤ maxLen) (hL : L ≤ 9223372036854775807) (kd fr to sm : Int) (q1 : okB ⟨xs, ys, L⟩ = true) (q2 : kindB kd = true) (q3 : userB fr = true) (q4 : userB to = true) (q5 : decide (sm < 0) = true) :
    Calls Try.prog 37 #[.agg #[.slice A1 n1 c1, .slice A2 n2 c2, .int .i64 L], .int .i64 kd, .int .i64 fr, .int .i64 to, .int .i64 sm] w (RetNo w) := by
  have HA1 := Lib.hid ha1
  have HA2 := Lib.hid ha2
  clear ha1 ha2
  go_enter Try.func37, Try.ntmps37
  go_wp2_with fail
  refine (specOk_any A1 A2 n1 n2 _ _ L xs ys _ ((HA1.out.alloc _).alloc _) ((HA2.out.alloc _).alloc _) h1 h2 hL).mono ?_
  rintro e w1 ⟨rfl, hk1⟩
  have hb5 := ((Box.new w _ rfl 25 #[.slice A1 n1 c1, .slice A2 n2 c2, .int .i64 L]).alloc (.cells #[.slice none 0 0, .slice none 0 0, .int .i64 0] 25)).keeps hk1 fun h => h
  have hb6 := (Box.new (w.alloc (.cells #[.slice A1 n1 c1, .slice A2 n2 c2, .int .i64 L] 25)) (w.heap.size + 1) (by simp) 25 #[.slice none 0 0, .slice none 0 0, .int .i64 0]).keeps hk1 fun h => h
  have a0 := hb5.cell 0
  have a1 := hb5.cell 1
  have a2 := hb5.cell 2
  have r0 := hb6.cell 0
  have r1 := hb6.cell 1
  have r2 := hb6.cell 2
  have f0 := hb6.frozen 0
  have f1 := hb6.frozen 1
  have f2 := hb6.frozen 2
  simp at a0 a1 a2 r0 r1 r2
  have hz : w.heap.size + 1 < w1.heap.size := hb6.lt
  have hz0 : w.heap.size < w1.heap.size := by omega
  have HB5 := Lib.hid hb5
  have HB6 := Lib.hid hb6
  have HK1 := Lib.hid hk1
  clear hb5 hb6 hk1
  go_wp2_with fail
  refine (l6In_kind kd _).mono ?_
  rintro e w' ⟨rfl, rfl⟩
  go_wp2_with fail
  refine (l1User_bk fr _).mono ?_
  rintro e w' ⟨rfl, rfl⟩
  go_wp2_with fail
  refine (l1User_bk to _).mono ?_
  rintro e w' ⟨rfl, rfl⟩
  go_wp2
  refine bodyPost_ret (v := .tuple #[noBank, .bool false]) (by simp [results, Try.results37, go_sem, noBank, r0, r1, r2, hz]) rfl ?_
  exact ⟨rfl, (((((((Keeps.refl _ w).alloc _).alloc _).trans HK1.out).new (by omega) _ _).new (by omega) _ _).new (by omega) _ _)⟩

set_option maxHeartbeats 1000000 in
theorem specMove_f6_1 (A1 A2 : Option Addr) (n1 n2 c1 c2 : Nat) (L : Int) (xs ys : List Int) (w : World) (ha1 : Ints w A1 n1 xs) (ha2 : Ints w A2 n2 ys)
    (h1 : n1 ≤ maxLen) (h2 : n2 ≤ maxLen) (hL : L ≤ 9223372036854775807) (u : Nat) (to sm : Int) (q1 : okB ⟨xs, ys, L⟩ = true) (q3 : userB ((u : Int) + 1) = true) (q4 : userB to = true) (q5 : decide (sm < 0) = false) (q6 : xs.getD u 0 < sm) :
    Calls Try.prog 37 #[.agg #[.slice A1 n1 c1, .slice A2 n2 c2, .int .i64 L], .int .i64 1, .int .i64 ((u : Int) + 1), .int .i64 to, .int .i64 sm] w (RetNo w) := by
  have q2 : kindB 1 = true := rfl
  have hu := user_range q3
  have hl := lst_len q1 1
  have hun : (u : Int) < (n1 : Int) := by have := (ha1).1; simp [lst] at hl; omega
  have HA1 := Lib.hid ha1
  have HA2 := Lib.hid ha2
  clear ha1 ha2
  go_enter Try.func37, Try.ntmps37
  go_wp2_with fail
  refine (specOk_any A1 A2 n1 n2 _ _ L xs ys _ ((HA1.out.alloc _).alloc _) ((HA2.out.alloc _).alloc _) h1 h2 hL).mono ?_
  rintro e w1 ⟨rfl, hk1⟩
  have hb5 := ((Box.new w _ rfl 25 #[.slice A1 n1 c1, .slice A2 n2 c2, .int .i64 L]).alloc (.cells #[.slice none 0 0, .slice none 0 0, .int .i64 0] 25)).keeps hk1 fun h => h
  have hb6 := (Box.new (w.alloc (.cells #[.slice A1 n1 c1, .slice A2 n2 c2, .int .i64 L] 25)) (w.heap.size + 1) (by simp) 25 #[.slice none 0 0, .slice none 0 0, .int .i64 0]).keeps hk1 fun h => h
  have a0 := hb5.cell 0
  have a1 := hb5.cell 1
  have a2 := hb5.cell 2
  have r0 := hb6.cell 0
  have r1 := hb6.cell 1
  have r2 := hb6.cell 2
  have f0 := hb6.frozen 0
  have f1 := hb6.frozen 1
  have f2 := hb6.frozen 2
  simp at a0 a1 a2 r0 r1 r2
  have hz : w.heap.size + 1 < w1.heap.size := hb6.lt
  have hz0 : w.heap.size < w1.heap.size := by omega
  have HB5 := Lib.hid hb5
  have HB6 := Lib.hid hb6
  have HK1 := Lib.hid hk1
  clear hb5 hb6 hk1
  go_wp2_with fail
  refine (l6In_kind 1 _).mono ?_
  rintro e w' ⟨rfl, rfl⟩
  go_wp2_with fail
  refine (l1User_bk _ _).mono ?_
  rintro e w' ⟨rfl, rfl⟩
  go_wp2_with fail
  refine (l1User_bk to _).mono ?_
  rintro e w' ⟨rfl, rfl⟩
  obtain ⟨b, off, rfl, hb, hc⟩ := (((HA1.out.alloc _).alloc _).keeps HK1.out fun _ _ h => h).at_ (k := u) (by omega)
  have d6 : decide (xs.getD u 0 < sm) = true := by simpa using q6
  generalize xs.getD u 0 = y at hc d6 q6
  go_wp2_with fail
  refine (l1List_own _ _ n1 n2 _ _ L _).mono ?_
  rintro e w' ⟨rfl, rfl⟩
  go_wp2
  refine bodyPost_ret (v := .tuple #[noBank, .bool false]) (by simp [results, Try.results37, go_sem, noBank, r0, r1, r2, hz]) rfl ?_
  exact ⟨rfl, (((((((Keeps.refl _ w).alloc _).alloc _).trans HK1.out).new (by omega) _ _).new (by omega) _ _).new (by omega) _ _).alloc _⟩

set_option maxHeartbeats 1000000 in
theorem specMove_f6_2 (A1 A2 : Option Addr) (n1 n2 c1 c2 : Nat) (L : Int) (xs ys : List Int) (w : World) (ha1 : Ints w A1 n1 xs) (ha2 : Ints w A2 n2 ys)
    (h1 : n1 ≤ maxLen) (h2 : n2 ≤ maxLen) (hL : L ≤ 9223372036854775807) (u : Nat) (to sm : Int) (q1 : okB ⟨xs, ys, L⟩ = true) (q3 : userB ((u : Int) + 1) = true) (q4 : userB to = true) (q5 : decide (sm < 0) = false) (q6 : ys.getD u 0 < sm) :
    Calls Try.prog 37 #[.agg #[.slice A1 n1 c1, .slice A2 n2 c2, .int .i64 L], .int .i64 2, .int .i64 ((u : Int) + 1), .int .i64 to, .int .i64 sm] w (RetNo w) := by
  have q2 : kindB 2 = true := rfl
  have hu := user_range q3
  have hl := lst_len q1 2
  have hun : (u : Int) < (n2 : Int) := by have := (ha2).1; simp [lst] at hl; omega
  have HA1 := Lib.hid ha1
  have HA2 := Lib.hid ha2
  clear ha1 ha2
  go_enter Try.func37, Try.ntmps37
  go_wp2_with fail
  refine (specOk_any A1 A2 n1 n2 _ _ L xs ys _ ((HA1.out.alloc _).alloc _) ((HA2.out.alloc _).alloc _) h1 h2 hL).mono ?_
  rintro e w1 ⟨rfl, hk1⟩
  have hb5 := ((Box.new w _ rfl 25 #[.slice A1 n1 c1, .slice A2 n2 c2, .int .i64 L]).alloc (.cells #[.slice none 0 0, .slice none 0 0, .int .i64 0] 25)).keeps hk1 fun h => h
  have hb6 := (Box.new (w.alloc (.cells #[.slice A1 n1 c1, .slice A2 n2 c2, .int .i64 L] 25)) (w.heap.size + 1) (by simp) 25 #[.slice none 0 0, .slice none 0 0, .int .i64 0]).keeps hk1 fun h => h
  have a0 := hb5.cell 0
  have a1 := hb5.cell 1
  have a2 := hb5.cell 2
  have r0 := hb6.cell 0
  have r1 := hb6.cell 1
  have r2 := hb6.cell 2
  have f0 := hb6.frozen 0
  have f1 := hb6.frozen 1
  have f2 := hb6.frozen 2
  simp at a0 a1 a2 r0 r1 r2
  have hz : w.heap.size + 1 < w1.heap.size := hb6.lt
  have hz0 : w.heap.size < w1.heap.size := by omega
  have HB5 := Lib.hid hb5
  have HB6 := Lib.hid hb6
  have HK1 := Lib.hid hk1
  clear hb5 hb6 hk1
  go_wp2_with fail
  refine (l6In_kind 2 _).mono ?_
  rintro e w' ⟨rfl, rfl⟩
  go_wp2_with fail
  refine (l1User_bk _ _).mono ?_
  rintro e w' ⟨rfl, rfl⟩
  go_wp2_with fail
  refine (l1User_bk to _).mono ?_
  rintro e w' ⟨rfl, rfl⟩
  obtain ⟨b, off, rfl, hb, hc⟩ := (((HA2.out.alloc _).alloc _).keeps HK1.out fun _ _ h => h).at_ (k := u) (by omega)
  have d6 : decide (ys.getD u 0 < sm) = true := by simpa using q6
  generalize ys.getD u 0 = y at hc d6 q6
  go_wp2_with fail
  refine (l1List_note _ _ n1 n2 _ _ L _).mono ?_
  rintro e w' ⟨rfl, rfl⟩
  go_wp2
  refine bodyPost_ret (v := .tuple #[noBank, .bool false]) (by simp [results, Try.results37, go_sem, noBank, r0, r1, r2, hz]) rfl ?_
  exact ⟨rfl, (((((((Keeps.refl _ w).alloc _).alloc _).trans HK1.out).new (by omega) _ _).new (by omega) _ _).new (by omega) _ _).alloc _⟩

theorem getD_set (zs : List Int) (u v : Nat) (x : Int) : (zs.set u x).getD v 0 = if u = v ∧ u < zs.length then x else zs.getD v 0 := by
  simp only [List.getD_eq_getElem?_getD, List.getElem?_set]
  by_cases h : u = v
  · subst h
    by_cases h2 : u < zs.length
    · simp [h2]
    · simp [h2]
  · simp [h]
theorem ix (n : Nat) : ((n : Int) + 1 - 1).toNat = n := by omega
theorem moved_1 (xs ys : List Int) (L : Int) (u v : Nat) (sm : Int) : moved ⟨xs, ys, L⟩ 1 (u + 1) (v + 1) sm = put ⟨xs, ys, L⟩ 1 ((xs.set u (xs.getD u 0 - sm)).set v ((xs.set u (xs.getD u 0 - sm)).getD v 0 + sm)) := by
  simp only [moved, give, put, has, lst, if_true, ix]
  rfl
theorem moved_2 (xs ys : List Int) (L : Int) (u v : Nat) (sm : Int) : moved ⟨xs, ys, L⟩ 2 (u + 1) (v + 1) sm = put ⟨xs, ys, L⟩ 2 ((ys.set u (ys.getD u 0 - sm)).set v ((ys.set u (ys.getD u 0 - sm)).getD v 0 + sm)) := by
  have h : ¬ (2 : Int) = 1 := by omega
  simp only [moved, give, put, has, lst, if_neg h, ix]
  rfl
def RetYes (w : World) (b : BankL) (e : Ending) (w' : World) : Prop := ∃ v, e = .returned (.tuple #[v, .bool true]) ∧ BankAt w' w.heap.size v b ∧ Keeps noBlk w w'

set_option maxHeartbeats 2000000 in
theorem specMove_ok_1 (A1 A2 : Option Addr) (c1 c2 : Nat) (L : Int) (xs ys : List Int) (w : World) (ha1 : Ints w A1 3 xs) (ha2 : Ints w A2 3 ys)
    (h1 : 3 ≤ maxLen) (h2 : 3 ≤ maxLen) (hL : L ≤ 9223372036854775807) (u v : Nat) (sm : Int) (q1 : okB ⟨xs, ys, L⟩ = true) (q3 : userB ((u : Int) + 1) = true) (q4 : userB ((v : Int) + 1) = true) (q5 : decide (sm < 0) = false) (q6 : sm ≤ xs.getD u 0) :
    Calls Try.prog 37 #[.agg #[.slice A1 3 c1, .slice A2 3 c2, .int .i64 L], .int .i64 1, .int .i64 ((u : Int) + 1), .int .i64 ((v : Int) + 1), .int .i64 sm] w (RetYes w (moved ⟨xs, ys, L⟩ 1 (u + 1) (v + 1) sm)) := by
  have q2 : kindB 1 = true := rfl
  have hu := user_range q3
  have hv := user_range q4
  have hl1 : xs.length = 3 := lst_len q1 1
  have hl2 : ys.length = 3 := lst_len q1 2
  have hun : (u : Int) < 3 := by omega
  have hvn : (v : Int) < 3 := by omega
  have hs0 : 0 ≤ sm := by simpa using q5
  have hx : 0 ≤ xs.getD u 0 ∧ xs.getD u 0 ≤ 30 := by simpa [has, lst] using has_bounds q1 1 ((u : Int) + 1)
  have hy : -60 ≤ (xs.set u (xs.getD u 0 - sm)).getD v 0 ∧ (xs.set u (xs.getD u 0 - sm)).getD v 0 ≤ 60 := by
    have h9 : 0 ≤ xs.getD v 0 ∧ xs.getD v 0 ≤ 30 := by simpa [has, lst] using has_bounds q1 1 ((v : Int) + 1)
    rw [getD_set]
    split
    · omega
    · omega
  have HM : Hid (moved ⟨xs, ys, L⟩ 1 (u + 1) (v + 1) sm = put ⟨xs, ys, L⟩ 1 ((xs.set u (xs.getD u 0 - sm)).set v ((xs.set u (xs.getD u 0 - sm)).getD v 0 + sm))) := by
    show _ = _
    exact moved_1 xs ys L u v sm
  generalize hxe : xs.getD u 0 = x at q6 hx hy HM
  generalize hye : (xs.set u (x - sm)).getD v 0 = y at hy HM
  have HXE := Lib.hid hxe
  have HYE := Lib.hid hye
  have d6 : decide (x < sm) = false := by simpa using q6
  clear hxe hye
  have HA1 := Lib.hid ha1
  have HA2 := Lib.hid ha2
  clear ha1 ha2
  go_enter Try.func37, Try.ntmps37
  go_wp2_with fail
  refine (specOk_any A1 A2 3 3 _ _ L xs ys _ ((HA1.out.alloc _).alloc _) ((HA2.out.alloc _).alloc _) h1 h2 hL).mono ?_
  rintro e w1 ⟨rfl, hk1⟩
  have hb5 := ((Box.new w _ rfl 25 #[.slice A1 3 c1, .slice A2 3 c2, .int .i64 L]).alloc (.cells #[.slice none 0 0, .slice none 0 0, .int .i64 0] 25)).keeps hk1 fun h => h
  have hb6 := (Box.new (w.alloc (.cells #[.slice A1 3 c1, .slice A2 3 c2, .int .i64 L] 25)) (w.heap.size + 1) (by simp) 25 #[.slice none 0 0, .slice none 0 0, .int .i64 0]).keeps hk1 fun h => h
  have a0 := hb5.cell 0
  have a1 := hb5.cell 1
  have a2 := hb5.cell 2
  have r0 := hb6.cell 0
  have r1 := hb6.cell 1
  have r2 := hb6.cell 2
  have f0 := hb6.frozen 0
  have f1 := hb6.frozen 1
  have f2 := hb6.frozen 2
  simp at a0 a1 a2 r0 r1 r2
  have hz : w.heap.size + 1 < w1.heap.size := hb6.lt
  have hz0 : w.heap.size < w1.heap.size := by omega
  have HB5 := Lib.hid hb5
  have HB6 := Lib.hid hb6
  have HK1 := Lib.hid hk1
  clear hb5 hb6 hk1
  go_wp2_with fail
  refine (l6In_kind 1 _).mono ?_
  rintro e w' ⟨rfl, rfl⟩
  go_wp2_with fail
  refine (l1User_bk _ _).mono ?_
  rintro e w' ⟨rfl, rfl⟩
  go_wp2_with fail
  refine (l1User_bk _ _).mono ?_
  rintro e w' ⟨rfl, rfl⟩
  obtain ⟨b, off, e1, hb, hc⟩ := (((HA1.out.alloc _).alloc _).keeps HK1.out fun _ _ h => h).at_ (k := u) (by omega)
  subst e1
  rw [HXE.out] at hc
  go_wp2_with fail
  refine (l1List_own _ _ 3 3 _ _ L _).mono ?_
  rintro e w' ⟨rfl, rfl⟩
  go_wp2_with fail
  refine (l1Copy_any _ _ 3 3 _ _ L xs ys _ ((((HA1.out.alloc _).alloc _).keeps HK1.out fun _ _ h => h).alloc _) ((((HA2.out.alloc _).alloc _).keeps HK1.out fun _ _ h => h).alloc _) (by omega) (by omega) (by omega) (by omega)).mono ?_
  rintro e w2 ⟨_, rfl, ⟨B1, m1, d1, B2, m2, d2, rfl, hr1, hr2, hd, hd1, hd2, hm1, hm2⟩, hk2⟩
  obtain rfl : 3 = m1 := hl1.symm.trans hr1.1.1
  obtain rfl : 3 = m2 := hl2.symm.trans hr2.1.1
  obtain ⟨g, og, e2, hgl, hg, hcg, hfg⟩ := hr1.at_ (k := u) (by omega)
  subst e2
  rw [HXE.out] at hcg
  have hrs := hr1.set_ (k := u) (by omega) (x - sm)
  obtain ⟨g', og', e3, _, _, hcv, hfv⟩ := hrs.at_ (k := v) (by omega)
  injection e3 with e3
  injection e3 with e4 e5
  subst e4
  subst e5
  have hcv1 : (w2.setCell ⟨g, og + u, none⟩ (.int .i64 (x - sm))).cell? ⟨g, og + v, none⟩ = some (.int .i64 y) := by rw [← HYE.out]; exact hcv
  clear hcv
  have hrt := hrs.set_ (k := v) (by omega) (y + sm)
  have hb6 := (HB6.out.alloc (.cells #[.slice (some ⟨b, off, none⟩) 3 c1, .slice A2 3 c2, .int .i64 L] 25)).keeps hk2 fun h => h
  have hz2 : w.heap.size + 1 < w2.heap.size := hb6.lt
  have hz3 : w.heap.size < w2.heap.size := by omega
  have hlo : w.heap.size + 1 < g := by have h9 := HB6.out.lt; simp at hgl; omega
  have hb7 := (hb6.far (p := ⟨g, og + u, none⟩) (by dsimp only; omega) (.int .i64 (x - sm))).far (p := ⟨g, og + v, none⟩) (by dsimp only; omega) (.int .i64 (y + sm))
  have r0 := hb7.cell 0
  have r1 := hb7.cell 1
  have r2 := hb7.cell 2
  have f0 := hb7.frozen 0
  have f1 := hb7.frozen 1
  have f2 := hb7.frozen 2
  simp only [List.getElem?_toArray, List.getElem?_cons_zero, List.getElem?_cons_succ] at r0 r1 r2
  have HR1 := Lib.hid hr1
  have HR2 := Lib.hid hr2
  have HRT := Lib.hid hrt
  have HK2 := Lib.hid hk2
  have HD := Lib.hid hd
  clear hb6 hb7 hr1 hr2 hrt hrs hk2 hd hc
  go_wp2_with fail
  refine (l1List_own _ _ 3 3 _ _ L _).mono ?_
  rintro e w' ⟨rfl, rfl⟩
  go_wp2
  refine bodyPost_ret (v := .tuple #[.agg #[(.slice (some ⟨g, og, none⟩) 3 d1), (.slice B2 3 d2), .int .i64 L], .bool true]) (by simp [results, Try.results37, go_sem, r0, r1, r2, hz2, hz3]) rfl ?_
  have hS : Keeps (two (w.heap.size + 1) g) w2 _ := (((((Keeps.refl (two (w.heap.size + 1) g) w2).setB (og + u) (.int .i64 (x - sm))).setB (og + v) (.int .i64 (y + sm))).setA 0 (.slice (some ⟨g, og, none⟩) 3 d1)).setA 1 (.slice B2 3 d2)).setA 2 (.int .i64 L)
  have hT := (((Keeps.refl (one (w.heap.size + 1)) ((w2.setCell ⟨g, og + u, none⟩ (.int .i64 (x - sm))).setCell ⟨g, og + v, none⟩ (.int .i64 (y + sm)))).set1 0 (.slice (some ⟨g, og, none⟩) 3 d1)).set1 1 (.slice B2 3 d2)).set1 2 (.int .i64 L)
  have hlo2 : w.heap.size ≤ (w1.alloc (.cells #[.slice (some ⟨b, off, none⟩) 3 c1, .slice A2 3 c2, .int .i64 L] 25)).heap.size := by simp; omega
  rw [HM.out]
  refine ⟨_, rfl, ⟨_, _, _, _, _, _, rfl, ?_, ?_, HD.out, hd1, hd2, hm1, hm2⟩, ?_⟩
  · exact (((HRT.out.keeps hT fun i hi h => by have := blk_some hi; simp at this; have h' : i = w.heap.size + 1 := h; omega).alloc _).alloc _).less hlo2
  · exact (((HR2.out.keeps hS fun i hi h => by rcases h with h | h; (have := HR2.out.ge hi; simp at this; omega); (exact HD.out i (h ▸ blk_mk (by omega)) hi)).alloc _).alloc _).less hlo2
  · exact ((((((Keeps.refl noBlk w).alloc _).alloc _).trans HK1.out).alloc _).trans HK2.out |>.then hS fun i hi h => by rcases h with h | h <;> omega).alloc _ |>.alloc _

set_option maxHeartbeats 2000000 in
theorem specMove_ok_2 (A1 A2 : Option Addr) (c1 c2 : Nat) (L : Int) (xs ys : List Int) (w : World) (ha1 : Ints w A1 3 xs) (ha2 : Ints w A2 3 ys)
    (h1 : 3 ≤ maxLen) (h2 : 3 ≤ maxLen) (hL : L ≤ 9223372036854775807) (u v : Nat) (sm : Int) (q1 : okB ⟨xs, ys, L⟩ = true) (q3 : userB ((u : Int) + 1) = true) (q4 : userB ((v : Int) + 1) = true) (q5 : decide (sm < 0) = false) (q6 : sm ≤ ys.getD u 0) :
    Calls Try.prog 37 #[.agg #[.slice A1 3 c1, .slice A2 3 c2, .int .i64 L], .int .i64 2, .int .i64 ((u : Int) + 1), .int .i64 ((v : Int) + 1), .int .i64 sm] w (RetYes w (moved ⟨xs, ys, L⟩ 2 (u + 1) (v + 1) sm)) := by
  have q2 : kindB 2 = true := rfl
  have hu := user_range q3
  have hv := user_range q4
  have hl1 : xs.length = 3 := lst_len q1 1
  have hl2 : ys.length = 3 := lst_len q1 2
  have hun : (u : Int) < 3 := by omega
  have hvn : (v : Int) < 3 := by omega
  have hs0 : 0 ≤ sm := by simpa using q5
  have hx : 0 ≤ ys.getD u 0 ∧ ys.getD u 0 ≤ 30 := by simpa [has, lst] using has_bounds q1 2 ((u : Int) + 1)
  have hy : -60 ≤ (ys.set u (ys.getD u 0 - sm)).getD v 0 ∧ (ys.set u (ys.getD u 0 - sm)).getD v 0 ≤ 60 := by
    have h9 : 0 ≤ ys.getD v 0 ∧ ys.getD v 0 ≤ 30 := by simpa [has, lst] using has_bounds q1 2 ((v : Int) + 1)
    rw [getD_set]
    split
    · omega
    · omega
  have HM : Hid (moved ⟨xs, ys, L⟩ 2 (u + 1) (v + 1) sm = put ⟨xs, ys, L⟩ 2 ((ys.set u (ys.getD u 0 - sm)).set v ((ys.set u (ys.getD u 0 - sm)).getD v 0 + sm))) := by
    show _ = _
    exact moved_2 xs ys L u v sm
  generalize hxe : ys.getD u 0 = x at q6 hx hy HM
  generalize hye : (ys.set u (x - sm)).getD v 0 = y at hy HM
  have HXE := Lib.hid hxe
  have HYE := Lib.hid hye
  have d6 : decide (x < sm) = false := by simpa using q6
  clear hxe hye
  have HA1 := Lib.hid ha1
  have HA2 := Lib.hid ha2
  clear ha1 ha2
  go_enter Try.func37, Try.ntmps37
  go_wp2_with fail
  refine (specOk_any A1 A2 3 3 _ _ L xs ys _ ((HA1.out.alloc _).alloc _) ((HA2.out.alloc _).alloc _) h1 h2 hL).mono ?_
  rintro e w1 ⟨rfl, hk1⟩
  have hb5 := ((Box.new w _ rfl 25 #[.slice A1 3 c1, .slice A2 3 c2, .int .i64 L]).alloc (.cells #[.slice none 0 0, .slice none 0 0, .int .i64 0] 25)).keeps hk1 fun h => h
  have hb6 := (Box.new (w.alloc (.cells #[.slice A1 3 c1, .slice A2 3 c2, .int .i64 L] 25)) (w.heap.size + 1) (by simp) 25 #[.slice none 0 0, .slice none 0 0, .int .i64 0]).keeps hk1 fun h => h
  have a0 := hb5.cell 0
  have a1 := hb5.cell 1
  have a2 := hb5.cell 2
  have r0 := hb6.cell 0
  have r1 := hb6.cell 1
  have r2 := hb6.cell 2
  have f0 := hb6.frozen 0
  have f1 := hb6.frozen 1
  have f2 := hb6.frozen 2
  simp at a0 a1 a2 r0 r1 r2
  have hz : w.heap.size + 1 < w1.heap.size := hb6.lt
  have hz0 : w.heap.size < w1.heap.size := by omega
  have HB5 := Lib.hid hb5
  have HB6 := Lib.hid hb6
  have HK1 := Lib.hid hk1
  clear hb5 hb6 hk1
  go_wp2_with fail
  refine (l6In_kind 2 _).mono ?_
  rintro e w' ⟨rfl, rfl⟩
  go_wp2_with fail
  refine (l1User_bk _ _).mono ?_
  rintro e w' ⟨rfl, rfl⟩
  go_wp2_with fail
  refine (l1User_bk _ _).mono ?_
  rintro e w' ⟨rfl, rfl⟩
  obtain ⟨b, off, e1, hb, hc⟩ := (((HA2.out.alloc _).alloc _).keeps HK1.out fun _ _ h => h).at_ (k := u) (by omega)
  subst e1
  rw [HXE.out] at hc
  go_wp2_with fail
  refine (l1List_note _ _ 3 3 _ _ L _).mono ?_
  rintro e w' ⟨rfl, rfl⟩
  go_wp2_with fail
  refine (l1Copy_any _ _ 3 3 _ _ L xs ys _ ((((HA1.out.alloc _).alloc _).keeps HK1.out fun _ _ h => h).alloc _) ((((HA2.out.alloc _).alloc _).keeps HK1.out fun _ _ h => h).alloc _) (by omega) (by omega) (by omega) (by omega)).mono ?_
  rintro e w2 ⟨_, rfl, ⟨B1, m1, d1, B2, m2, d2, rfl, hr1, hr2, hd, hd1, hd2, hm1, hm2⟩, hk2⟩
  obtain rfl : 3 = m1 := hl1.symm.trans hr1.1.1
  obtain rfl : 3 = m2 := hl2.symm.trans hr2.1.1
  obtain ⟨g, og, e2, hgl, hg, hcg, hfg⟩ := hr2.at_ (k := u) (by omega)
  subst e2
  rw [HXE.out] at hcg
  have hrs := hr2.set_ (k := u) (by omega) (x - sm)
  obtain ⟨g', og', e3, _, _, hcv, hfv⟩ := hrs.at_ (k := v) (by omega)
  injection e3 with e3
  injection e3 with e4 e5
  subst e4
  subst e5
  have hcv1 : (w2.setCell ⟨g, og + u, none⟩ (.int .i64 (x - sm))).cell? ⟨g, og + v, none⟩ = some (.int .i64 y) := by rw [← HYE.out]; exact hcv
  clear hcv
  have hrt := hrs.set_ (k := v) (by omega) (y + sm)
  have hb6 := (HB6.out.alloc (.cells #[.slice A1 3 c1, .slice (some ⟨b, off, none⟩) 3 c2, .int .i64 L] 25)).keeps hk2 fun h => h
  have hz2 : w.heap.size + 1 < w2.heap.size := hb6.lt
  have hz3 : w.heap.size < w2.heap.size := by omega
  have hlo : w.heap.size + 1 < g := by have h9 := HB6.out.lt; simp at hgl; omega
  have hb7 := (hb6.far (p := ⟨g, og + u, none⟩) (by dsimp only; omega) (.int .i64 (x - sm))).far (p := ⟨g, og + v, none⟩) (by dsimp only; omega) (.int .i64 (y + sm))
  have r0 := hb7.cell 0
  have r1 := hb7.cell 1
  have r2 := hb7.cell 2
  have f0 := hb7.frozen 0
  have f1 := hb7.frozen 1
  have f2 := hb7.frozen 2
  simp only [List.getElem?_toArray, List.getElem?_cons_zero, List.getElem?_cons_succ] at r0 r1 r2
  have HR1 := Lib.hid hr1
  have HR2 := Lib.hid hr2
  have HRT := Lib.hid hrt
  have HK2 := Lib.hid hk2
  have HD := Lib.hid hd
  clear hb6 hb7 hr1 hr2 hrt hrs hk2 hd hc
  go_wp2_with fail
  refine (l1List_note _ _ 3 3 _ _ L _).mono ?_
  rintro e w' ⟨rfl, rfl⟩
  go_wp2
  refine bodyPost_ret (v := .tuple #[.agg #[(.slice B1 3 d1), (.slice (some ⟨g, og, none⟩) 3 d2), .int .i64 L], .bool true]) (by simp [results, Try.results37, go_sem, r0, r1, r2, hz2, hz3]) rfl ?_
  have hS : Keeps (two (w.heap.size + 1) g) w2 _ := (((((Keeps.refl (two (w.heap.size + 1) g) w2).setB (og + u) (.int .i64 (x - sm))).setB (og + v) (.int .i64 (y + sm))).setA 0 (.slice B1 3 d1)).setA 1 (.slice (some ⟨g, og, none⟩) 3 d2)).setA 2 (.int .i64 L)
  have hT := (((Keeps.refl (one (w.heap.size + 1)) ((w2.setCell ⟨g, og + u, none⟩ (.int .i64 (x - sm))).setCell ⟨g, og + v, none⟩ (.int .i64 (y + sm)))).set1 0 (.slice B1 3 d1)).set1 1 (.slice (some ⟨g, og, none⟩) 3 d2)).set1 2 (.int .i64 L)
  have hlo2 : w.heap.size ≤ (w1.alloc (.cells #[.slice A1 3 c1, .slice (some ⟨b, off, none⟩) 3 c2, .int .i64 L] 25)).heap.size := by simp; omega
  rw [HM.out]
  refine ⟨_, rfl, ⟨_, _, _, _, _, _, rfl, ?_, ?_, HD.out, hd1, hd2, hm1, hm2⟩, ?_⟩
  · exact (((HR1.out.keeps hS fun i hi h => by rcases h with h | h; (have := HR1.out.ge hi; simp at this; omega); (exact HD.out i hi (h ▸ blk_mk (by omega)))).alloc _).alloc _).less hlo2
  · exact (((HRT.out.keeps hT fun i hi h => by have := blk_some hi; simp at this; have h' : i = w.heap.size + 1 := h; omega).alloc _).alloc _).less hlo2
  · exact ((((((Keeps.refl noBlk w).alloc _).alloc _).trans HK1.out).alloc _).trans HK2.out |>.then hS fun i hi h => by rcases h with h | h <;> omega).alloc _ |>.alloc _

theorem nat_of_user {u : Int} (h : userB u = true) : ∃ n : Nat, u = (n : Int) + 1 := ⟨(u - 1).toNat, by have := user_range h; omega⟩
theorem RetB2.no {w : World} {ok : Bool} {b : BankL} (h : ok = false) {e : Ending} {w' : World} (hr : RetNo w e w') : RetB2 w ok b e w' := .inr ⟨h, hr.1, hr.2⟩
theorem RetB2.yes {w : World} {ok : Bool} {b : BankL} (h : ok = true) {e : Ending} {w' : World} (hr : RetYes w b e w') : RetB2 w ok b e w' := .inl ⟨h, hr⟩

theorem specMove_any (A1 A2 : Option Addr) (n1 n2 c1 c2 : Nat) (L : Int) (xs ys : List Int) (w : World) (ha1 : Ints w A1 n1 xs) (ha2 : Ints w A2 n2 ys)
    (h1 : n1 ≤ maxLen) (h2 : n2 ≤ maxLen) (hL : L ≤ 9223372036854775807) (kd fr to sm : Int) :
    Calls Try.prog 37 #[.agg #[.slice A1 n1 c1, .slice A2 n2 c2, .int .i64 L], .int .i64 kd, .int .i64 fr, .int .i64 to, .int .i64 sm] w (RetB2 w (moveOk ⟨xs, ys, L⟩ kd fr to sm) (moved ⟨xs, ys, L⟩ kd fr to sm)) := by
  by_cases q1 : okB ⟨xs, ys, L⟩ = true
  · by_cases q2 : kindB kd = true
    · by_cases q3 : userB fr = true
      · by_cases q4 : userB to = true
        · by_cases q5 : sm < 0
          · exact (specMove_f5 A1 A2 n1 n2 c1 c2 L xs ys w ha1 ha2 h1 h2 hL kd fr to sm q1 q2 q3 q4 (by simpa using q5)).mono fun _ _ hr => RetB2.no (by simp [moveOk]; omega) hr
          · have d5 : decide (sm < 0) = false := by simpa using q5
            by_cases q6 : sm ≤ has ⟨xs, ys, L⟩ kd fr
            · have hyes : moveOk ⟨xs, ys, L⟩ kd fr to sm = true := by simp [moveOk, q1, q2, q3, q4, q6]; omega
              obtain ⟨u, rfl⟩ := nat_of_user q3
              obtain ⟨v, rfl⟩ := nat_of_user q4
              obtain rfl : 3 = n1 := (lst_len q1 1).symm.trans ha1.1
              obtain rfl : 3 = n2 := (lst_len q1 2).symm.trans ha2.1
              rcases kind_cases q2 with rfl | rfl
              · exact (specMove_ok_1 A1 A2 c1 c2 L xs ys w ha1 ha2 h1 h2 hL u v sm q1 q3 q4 d5 (by simpa [has, lst, ix] using q6)).mono fun _ _ hr => RetB2.yes hyes hr
              · exact (specMove_ok_2 A1 A2 c1 c2 L xs ys w ha1 ha2 h1 h2 hL u v sm q1 q3 q4 d5 (by simpa [has, lst, ix] using q6)).mono fun _ _ hr => RetB2.yes hyes hr
            · have hno : moveOk ⟨xs, ys, L⟩ kd fr to sm = false := by simp [moveOk, q6]
              obtain ⟨u, rfl⟩ := nat_of_user q3
              rcases kind_cases q2 with rfl | rfl
              · exact (specMove_f6_1 A1 A2 n1 n2 c1 c2 L xs ys w ha1 ha2 h1 h2 hL u to sm q1 q3 q4 d5 (by simpa [has, lst, ix] using q6)).mono fun _ _ hr => RetB2.no hno hr
              · exact (specMove_f6_2 A1 A2 n1 n2 c1 c2 L xs ys w ha1 ha2 h1 h2 hL u to sm q1 q3 q4 d5 (by simpa [has, lst, ix] using q6)).mono fun _ _ hr => RetB2.no hno hr
        · exact (specMove_f4 A1 A2 n1 n2 c1 c2 L xs ys w ha1 ha2 h1 h2 hL kd fr to sm q1 q2 q3 (Bool.eq_false_iff.2 q4)).mono fun _ _ hr => RetB2.no (by simp [moveOk, q4]) hr
      · exact (specMove_f3 A1 A2 n1 n2 c1 c2 L xs ys w ha1 ha2 h1 h2 hL kd fr to sm q1 q2 (Bool.eq_false_iff.2 q3)).mono fun _ _ hr => RetB2.no (by simp [moveOk, q3]) hr
    · exact (specMove_f2 A1 A2 n1 n2 c1 c2 L xs ys w ha1 ha2 h1 h2 hL kd fr to sm q1 (Bool.eq_false_iff.2 q2)).mono fun _ _ hr => RetB2.no (by simp [moveOk, q2]) hr
  · exact (specMove_f1 A1 A2 n1 n2 c1 c2 L xs ys w ha1 ha2 h1 h2 hL kd fr to sm (Bool.eq_false_iff.2 q1)).mono fun _ _ hr => RetB2.no (by simp [moveOk, q1]) hr

end Go.Proofs.Ytedmkbiamjpdaab
