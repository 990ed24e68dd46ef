/- openLedger of the program. -/
import Derived.Test.YtcnbephpadmboaaGreatDoorUILed
import Derived.Deep.RegionHeld3
import Derived.Deep.RegionWith
set_option linter.unusedVariables false
set_option linter.unusedSimpArgs false
namespace Go.Proofs.YtcnbephpadmboaaGreatDoor
open Go.RowKit
set_option maxRecDepth 100000

set_option maxHeartbeats 400000 in
theorem kindAmounts_1 (w : World) : Calls Tryz.prog 131 #[.int .i64 1] w fun e w' => e = .returned (.tuple #[.func (.func 139) #[] #[], .bool true]) ∧ w = w' := by
  go_enter Tryz.func131, Tryz.ntmps131
  go_wp2
  go_ret2
  exact ⟨rfl, rfl⟩
set_option maxHeartbeats 400000 in
theorem kindAmounts_2 (w : World) : Calls Tryz.prog 131 #[.int .i64 2] w fun e w' => e = .returned (.tuple #[.func (.func 140) #[] #[], .bool true]) ∧ w = w' := by
  go_enter Tryz.func131, Tryz.ntmps131
  go_wp2
  go_ret2
  exact ⟨rfl, rfl⟩
set_option maxHeartbeats 400000 in
theorem kindAmounts_no (k : Int) (w : World) (h : kindB k = false) : Calls Tryz.prog 131 #[.int .i64 k] w fun e w' => e = .returned (.tuple #[.nilFunc, .bool false]) ∧ w = w' := by
  have h1 : (k == 1) = false := by simp [kindB] at h; simp; omega
  have h2 : (k == 2) = false := by simp [kindB] at h; simp; omega
  go_enter Tryz.func131, Tryz.ntmps131
  go_wp2
  go_ret2
  exact ⟨rfl, rfl⟩

set_option maxHeartbeats 400000 in
theorem ownAmounts_any (M1 M2 : Nat) (L : Int) (w : World) : Calls Tryz.prog 139 #[.agg #[.map (some M1), .map (some M2), .int .i64 L]] w fun e w' => e = .returned (.map (some M1)) ∧ Keeps noBlk w w' := by
  go_enter Tryz.func139, Tryz.ntmps139
  go_wp2
  go_ret
  exact ⟨rfl, (Keeps.refl _ _).alloc _⟩
set_option maxHeartbeats 400000 in
theorem noteAmounts_any (M1 M2 : Nat) (L : Int) (w : World) : Calls Tryz.prog 140 #[.agg #[.map (some M1), .map (some M2), .int .i64 L]] w fun e w' => e = .returned (.map (some M2)) ∧ Keeps noBlk w w' := by
  go_enter Tryz.func140, Tryz.ntmps140
  go_wp2
  go_ret
  exact ⟨rfl, (Keeps.refl _ _).alloc _⟩

def noLed : Value := .agg #[.map none, .map none, .int .i64 0]
def RetLed (w : World) (k : Nat) (xs ys : List Int) (L : Int) (e : Ending) (w' : World) : Prop :=
  ∃ M1 M2, e = .returned (.tuple #[.agg #[.map (some M1), .map (some M2), .int .i64 L], .map (some (if k = 1 then M1 else M2)), .bool true]) ∧ w.heap.size ≤ M1 ∧ w.heap.size ≤ M2 ∧ M1 ≠ M2 ∧
    MapIs w' M1 xs.length xs ∧ MapIs w' M2 ys.length ys ∧ Keeps noBlk w w'
def RetNoLed (w : World) (e : Ending) (w' : World) : Prop := e = .returned (.tuple #[noLed, .map none, .bool false]) ∧ Keeps noBlk w w'

set_option maxHeartbeats 400000 in
theorem openLed_f1 (A1 A2 : Option Addr) (n1 n2 c1 c2 : Nat) (L : Int) (xs ys : List Int) (w : World) (ha1 : Ints w A1 n1 xs) (ha2 : Ints w A2 n2 ys) (h1 : n1 ≤ maxLen) (h2 : n2 ≤ maxLen) (kd : Int) (q2 : kindB kd = false) : Calls Tryz.prog 107 #[.agg #[.slice A1 n1 c1, .slice A2 n2 c2, .int .i64 L], .int .i64 kd] w (RetNoLed w) := by
  go_enter Tryz.func107, Tryz.ntmps107
  go_wp2_with fail
  refine (kindAmounts_no kd _ q2).mono ?_
  rintro e w' ⟨rfl, rfl⟩
  go_wp2
  refine bodyPost_ret (v := .tuple #[noLed, .map none, .bool false]) (by simp [results, Tryz.results107, go_sem, noLed]) rfl ?_
  exact ⟨rfl, ((Keeps.refl _ _).alloc _).alloc _⟩

set_option maxHeartbeats 400000 in
theorem openLed_f2_1 (A1 A2 : Option Addr) (n1 n2 c1 c2 : Nat) (L : Int) (xs ys : List Int) (w : World) (ha1 : Ints w A1 n1 xs) (ha2 : Ints w A2 n2 ys) (h1 : n1 ≤ maxLen) (h2 : n2 ≤ maxLen) (q1 : okB ⟨xs, ys, L⟩ = false) : Calls Tryz.prog 107 #[.agg #[.slice A1 n1 c1, .slice A2 n2 c2, .int .i64 L], .int .i64 1] w (RetNoLed w) := by
  go_enter Tryz.func107, Tryz.ntmps107
  go_wp2_with fail
  refine (kindAmounts_1 _).mono ?_
  rintro e w' ⟨rfl, rfl⟩
  go_wp2_with fail
  refine (implOk_any A1 A2 n1 n2 _ _ L xs ys _ ((ha1.alloc _).alloc _) ((ha2.alloc _).alloc _) h1 h2).mono ?_
  rintro e w1 ⟨rfl, hk1⟩
  have hb5 := ((Box.new w _ rfl 36 #[.slice A1 n1 c1, .slice A2 n2 c2, .int .i64 L]).alloc (.cells #[.map none, .map none, .int .i64 0] 140)).keeps hk1 fun h => h
  have hb6 := (Box.new (w.alloc (.cells #[.slice A1 n1 c1, .slice A2 n2 c2, .int .i64 L] 36)) (w.heap.size + 1) (by simp) 140 #[.map none, .map none, .int .i64 0]).keeps hk1 fun h => h
  have a0 := hb5.cell 0
  have a1 := hb5.cell 1
  have a2 := hb5.cell 2
  have r0 := hb6.cell 0
  have r1 := hb6.cell 1
  have r2 := hb6.cell 2
  have f0 := hb6.frozen 0
  have f1 := hb6.frozen 1
  have f2 := hb6.frozen 2
  simp at a0 a1 a2 r0 r1 r2
  have hz : w.heap.size + 1 < w1.heap.size := hb6.lt
  have hz0 : w.heap.size < w1.heap.size := by omega
  have HB5 := Lib.hid hb5
  have HB6 := Lib.hid hb6
  have HK1 := Lib.hid hk1
  clear hb5 hb6 hk1
  go_wp2
  refine bodyPost_ret (v := .tuple #[noLed, .map none, .bool false]) (by simp [results, Tryz.results107, go_sem, noLed, r0, r1, r2, hz]) rfl ?_
  exact ⟨rfl, ((((((Keeps.refl _ w).alloc _).alloc _).trans HK1.out).new (by omega) _ _).new (by omega) _ _).new (by omega) _ _⟩

set_option maxHeartbeats 400000 in
theorem openLed_f2_2 (A1 A2 : Option Addr) (n1 n2 c1 c2 : Nat) (L : Int) (xs ys : List Int) (w : World) (ha1 : Ints w A1 n1 xs) (ha2 : Ints w A2 n2 ys) (h1 : n1 ≤ maxLen) (h2 : n2 ≤ maxLen) (q1 : okB ⟨xs, ys, L⟩ = false) : Calls Tryz.prog 107 #[.agg #[.slice A1 n1 c1, .slice A2 n2 c2, .int .i64 L], .int .i64 2] w (RetNoLed w) := by
  go_enter Tryz.func107, Tryz.ntmps107
  go_wp2_with fail
  refine (kindAmounts_2 _).mono ?_
  rintro e w' ⟨rfl, rfl⟩
  go_wp2_with fail
  refine (implOk_any A1 A2 n1 n2 _ _ L xs ys _ ((ha1.alloc _).alloc _) ((ha2.alloc _).alloc _) h1 h2).mono ?_
  rintro e w1 ⟨rfl, hk1⟩
  have hb5 := ((Box.new w _ rfl 36 #[.slice A1 n1 c1, .slice A2 n2 c2, .int .i64 L]).alloc (.cells #[.map none, .map none, .int .i64 0] 140)).keeps hk1 fun h => h
  have hb6 := (Box.new (w.alloc (.cells #[.slice A1 n1 c1, .slice A2 n2 c2, .int .i64 L] 36)) (w.heap.size + 1) (by simp) 140 #[.map none, .map none, .int .i64 0]).keeps hk1 fun h => h
  have a0 := hb5.cell 0
  have a1 := hb5.cell 1
  have a2 := hb5.cell 2
  have r0 := hb6.cell 0
  have r1 := hb6.cell 1
  have r2 := hb6.cell 2
  have f0 := hb6.frozen 0
  have f1 := hb6.frozen 1
  have f2 := hb6.frozen 2
  simp at a0 a1 a2 r0 r1 r2
  have hz : w.heap.size + 1 < w1.heap.size := hb6.lt
  have hz0 : w.heap.size < w1.heap.size := by omega
  have HB5 := Lib.hid hb5
  have HB6 := Lib.hid hb6
  have HK1 := Lib.hid hk1
  clear hb5 hb6 hk1
  go_wp2
  refine bodyPost_ret (v := .tuple #[noLed, .map none, .bool false]) (by simp [results, Tryz.results107, go_sem, noLed, r0, r1, r2, hz]) rfl ?_
  exact ⟨rfl, ((((((Keeps.refl _ w).alloc _).alloc _).trans HK1.out).new (by omega) _ _).new (by omega) _ _).new (by omega) _ _⟩

set_option maxHeartbeats 2000000 in
theorem openLed_ok_1 (A1 A2 : Option Addr) (n1 n2 c1 c2 : Nat) (L : Int) (xs ys : List Int) (w : World) (ha1 : Ints w A1 n1 xs) (ha2 : Ints w A2 n2 ys) (h1 : n1 ≤ maxLen) (h2 : n2 ≤ maxLen) (q1 : okB ⟨xs, ys, L⟩ = true) : Calls Tryz.prog 107 #[.agg #[.slice A1 n1 c1, .slice A2 n2 c2, .int .i64 L], .int .i64 1] w (RetLed w 1 xs ys L) := by
  have HI1' := Lib.hid ha1
  have HI2' := Lib.hid ha2
  have l1 : n1 = 3 := ha1.1.symm.trans (lst_len q1 1)
  have l2 : n2 = 3 := ha2.1.symm.trans (lst_len q1 2)
  have n1b : n1 ≤ 3 := by omega
  have n2b : n2 ≤ 3 := by omega
  have HS1 := Lib.hid (lst_small q1 1)
  have HS2 := Lib.hid (lst_small q1 2)
  simp only [lst] at HS1 HS2
  clear ha1 ha2 l1 l2
  go_enter Tryz.func107, Tryz.ntmps107
  go_wp2_with fail
  refine (kindAmounts_1 _).mono ?_
  rintro e w' ⟨rfl, rfl⟩
  go_wp2_with fail
  refine (implOk_any A1 A2 n1 n2 _ _ L xs ys _ ((HI1'.out.alloc _).alloc _) ((HI2'.out.alloc _).alloc _) h1 h2).mono ?_
  rintro e w1 ⟨rfl, hk1⟩
  have hi1 := (((HI1'.out.alloc _).alloc _).keeps hk1 fun _ _ h => h)
  have hi2 := (((HI2'.out.alloc _).alloc _).keeps hk1 fun _ _ h => h)
  have HI1 := Lib.hid hi1
  have HI2 := Lib.hid hi2
  clear hi1 hi2
  have hb5 := ((Box.new w _ rfl 36 #[.slice A1 n1 c1, .slice A2 n2 c2, .int .i64 L]).alloc (.cells #[.map none, .map none, .int .i64 0] 140)).keeps hk1 fun h => h
  have hb6 := (Box.new (w.alloc (.cells #[.slice A1 n1 c1, .slice A2 n2 c2, .int .i64 L] 36)) (w.heap.size + 1) (by simp) 140 #[.map none, .map none, .int .i64 0]).keeps hk1 fun h => h
  have a0 := hb5.cell 0
  have a1 := hb5.cell 1
  have a2 := hb5.cell 2
  have r0 := hb6.cell 0
  have r1 := hb6.cell 1
  have r2 := hb6.cell 2
  have f0 := hb6.frozen 0
  have f1 := hb6.frozen 1
  have f2 := hb6.frozen 2
  simp at a0 a1 a2 r0 r1 r2
  have hz : w.heap.size + 1 < w1.heap.size := hb6.lt
  have hz0 : w.heap.size < w1.heap.size := by omega
  have HB5 := Lib.hid hb5
  have HB6 := Lib.hid hb6
  have HK1 := Lib.hid hk1
  clear hb5 hb6 hk1
  go_wp2_with fail
  go_region_held3 (fun w' => w'.cell? ⟨w.heap.size, 0, none⟩ = some (.slice A1 n1 c1) ∧ w'.cell? ⟨w.heap.size, 1, none⟩ = some (.slice A2 n2 c2) ∧ w'.cell? ⟨w.heap.size, 2, none⟩ = some (.int .i64 L))
    (((try dsimp only); (repeat' apply And.intro) <;> (first | with_reducible assumption | ((repeat (with_reducible refine (World.cell?_setCell_far _ _ _ _ (by dsimp only; omega)).trans ?_)); with_reducible assumption) | (with_reducible refine (World.cell?_alloc_lt _ _ _ (by dsimp only; omega)).trans ?_; with_reducible assumption) | (go_keep; done))))
    (first | (go_at_call_of 132 (Value.slice A1 n1 c1); refine (amountMap_any A1 n1 _ xs _ (by repeat (first | with_reducible exact HI1.out | with_reducible refine Ints.alloc ?_ _ | with_reducible refine Ints.drew ?_ | with_reducible refine Ints.keeps ?_ HK2.out (fun _ _ h => h))) (by omega) HS1.out).mono ?_; rintro e w2 ⟨M1, rfl, hM1, hm1, hk2⟩; have hA2 := ((by repeat (first | with_reducible exact HB5.out | with_reducible refine Box.alloc ?_ _ | with_reducible refine Box.drew ?_)) : Box _ w.heap.size 36 #[.slice A1 n1 c1, .slice A2 n2 c2, .int .i64 L]).keeps hk2 fun h => h; have a0 := hA2.cell 0; have a1 := hA2.cell 1; have a2 := hA2.cell 2; simp at a0 a1 a2; have z2 := hA2.lt; have HA2 := Lib.hid hA2; clear hA2; (first | (have T2 := (Box.new w1.drew w1.heap.size rfl 140 #[.map none, .map none, .int .i64 0]).keeps hk2 fun h => h; have y0 := T2.cell 0; have y1 := T2.cell 1; have y2 := T2.cell 2; have e0 := T2.frozen 0; have e1 := T2.frozen 1; have e2 := T2.frozen 2; simp at y0 y1 y2; have HT2 := Lib.hid T2; clear T2) | skip); have HK2 := Lib.hid hk2; have HM1 := Lib.hid hm1; clear hk2 hm1) | (go_at_call_of 132 (Value.slice A2 n2 c2); refine (amountMap_any A2 n2 _ ys _ (by repeat (first | with_reducible exact HI2.out | with_reducible refine Ints.alloc ?_ _ | with_reducible refine Ints.drew ?_ | with_reducible refine Ints.keeps ?_ HK2.out (fun _ _ h => h))) (by omega) HS2.out).mono ?_; rintro e w3 ⟨M2, rfl, hM2, hm2, hk3⟩; have hA3 := ((by repeat (first | with_reducible exact HA2.out | with_reducible refine Box.alloc ?_ _ | with_reducible refine Box.drew ?_)) : Box _ w.heap.size 36 #[.slice A1 n1 c1, .slice A2 n2 c2, .int .i64 L]).keeps hk3 fun h => h; have a0 := hA3.cell 0; have a1 := hA3.cell 1; have a2 := hA3.cell 2; simp at a0 a1 a2; have z3 := hA3.lt; have HA3 := Lib.hid hA3; clear hA3; (first | (have T3 := HT2.out.keeps hk3 fun h => h; have y0 := T3.cell 0; have y1 := T3.cell 1; have y2 := T3.cell 2; have e0 := T3.frozen 0; have e1 := T3.frozen 1; have e2 := T3.frozen 2; simp at y0 y1 y2; have HT3 := Lib.hid T3; clear T3) | (have T3 := (Box.new w2 _ rfl 140 #[.map none, .map none, .int .i64 0]).keeps hk3 fun h => h; have y0 := T3.cell 0; have y1 := T3.cell 1; have y2 := T3.cell 2; have e0 := T3.frozen 0; have e1 := T3.frozen 1; have e2 := T3.frozen 2; simp at y0 y1 y2; have HT3 := Lib.hid T3; clear T3) | skip); have HK3 := Lib.hid hk3; have HM2 := Lib.hid hm2; clear hk3 hm2))
  · -- the variable made last
    have hMlt1 := HM1.out.lt
    have hMlt2 := HM2.out.lt
    have hm1X : MapIs (w3.alloc (.cells #[.map (some M1), .map (some M2), .int .i64 L] 140)) M1 xs.length xs := MapIs.alloc (by repeat (first | with_reducible exact HM1.out | with_reducible refine MapIs.keeps ?_ HK3.out (fun h => h) | with_reducible refine MapIs.alloc ?_ _)) _
    have hm2X : MapIs (w3.alloc (.cells #[.map (some M1), .map (some M2), .int .i64 L] 140)) M2 ys.length ys := HM2.out.alloc _
    have hTX := Box.new w3 _ rfl 140 #[.map (some M1), .map (some M2), .int .i64 L]
    have hRX := (((by repeat (first | with_reducible exact HB6.out | with_reducible refine Box.keeps ?_ HK3.out (fun h => h) | with_reducible refine Box.keeps ?_ HK2.out (fun h => h) | with_reducible refine Box.alloc ?_ _ | with_reducible refine Box.drew ?_)) : Box w3 (w.heap.size + 1) 140 #[.map none, .map none, .int .i64 0])).alloc (.cells #[.map (some M1), .map (some M2), .int .i64 L] 140)
    have hKX : Keeps noBlk w _ := (((by repeat (first | with_reducible exact Keeps.refl _ _ | with_reducible refine Keeps.trans ?_ HK3.out | with_reducible refine Keeps.trans ?_ HK2.out | with_reducible refine Keeps.trans ?_ HK1.out | with_reducible refine Keeps.alloc ?_ _ | with_reducible refine Keeps.drew ?_)) : Keeps noBlk w w3)).alloc (.cells #[.map (some M1), .map (some M2), .int .i64 L] 140)
    have t0 := hTX.cell 0
    have t1 := hTX.cell 1
    have t2 := hTX.cell 2
    simp at t0 t1 t2
    have HTX := Lib.hid hTX
    have HRX := Lib.hid hRX
    have HKX := Lib.hid hKX
    have HX1 := Lib.hid hm1X
    have HX2 := Lib.hid hm2X
    clear hTX hRX hKX hm1X hm2X
    go_wp2_with fail
    go_region_with (first | (go_at_call 139; refine (ownAmounts_any M1 M2 L _).mono ?_; rintro e w4 ⟨rfl, hk4⟩; have hT4 := (HTX.out.drewN 1).keeps hk4 fun h => h; have t0 := hT4.cell 0; have t1 := hT4.cell 1; have t2 := hT4.cell 2; simp at t0 t1 t2; have hR4 := (HRX.out.drewN 1).keeps hk4 fun h => h; have r0 := hR4.cell 0; have r1 := hR4.cell 1; have r2 := hR4.cell 2; have f0 := hR4.frozen 0; have f1 := hR4.frozen 1; have f2 := hR4.frozen 2; simp at r0 r1 r2; have HK4 := Lib.hid hk4; clear hT4 hR4 hk4))
    all_goals
      have hS : Keeps (one (w.heap.size + 1)) w4 (((w4.setCell ⟨w.heap.size + 1, 0, none⟩ (.map (some M1))).setCell ⟨w.heap.size + 1, 1, none⟩ (.map (some M2))).setCell ⟨w.heap.size + 1, 2, none⟩ (.int .i64 L)) := (((Keeps.refl _ w4).set1 _ _).set1 _ _).set1 _ _
      have hb1 : w.heap.size + 1 < M1 := by (try simp at hM1); omega
      have hb2 : w.heap.size + 1 < M2 := by (try simp at hM2); omega
      have hne : M1 ≠ M2 := by have h9 := HM1.out.lt; (try simp at hM2); omega
      have hr1 := ((HX1.out.drewN 1).keeps HK4.out fun h => h).keeps hS fun h => by have h' : M1 = w.heap.size + 1 := h; omega
      have hr2 := ((HX2.out.drewN 1).keeps HK4.out fun h => h).keeps hS fun h => by have h' : M2 = w.heap.size + 1 := h; omega
      have hK := (((HKX.out.drewN 1).trans HK4.out)).then hS fun i hi h => by have h' : i = w.heap.size + 1 := h; omega
      have HFIN := Lib.hid (⟨M1, M2, rfl, by omega, by omega, hne, hr1, hr2, hK⟩ : RetLed w 1 xs ys L (.returned (.tuple #[.agg #[.map (some M1), .map (some M2), .int .i64 L], .map (some M1), .bool true])) _)
      clear hS hr1 hr2 hK hne
      go_wp2
      refine bodyPost_ret (v := .tuple #[.agg #[.map (some M1), .map (some M2), .int .i64 L], .map (some M1), .bool true]) (by simp [results, Tryz.results107, go_sem, r0, r1, r2]) rfl ?_
      exact HFIN.out
  · have hMlt1 := HM1.out.lt
    have hMlt2 := HM2.out.lt
    have s2 := HK2.out.size
    have s3 := HK3.out.size
    (try simp at s2)
    (try simp at s3)
    have hS3 : Keeps (one w2.heap.size) w3 (((w3.setCell ⟨w2.heap.size, 0, none⟩ (.map (some M1))).setCell ⟨w2.heap.size, 1, none⟩ (.map (some M2))).setCell ⟨w2.heap.size, 2, none⟩ (.int .i64 L)) := (((Keeps.refl _ w3).set1 _ _).set1 _ _).set1 _ _
    have n1t : ¬ M1 = w2.heap.size := by (try simp at hM1); omega
    have n2t : ¬ M2 = w2.heap.size := by (try simp at hM2); omega
    have hm1X : MapIs (((w3.setCell ⟨w2.heap.size, 0, none⟩ (.map (some M1))).setCell ⟨w2.heap.size, 1, none⟩ (.map (some M2))).setCell ⟨w2.heap.size, 2, none⟩ (.int .i64 L)) M1 xs.length xs := MapIs.keeps (w := w3) (by repeat (first | with_reducible exact HM1.out | with_reducible refine MapIs.keeps ?_ HK3.out (fun h => h) | with_reducible refine MapIs.alloc ?_ _)) hS3 n1t
    have hm2X : MapIs (((w3.setCell ⟨w2.heap.size, 0, none⟩ (.map (some M1))).setCell ⟨w2.heap.size, 1, none⟩ (.map (some M2))).setCell ⟨w2.heap.size, 2, none⟩ (.int .i64 L)) M2 ys.length ys := HM2.out.keeps hS3 n2t
    have hTX := ((HT3.out.set_ 0 (.map (some M1))).set_ 1 (.map (some M2))).set_ 2 (.int .i64 L)
    simp at hTX
    have hRX := (((by repeat (first | with_reducible exact HB6.out | with_reducible refine Box.keeps ?_ HK3.out (fun h => h) | with_reducible refine Box.keeps ?_ HK2.out (fun h => h) | with_reducible refine Box.alloc ?_ _ | with_reducible refine Box.drew ?_)) : Box w3 (w.heap.size + 1) 140 #[.map none, .map none, .int .i64 0])).keeps hS3 fun h => by have h' : w.heap.size + 1 = w2.heap.size := h; omega
    have hKX : Keeps noBlk w (((w3.setCell ⟨w2.heap.size, 0, none⟩ (.map (some M1))).setCell ⟨w2.heap.size, 1, none⟩ (.map (some M2))).setCell ⟨w2.heap.size, 2, none⟩ (.int .i64 L)) := (((((by repeat (first | with_reducible exact Keeps.refl _ _ | with_reducible refine Keeps.trans ?_ HK3.out | with_reducible refine Keeps.trans ?_ HK2.out | with_reducible refine Keeps.trans ?_ HK1.out | with_reducible refine Keeps.alloc ?_ _ | with_reducible refine Keeps.drew ?_)) : Keeps noBlk w w3)).new (by omega) _ _).new (by omega) _ _).new (by omega) _ _
    clear hS3
    have t0 := hTX.cell 0
    have t1 := hTX.cell 1
    have t2 := hTX.cell 2
    simp at t0 t1 t2
    have HTX := Lib.hid hTX
    have HRX := Lib.hid hRX
    have HKX := Lib.hid hKX
    have HX1 := Lib.hid hm1X
    have HX2 := Lib.hid hm2X
    clear hTX hRX hKX hm1X hm2X
    go_wp2_with fail
    go_region_with (first | (go_at_call 139; refine (ownAmounts_any M1 M2 L _).mono ?_; rintro e w4 ⟨rfl, hk4⟩; have hT4 := (HTX.out.drewN 1).keeps hk4 fun h => h; have t0 := hT4.cell 0; have t1 := hT4.cell 1; have t2 := hT4.cell 2; simp at t0 t1 t2; have hR4 := (HRX.out.drewN 1).keeps hk4 fun h => h; have r0 := hR4.cell 0; have r1 := hR4.cell 1; have r2 := hR4.cell 2; have f0 := hR4.frozen 0; have f1 := hR4.frozen 1; have f2 := hR4.frozen 2; simp at r0 r1 r2; have HK4 := Lib.hid hk4; clear hT4 hR4 hk4))
    all_goals
      have hS : Keeps (one (w.heap.size + 1)) w4 (((w4.setCell ⟨w.heap.size + 1, 0, none⟩ (.map (some M1))).setCell ⟨w.heap.size + 1, 1, none⟩ (.map (some M2))).setCell ⟨w.heap.size + 1, 2, none⟩ (.int .i64 L)) := (((Keeps.refl _ w4).set1 _ _).set1 _ _).set1 _ _
      have hb1 : w.heap.size + 1 < M1 := by (try simp at hM1); omega
      have hb2 : w.heap.size + 1 < M2 := by (try simp at hM2); omega
      have hne : M1 ≠ M2 := by have h9 := HM1.out.lt; (try simp at hM2); omega
      have hr1 := ((HX1.out.drewN 1).keeps HK4.out fun h => h).keeps hS fun h => by have h' : M1 = w.heap.size + 1 := h; omega
      have hr2 := ((HX2.out.drewN 1).keeps HK4.out fun h => h).keeps hS fun h => by have h' : M2 = w.heap.size + 1 := h; omega
      have hK := (((HKX.out.drewN 1).trans HK4.out)).then hS fun i hi h => by have h' : i = w.heap.size + 1 := h; omega
      have HFIN := Lib.hid (⟨M1, M2, rfl, by omega, by omega, hne, hr1, hr2, hK⟩ : RetLed w 1 xs ys L (.returned (.tuple #[.agg #[.map (some M1), .map (some M2), .int .i64 L], .map (some M1), .bool true])) _)
      clear hS hr1 hr2 hK hne
      go_wp2
      refine bodyPost_ret (v := .tuple #[.agg #[.map (some M1), .map (some M2), .int .i64 L], .map (some M1), .bool true]) (by simp [results, Tryz.results107, go_sem, r0, r1, r2]) rfl ?_
      exact HFIN.out
  · have hMlt1 := HM1.out.lt
    have hMlt2 := HM2.out.lt
    have s2 := HK2.out.size
    have s3 := HK3.out.size
    (try simp at s2)
    (try simp at s3)
    have hS3 : Keeps (one w1.heap.size) w3 (((w3.setCell ⟨w1.heap.size, 0, none⟩ (.map (some M1))).setCell ⟨w1.heap.size, 1, none⟩ (.map (some M2))).setCell ⟨w1.heap.size, 2, none⟩ (.int .i64 L)) := (((Keeps.refl _ w3).set1 _ _).set1 _ _).set1 _ _
    have n1t : ¬ M1 = w1.heap.size := by (try simp at hM1); omega
    have n2t : ¬ M2 = w1.heap.size := by (try simp at hM2); omega
    have hm1X : MapIs (((w3.setCell ⟨w1.heap.size, 0, none⟩ (.map (some M1))).setCell ⟨w1.heap.size, 1, none⟩ (.map (some M2))).setCell ⟨w1.heap.size, 2, none⟩ (.int .i64 L)) M1 xs.length xs := MapIs.keeps (w := w3) (by repeat (first | with_reducible exact HM1.out | with_reducible refine MapIs.keeps ?_ HK3.out (fun h => h) | with_reducible refine MapIs.alloc ?_ _)) hS3 n1t
    have hm2X : MapIs (((w3.setCell ⟨w1.heap.size, 0, none⟩ (.map (some M1))).setCell ⟨w1.heap.size, 1, none⟩ (.map (some M2))).setCell ⟨w1.heap.size, 2, none⟩ (.int .i64 L)) M2 ys.length ys := HM2.out.keeps hS3 n2t
    have hTX := ((HT3.out.set_ 0 (.map (some M1))).set_ 1 (.map (some M2))).set_ 2 (.int .i64 L)
    simp at hTX
    have hRX := (((by repeat (first | with_reducible exact HB6.out | with_reducible refine Box.keeps ?_ HK3.out (fun h => h) | with_reducible refine Box.keeps ?_ HK2.out (fun h => h) | with_reducible refine Box.alloc ?_ _ | with_reducible refine Box.drew ?_)) : Box w3 (w.heap.size + 1) 140 #[.map none, .map none, .int .i64 0])).keeps hS3 fun h => by have h' : w.heap.size + 1 = w1.heap.size := h; omega
    have hKX : Keeps noBlk w (((w3.setCell ⟨w1.heap.size, 0, none⟩ (.map (some M1))).setCell ⟨w1.heap.size, 1, none⟩ (.map (some M2))).setCell ⟨w1.heap.size, 2, none⟩ (.int .i64 L)) := (((((by repeat (first | with_reducible exact Keeps.refl _ _ | with_reducible refine Keeps.trans ?_ HK3.out | with_reducible refine Keeps.trans ?_ HK2.out | with_reducible refine Keeps.trans ?_ HK1.out | with_reducible refine Keeps.alloc ?_ _ | with_reducible refine Keeps.drew ?_)) : Keeps noBlk w w3)).new (by omega) _ _).new (by omega) _ _).new (by omega) _ _
    clear hS3
    have t0 := hTX.cell 0
    have t1 := hTX.cell 1
    have t2 := hTX.cell 2
    simp at t0 t1 t2
    have HTX := Lib.hid hTX
    have HRX := Lib.hid hRX
    have HKX := Lib.hid hKX
    have HX1 := Lib.hid hm1X
    have HX2 := Lib.hid hm2X
    clear hTX hRX hKX hm1X hm2X
    go_wp2_with fail
    go_region_with (first | (go_at_call 139; refine (ownAmounts_any M1 M2 L _).mono ?_; rintro e w4 ⟨rfl, hk4⟩; have hT4 := (HTX.out.drewN 1).keeps hk4 fun h => h; have t0 := hT4.cell 0; have t1 := hT4.cell 1; have t2 := hT4.cell 2; simp at t0 t1 t2; have hR4 := (HRX.out.drewN 1).keeps hk4 fun h => h; have r0 := hR4.cell 0; have r1 := hR4.cell 1; have r2 := hR4.cell 2; have f0 := hR4.frozen 0; have f1 := hR4.frozen 1; have f2 := hR4.frozen 2; simp at r0 r1 r2; have HK4 := Lib.hid hk4; clear hT4 hR4 hk4))
    all_goals
      have hS : Keeps (one (w.heap.size + 1)) w4 (((w4.setCell ⟨w.heap.size + 1, 0, none⟩ (.map (some M1))).setCell ⟨w.heap.size + 1, 1, none⟩ (.map (some M2))).setCell ⟨w.heap.size + 1, 2, none⟩ (.int .i64 L)) := (((Keeps.refl _ w4).set1 _ _).set1 _ _).set1 _ _
      have hb1 : w.heap.size + 1 < M1 := by (try simp at hM1); omega
      have hb2 : w.heap.size + 1 < M2 := by (try simp at hM2); omega
      have hne : M1 ≠ M2 := by have h9 := HM1.out.lt; (try simp at hM2); omega
      have hr1 := ((HX1.out.drewN 1).keeps HK4.out fun h => h).keeps hS fun h => by have h' : M1 = w.heap.size + 1 := h; omega
      have hr2 := ((HX2.out.drewN 1).keeps HK4.out fun h => h).keeps hS fun h => by have h' : M2 = w.heap.size + 1 := h; omega
      have hK := (((HKX.out.drewN 1).trans HK4.out)).then hS fun i hi h => by have h' : i = w.heap.size + 1 := h; omega
      have HFIN := Lib.hid (⟨M1, M2, rfl, by omega, by omega, hne, hr1, hr2, hK⟩ : RetLed w 1 xs ys L (.returned (.tuple #[.agg #[.map (some M1), .map (some M2), .int .i64 L], .map (some M1), .bool true])) _)
      clear hS hr1 hr2 hK hne
      go_wp2
      refine bodyPost_ret (v := .tuple #[.agg #[.map (some M1), .map (some M2), .int .i64 L], .map (some M1), .bool true]) (by simp [results, Tryz.results107, go_sem, r0, r1, r2]) rfl ?_
      exact HFIN.out

set_option maxHeartbeats 2000000 in
theorem openLed_ok_2 (A1 A2 : Option Addr) (n1 n2 c1 c2 : Nat) (L : Int) (xs ys : List Int) (w : World) (ha1 : Ints w A1 n1 xs) (ha2 : Ints w A2 n2 ys) (h1 : n1 ≤ maxLen) (h2 : n2 ≤ maxLen) (q1 : okB ⟨xs, ys, L⟩ = true) : Calls Tryz.prog 107 #[.agg #[.slice A1 n1 c1, .slice A2 n2 c2, .int .i64 L], .int .i64 2] w (RetLed w 2 xs ys L) := by
  have HI1' := Lib.hid ha1
  have HI2' := Lib.hid ha2
  have l1 : n1 = 3 := ha1.1.symm.trans (lst_len q1 1)
  have l2 : n2 = 3 := ha2.1.symm.trans (lst_len q1 2)
  have n1b : n1 ≤ 3 := by omega
  have n2b : n2 ≤ 3 := by omega
  have HS1 := Lib.hid (lst_small q1 1)
  have HS2 := Lib.hid (lst_small q1 2)
  simp only [lst] at HS1 HS2
  clear ha1 ha2 l1 l2
  go_enter Tryz.func107, Tryz.ntmps107
  go_wp2_with fail
  refine (kindAmounts_2 _).mono ?_
  rintro e w' ⟨rfl, rfl⟩
  go_wp2_with fail
  refine (implOk_any A1 A2 n1 n2 _ _ L xs ys _ ((HI1'.out.alloc _).alloc _) ((HI2'.out.alloc _).alloc _) h1 h2).mono ?_
  rintro e w1 ⟨rfl, hk1⟩
  have hi1 := (((HI1'.out.alloc _).alloc _).keeps hk1 fun _ _ h => h)
  have hi2 := (((HI2'.out.alloc _).alloc _).keeps hk1 fun _ _ h => h)
  have HI1 := Lib.hid hi1
  have HI2 := Lib.hid hi2
  clear hi1 hi2
  have hb5 := ((Box.new w _ rfl 36 #[.slice A1 n1 c1, .slice A2 n2 c2, .int .i64 L]).alloc (.cells #[.map none, .map none, .int .i64 0] 140)).keeps hk1 fun h => h
  have hb6 := (Box.new (w.alloc (.cells #[.slice A1 n1 c1, .slice A2 n2 c2, .int .i64 L] 36)) (w.heap.size + 1) (by simp) 140 #[.map none, .map none, .int .i64 0]).keeps hk1 fun h => h
  have a0 := hb5.cell 0
  have a1 := hb5.cell 1
  have a2 := hb5.cell 2
  have r0 := hb6.cell 0
  have r1 := hb6.cell 1
  have r2 := hb6.cell 2
  have f0 := hb6.frozen 0
  have f1 := hb6.frozen 1
  have f2 := hb6.frozen 2
  simp at a0 a1 a2 r0 r1 r2
  have hz : w.heap.size + 1 < w1.heap.size := hb6.lt
  have hz0 : w.heap.size < w1.heap.size := by omega
  have HB5 := Lib.hid hb5
  have HB6 := Lib.hid hb6
  have HK1 := Lib.hid hk1
  clear hb5 hb6 hk1
  go_wp2_with fail
  go_region_held3 (fun w' => w'.cell? ⟨w.heap.size, 0, none⟩ = some (.slice A1 n1 c1) ∧ w'.cell? ⟨w.heap.size, 1, none⟩ = some (.slice A2 n2 c2) ∧ w'.cell? ⟨w.heap.size, 2, none⟩ = some (.int .i64 L))
    (((try dsimp only); (repeat' apply And.intro) <;> (first | with_reducible assumption | ((repeat (with_reducible refine (World.cell?_setCell_far _ _ _ _ (by dsimp only; omega)).trans ?_)); with_reducible assumption) | (with_reducible refine (World.cell?_alloc_lt _ _ _ (by dsimp only; omega)).trans ?_; with_reducible assumption) | (go_keep; done))))
    (first | (go_at_call_of 132 (Value.slice A1 n1 c1); refine (amountMap_any A1 n1 _ xs _ (by repeat (first | with_reducible exact HI1.out | with_reducible refine Ints.alloc ?_ _ | with_reducible refine Ints.drew ?_ | with_reducible refine Ints.keeps ?_ HK2.out (fun _ _ h => h))) (by omega) HS1.out).mono ?_; rintro e w2 ⟨M1, rfl, hM1, hm1, hk2⟩; have hA2 := ((by repeat (first | with_reducible exact HB5.out | with_reducible refine Box.alloc ?_ _ | with_reducible refine Box.drew ?_)) : Box _ w.heap.size 36 #[.slice A1 n1 c1, .slice A2 n2 c2, .int .i64 L]).keeps hk2 fun h => h; have a0 := hA2.cell 0; have a1 := hA2.cell 1; have a2 := hA2.cell 2; simp at a0 a1 a2; have z2 := hA2.lt; have HA2 := Lib.hid hA2; clear hA2; (first | (have T2 := (Box.new w1.drew w1.heap.size rfl 140 #[.map none, .map none, .int .i64 0]).keeps hk2 fun h => h; have y0 := T2.cell 0; have y1 := T2.cell 1; have y2 := T2.cell 2; have e0 := T2.frozen 0; have e1 := T2.frozen 1; have e2 := T2.frozen 2; simp at y0 y1 y2; have HT2 := Lib.hid T2; clear T2) | skip); have HK2 := Lib.hid hk2; have HM1 := Lib.hid hm1; clear hk2 hm1) | (go_at_call_of 132 (Value.slice A2 n2 c2); refine (amountMap_any A2 n2 _ ys _ (by repeat (first | with_reducible exact HI2.out | with_reducible refine Ints.alloc ?_ _ | with_reducible refine Ints.drew ?_ | with_reducible refine Ints.keeps ?_ HK2.out (fun _ _ h => h))) (by omega) HS2.out).mono ?_; rintro e w3 ⟨M2, rfl, hM2, hm2, hk3⟩; have hA3 := ((by repeat (first | with_reducible exact HA2.out | with_reducible refine Box.alloc ?_ _ | with_reducible refine Box.drew ?_)) : Box _ w.heap.size 36 #[.slice A1 n1 c1, .slice A2 n2 c2, .int .i64 L]).keeps hk3 fun h => h; have a0 := hA3.cell 0; have a1 := hA3.cell 1; have a2 := hA3.cell 2; simp at a0 a1 a2; have z3 := hA3.lt; have HA3 := Lib.hid hA3; clear hA3; (first | (have T3 := HT2.out.keeps hk3 fun h => h; have y0 := T3.cell 0; have y1 := T3.cell 1; have y2 := T3.cell 2; have e0 := T3.frozen 0; have e1 := T3.frozen 1; have e2 := T3.frozen 2; simp at y0 y1 y2; have HT3 := Lib.hid T3; clear T3) | (have T3 := (Box.new w2 _ rfl 140 #[.map none, .map none, .int .i64 0]).keeps hk3 fun h => h; have y0 := T3.cell 0; have y1 := T3.cell 1; have y2 := T3.cell 2; have e0 := T3.frozen 0; have e1 := T3.frozen 1; have e2 := T3.frozen 2; simp at y0 y1 y2; have HT3 := Lib.hid T3; clear T3) | skip); have HK3 := Lib.hid hk3; have HM2 := Lib.hid hm2; clear hk3 hm2))
  · -- the variable made last
    have hMlt1 := HM1.out.lt
    have hMlt2 := HM2.out.lt
    have hm1X : MapIs (w3.alloc (.cells #[.map (some M1), .map (some M2), .int .i64 L] 140)) M1 xs.length xs := MapIs.alloc (by repeat (first | with_reducible exact HM1.out | with_reducible refine MapIs.keeps ?_ HK3.out (fun h => h) | with_reducible refine MapIs.alloc ?_ _)) _
    have hm2X : MapIs (w3.alloc (.cells #[.map (some M1), .map (some M2), .int .i64 L] 140)) M2 ys.length ys := HM2.out.alloc _
    have hTX := Box.new w3 _ rfl 140 #[.map (some M1), .map (some M2), .int .i64 L]
    have hRX := (((by repeat (first | with_reducible exact HB6.out | with_reducible refine Box.keeps ?_ HK3.out (fun h => h) | with_reducible refine Box.keeps ?_ HK2.out (fun h => h) | with_reducible refine Box.alloc ?_ _ | with_reducible refine Box.drew ?_)) : Box w3 (w.heap.size + 1) 140 #[.map none, .map none, .int .i64 0])).alloc (.cells #[.map (some M1), .map (some M2), .int .i64 L] 140)
    have hKX : Keeps noBlk w _ := (((by repeat (first | with_reducible exact Keeps.refl _ _ | with_reducible refine Keeps.trans ?_ HK3.out | with_reducible refine Keeps.trans ?_ HK2.out | with_reducible refine Keeps.trans ?_ HK1.out | with_reducible refine Keeps.alloc ?_ _ | with_reducible refine Keeps.drew ?_)) : Keeps noBlk w w3)).alloc (.cells #[.map (some M1), .map (some M2), .int .i64 L] 140)
    have t0 := hTX.cell 0
    have t1 := hTX.cell 1
    have t2 := hTX.cell 2
    simp at t0 t1 t2
    have HTX := Lib.hid hTX
    have HRX := Lib.hid hRX
    have HKX := Lib.hid hKX
    have HX1 := Lib.hid hm1X
    have HX2 := Lib.hid hm2X
    clear hTX hRX hKX hm1X hm2X
    go_wp2_with fail
    go_region_with (first | (go_at_call 140; refine (noteAmounts_any M1 M2 L _).mono ?_; rintro e w4 ⟨rfl, hk4⟩; have hT4 := (HTX.out.drewN 1).keeps hk4 fun h => h; have t0 := hT4.cell 0; have t1 := hT4.cell 1; have t2 := hT4.cell 2; simp at t0 t1 t2; have hR4 := (HRX.out.drewN 1).keeps hk4 fun h => h; have r0 := hR4.cell 0; have r1 := hR4.cell 1; have r2 := hR4.cell 2; have f0 := hR4.frozen 0; have f1 := hR4.frozen 1; have f2 := hR4.frozen 2; simp at r0 r1 r2; have HK4 := Lib.hid hk4; clear hT4 hR4 hk4))
    all_goals
      have hS : Keeps (one (w.heap.size + 1)) w4 (((w4.setCell ⟨w.heap.size + 1, 0, none⟩ (.map (some M1))).setCell ⟨w.heap.size + 1, 1, none⟩ (.map (some M2))).setCell ⟨w.heap.size + 1, 2, none⟩ (.int .i64 L)) := (((Keeps.refl _ w4).set1 _ _).set1 _ _).set1 _ _
      have hb1 : w.heap.size + 1 < M1 := by (try simp at hM1); omega
      have hb2 : w.heap.size + 1 < M2 := by (try simp at hM2); omega
      have hne : M1 ≠ M2 := by have h9 := HM1.out.lt; (try simp at hM2); omega
      have hr1 := ((HX1.out.drewN 1).keeps HK4.out fun h => h).keeps hS fun h => by have h' : M1 = w.heap.size + 1 := h; omega
      have hr2 := ((HX2.out.drewN 1).keeps HK4.out fun h => h).keeps hS fun h => by have h' : M2 = w.heap.size + 1 := h; omega
      have hK := (((HKX.out.drewN 1).trans HK4.out)).then hS fun i hi h => by have h' : i = w.heap.size + 1 := h; omega
      have HFIN := Lib.hid (⟨M1, M2, rfl, by omega, by omega, hne, hr1, hr2, hK⟩ : RetLed w 2 xs ys L (.returned (.tuple #[.agg #[.map (some M1), .map (some M2), .int .i64 L], .map (some M2), .bool true])) _)
      clear hS hr1 hr2 hK hne
      go_wp2
      refine bodyPost_ret (v := .tuple #[.agg #[.map (some M1), .map (some M2), .int .i64 L], .map (some M2), .bool true]) (by simp [results, Tryz.results107, go_sem, r0, r1, r2]) rfl ?_
      exact HFIN.out
  · have hMlt1 := HM1.out.lt
    have hMlt2 := HM2.out.lt
    have s2 := HK2.out.size
    have s3 := HK3.out.size
    (try simp at s2)
    (try simp at s3)
    have hS3 : Keeps (one w2.heap.size) w3 (((w3.setCell ⟨w2.heap.size, 0, none⟩ (.map (some M1))).setCell ⟨w2.heap.size, 1, none⟩ (.map (some M2))).setCell ⟨w2.heap.size, 2, none⟩ (.int .i64 L)) := (((Keeps.refl _ w3).set1 _ _).set1 _ _).set1 _ _
    have n1t : ¬ M1 = w2.heap.size := by (try simp at hM1); omega
    have n2t : ¬ M2 = w2.heap.size := by (try simp at hM2); omega
    have hm1X : MapIs (((w3.setCell ⟨w2.heap.size, 0, none⟩ (.map (some M1))).setCell ⟨w2.heap.size, 1, none⟩ (.map (some M2))).setCell ⟨w2.heap.size, 2, none⟩ (.int .i64 L)) M1 xs.length xs := MapIs.keeps (w := w3) (by repeat (first | with_reducible exact HM1.out | with_reducible refine MapIs.keeps ?_ HK3.out (fun h => h) | with_reducible refine MapIs.alloc ?_ _)) hS3 n1t
    have hm2X : MapIs (((w3.setCell ⟨w2.heap.size, 0, none⟩ (.map (some M1))).setCell ⟨w2.heap.size, 1, none⟩ (.map (some M2))).setCell ⟨w2.heap.size, 2, none⟩ (.int .i64 L)) M2 ys.length ys := HM2.out.keeps hS3 n2t
    have hTX := ((HT3.out.set_ 0 (.map (some M1))).set_ 1 (.map (some M2))).set_ 2 (.int .i64 L)
    simp at hTX
    have hRX := (((by repeat (first | with_reducible exact HB6.out | with_reducible refine Box.keeps ?_ HK3.out (fun h => h) | with_reducible refine Box.keeps ?_ HK2.out (fun h => h) | with_reducible refine Box.alloc ?_ _ | with_reducible refine Box.drew ?_)) : Box w3 (w.heap.size + 1) 140 #[.map none, .map none, .int .i64 0])).keeps hS3 fun h => by have h' : w.heap.size + 1 = w2.heap.size := h; omega
    have hKX : Keeps noBlk w (((w3.setCell ⟨w2.heap.size, 0, none⟩ (.map (some M1))).setCell ⟨w2.heap.size, 1, none⟩ (.map (some M2))).setCell ⟨w2.heap.size, 2, none⟩ (.int .i64 L)) := (((((by repeat (first | with_reducible exact Keeps.refl _ _ | with_reducible refine Keeps.trans ?_ HK3.out | with_reducible refine Keeps.trans ?_ HK2.out | with_reducible refine Keeps.trans ?_ HK1.out | with_reducible refine Keeps.alloc ?_ _ | with_reducible refine Keeps.drew ?_)) : Keeps noBlk w w3)).new (by omega) _ _).new (by omega) _ _).new (by omega) _ _
    clear hS3
    have t0 := hTX.cell 0
    have t1 := hTX.cell 1
    have t2 := hTX.cell 2
    simp at t0 t1 t2
    have HTX := Lib.hid hTX
    have HRX := Lib.hid hRX
    have HKX := Lib.hid hKX
    have HX1 := Lib.hid hm1X
    have HX2 := Lib.hid hm2X
    clear hTX hRX hKX hm1X hm2X
    go_wp2_with fail
    go_region_with (first | (go_at_call 140; refine (noteAmounts_any M1 M2 L _).mono ?_; rintro e w4 ⟨rfl, hk4⟩; have hT4 := (HTX.out.drewN 1).keeps hk4 fun h => h; have t0 := hT4.cell 0; have t1 := hT4.cell 1; have t2 := hT4.cell 2; simp at t0 t1 t2; have hR4 := (HRX.out.drewN 1).keeps hk4 fun h => h; have r0 := hR4.cell 0; have r1 := hR4.cell 1; have r2 := hR4.cell 2; have f0 := hR4.frozen 0; have f1 := hR4.frozen 1; have f2 := hR4.frozen 2; simp at r0 r1 r2; have HK4 := Lib.hid hk4; clear hT4 hR4 hk4))
    all_goals
      have hS : Keeps (one (w.heap.size + 1)) w4 (((w4.setCell ⟨w.heap.size + 1, 0, none⟩ (.map (some M1))).setCell ⟨w.heap.size + 1, 1, none⟩ (.map (some M2))).setCell ⟨w.heap.size + 1, 2, none⟩ (.int .i64 L)) := (((Keeps.refl _ w4).set1 _ _).set1 _ _).set1 _ _
      have hb1 : w.heap.size + 1 < M1 := by (try simp at hM1); omega
      have hb2 : w.heap.size + 1 < M2 := by (try simp at hM2); omega
      have hne : M1 ≠ M2 := by have h9 := HM1.out.lt; (try simp at hM2); omega
      have hr1 := ((HX1.out.drewN 1).keeps HK4.out fun h => h).keeps hS fun h => by have h' : M1 = w.heap.size + 1 := h; omega
      have hr2 := ((HX2.out.drewN 1).keeps HK4.out fun h => h).keeps hS fun h => by have h' : M2 = w.heap.size + 1 := h; omega
      have hK := (((HKX.out.drewN 1).trans HK4.out)).then hS fun i hi h => by have h' : i = w.heap.size + 1 := h; omega
      have HFIN := Lib.hid (⟨M1, M2, rfl, by omega, by omega, hne, hr1, hr2, hK⟩ : RetLed w 2 xs ys L (.returned (.tuple #[.agg #[.map (some M1), .map (some M2), .int .i64 L], .map (some M2), .bool true])) _)
      clear hS hr1 hr2 hK hne
      go_wp2
      refine bodyPost_ret (v := .tuple #[.agg #[.map (some M1), .map (some M2), .int .i64 L], .map (some M2), .bool true]) (by simp [results, Tryz.results107, go_sem, r0, r1, r2]) rfl ?_
      exact HFIN.out
  · have hMlt1 := HM1.out.lt
    have hMlt2 := HM2.out.lt
    have s2 := HK2.out.size
    have s3 := HK3.out.size
    (try simp at s2)
    (try simp at s3)
    have hS3 : Keeps (one w1.heap.size) w3 (((w3.setCell ⟨w1.heap.size, 0, none⟩ (.map (some M1))).setCell ⟨w1.heap.size, 1, none⟩ (.map (some M2))).setCell ⟨w1.heap.size, 2, none⟩ (.int .i64 L)) := (((Keeps.refl _ w3).set1 _ _).set1 _ _).set1 _ _
    have n1t : ¬ M1 = w1.heap.size := by (try simp at hM1); omega
    have n2t : ¬ M2 = w1.heap.size := by (try simp at hM2); omega
    have hm1X : MapIs (((w3.setCell ⟨w1.heap.size, 0, none⟩ (.map (some M1))).setCell ⟨w1.heap.size, 1, none⟩ (.map (some M2))).setCell ⟨w1.heap.size, 2, none⟩ (.int .i64 L)) M1 xs.length xs := MapIs.keeps (w := w3) (by repeat (first | with_reducible exact HM1.out | with_reducible refine MapIs.keeps ?_ HK3.out (fun h => h) | with_reducible refine MapIs.alloc ?_ _)) hS3 n1t
    have hm2X : MapIs (((w3.setCell ⟨w1.heap.size, 0, none⟩ (.map (some M1))).setCell ⟨w1.heap.size, 1, none⟩ (.map (some M2))).setCell ⟨w1.heap.size, 2, none⟩ (.int .i64 L)) M2 ys.length ys := HM2.out.keeps hS3 n2t
    have hTX := ((HT3.out.set_ 0 (.map (some M1))).set_ 1 (.map (some M2))).set_ 2 (.int .i64 L)
    simp at hTX
    have hRX := (((by repeat (first | with_reducible exact HB6.out | with_reducible refine Box.keeps ?_ HK3.out (fun h => h) | with_reducible refine Box.keeps ?_ HK2.out (fun h => h) | with_reducible refine Box.alloc ?_ _ | with_reducible refine Box.drew ?_)) : Box w3 (w.heap.size + 1) 140 #[.map none, .map none, .int .i64 0])).keeps hS3 fun h => by have h' : w.heap.size + 1 = w1.heap.size := h; omega
    have hKX : Keeps noBlk w (((w3.setCell ⟨w1.heap.size, 0, none⟩ (.map (some M1))).setCell ⟨w1.heap.size, 1, none⟩ (.map (some M2))).setCell ⟨w1.heap.size, 2, none⟩ (.int .i64 L)) := (((((by repeat (first | with_reducible exact Keeps.refl _ _ | with_reducible refine Keeps.trans ?_ HK3.out | with_reducible refine Keeps.trans ?_ HK2.out | with_reducible refine Keeps.trans ?_ HK1.out | with_reducible refine Keeps.alloc ?_ _ | with_reducible refine Keeps.drew ?_)) : Keeps noBlk w w3)).new (by omega) _ _).new (by omega) _ _).new (by omega) _ _
    clear hS3
    have t0 := hTX.cell 0
    have t1 := hTX.cell 1
    have t2 := hTX.cell 2
    simp at t0 t1 t2
    have HTX := Lib.hid hTX
    have HRX := Lib.hid hRX
    have HKX := Lib.hid hKX
    have HX1 := Lib.hid hm1X
    have HX2 := Lib.hid hm2X
    clear hTX hRX hKX hm1X hm2X
    go_wp2_with fail
    go_region_with (first | (go_at_call 140; refine (noteAmounts_any M1 M2 L _).mono ?_; rintro e w4 ⟨rfl, hk4⟩; have hT4 := (HTX.out.drewN 1).keeps hk4 fun h => h; have t0 := hT4.cell 0; have t1 := hT4.cell 1; have t2 := hT4.cell 2; simp at t0 t1 t2; have hR4 := (HRX.out.drewN 1).keeps hk4 fun h => h; have r0 := hR4.cell 0; have r1 := hR4.cell 1; have r2 := hR4.cell 2; have f0 := hR4.frozen 0; have f1 := hR4.frozen 1; have f2 := hR4.frozen 2; simp at r0 r1 r2; have HK4 := Lib.hid hk4; clear hT4 hR4 hk4))
    all_goals
      have hS : Keeps (one (w.heap.size + 1)) w4 (((w4.setCell ⟨w.heap.size + 1, 0, none⟩ (.map (some M1))).setCell ⟨w.heap.size + 1, 1, none⟩ (.map (some M2))).setCell ⟨w.heap.size + 1, 2, none⟩ (.int .i64 L)) := (((Keeps.refl _ w4).set1 _ _).set1 _ _).set1 _ _
      have hb1 : w.heap.size + 1 < M1 := by (try simp at hM1); omega
      have hb2 : w.heap.size + 1 < M2 := by (try simp at hM2); omega
      have hne : M1 ≠ M2 := by have h9 := HM1.out.lt; (try simp at hM2); omega
      have hr1 := ((HX1.out.drewN 1).keeps HK4.out fun h => h).keeps hS fun h => by have h' : M1 = w.heap.size + 1 := h; omega
      have hr2 := ((HX2.out.drewN 1).keeps HK4.out fun h => h).keeps hS fun h => by have h' : M2 = w.heap.size + 1 := h; omega
      have hK := (((HKX.out.drewN 1).trans HK4.out)).then hS fun i hi h => by have h' : i = w.heap.size + 1 := h; omega
      have HFIN := Lib.hid (⟨M1, M2, rfl, by omega, by omega, hne, hr1, hr2, hK⟩ : RetLed w 2 xs ys L (.returned (.tuple #[.agg #[.map (some M1), .map (some M2), .int .i64 L], .map (some M2), .bool true])) _)
      clear hS hr1 hr2 hK hne
      go_wp2
      refine bodyPost_ret (v := .tuple #[.agg #[.map (some M1), .map (some M2), .int .i64 L], .map (some M2), .bool true]) (by simp [results, Tryz.results107, go_sem, r0, r1, r2]) rfl ?_
      exact HFIN.out

end Go.Proofs.YtcnbephpadmboaaGreatDoor
