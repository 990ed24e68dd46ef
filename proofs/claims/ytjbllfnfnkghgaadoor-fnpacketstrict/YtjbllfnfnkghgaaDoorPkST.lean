/- spec.PacketText hands back the text pkT. -/
import Derived.Test.YtjbllfnfnkghgaaDoorPkD
import Derived.Test.YtjbllfnfnkghgaaDoorPkS
import Derived.Deep.RegionHeld3
import Derived.Deep.DrawnRows
set_option linter.unusedVariables false
set_option linter.unusedSimpArgs false
namespace Go.Proofs.YtjbllfnfnkghgaaDoor
open Go.RowKit
attribute [local go_sem ↓] Go.wp_at_zero Go.wp_at_succ

theorem Keeps.undrew {S : Nat → Prop} {a w : World} (h : Keeps S a.drew w) : Keeps S a w := ⟨h.os, h.tape, h.output, h.size, h.block⟩

set_option maxRecDepth 100000 in
set_option maxHeartbeats 4000000 in
theorem specText_any (s k f t m u v : Int) (w : World) : Calls Tryd.prog 14 #[.agg #[.int .i64 s, .int .i64 k, .int .i64 f, .int .i64 t, .int .i64 m, .int .i64 u, .int .i64 v]] w (RetTxt w (pkT s k f t m u v)) := by
  have HB0 := Lib.hid (Box.new w _ rfl 24 #[.int .i64 s, .int .i64 k, .int .i64 f, .int .i64 t, .int .i64 m, .int .i64 u, .int .i64 v])
  have HK0 := Lib.hid ((Keeps.refl noBlk w).alloc (.cells #[.int .i64 s, .int .i64 k, .int .i64 f, .int .i64 t, .int .i64 m, .int .i64 u, .int .i64 v] 24))
  rcases Bool.eq_false_or_eq_true (pkB s k f t m u v) with ho | ho
  · have HIM := Lib.hid (fun W => (show Calls Tryd.prog 20 #[.agg #[.int .i64 s, .int .i64 k, .int .i64 f, .int .i64 t, .int .i64 m, .int .i64 u, .int .i64 v]] W (fun e w' => e = .returned (.bool true) ∧ Keeps noBlk W w') from by rw [← ho]; exact specPk_any s k f t m u v W))
    obtain ⟨⟨p0, p0'⟩, ⟨p1, p1'⟩, ⟨p2, p2'⟩, ⟨p3, p3'⟩, ⟨p4, p4'⟩, ⟨p5, p5'⟩, ⟨p6, p6'⟩⟩ := pkB_parts ho
    have HF := Lib.hid (show pkT s k f t m u v = txt s k f t m u v from if_pos ho)
    clear ho
    have l0 := dg_len s (by omega)
    have l1 := dg_len k (by omega)
    have l2 := dg_len f (by omega)
    have l3 := dg_len t (by omega)
    have l4 := dg_len m (by omega)
    have l5 := dg_len u (by omega)
    have l6 := dg_len v (by omega)
    obtain ⟨X1, hX1⟩ : ∃ X, (dg s) ++ [32] = X := ⟨_, rfl⟩
    have q1 : X1.length ≤ 3 := by rw [← hX1, List.length_append]; simp; omega
    have n1 : ¬ 9223372036854775807 < (dg s).length + 1 := by omega
    have e1 : (⟨(dg s).toArray⟩ : ByteArray) ++ ⟨#[32]⟩ = ⟨X1.toArray⟩ := by rw [← hX1]; exact ByteArray.mk_append_mk _ _
    have HX1 := Lib.hid hX1
    clear hX1
    obtain ⟨X2, hX2⟩ : ∃ X, X1 ++ dg k = X := ⟨_, rfl⟩
    have q2 : X2.length ≤ 5 := by rw [← hX2, List.length_append]; omega
    have n2 : ¬ 9223372036854775807 < X1.length + (dg k).length := by omega
    have e2 : (⟨X1.toArray⟩ : ByteArray) ++ ⟨(dg k).toArray⟩ = ⟨X2.toArray⟩ := by rw [← hX2]; exact ByteArray.mk_append_mk _ _
    have HX2 := Lib.hid hX2
    clear hX2
    obtain ⟨X3, hX3⟩ : ∃ X, X2 ++ [32] = X := ⟨_, rfl⟩
    have q3 : X3.length ≤ 6 := by rw [← hX3, List.length_append]; simp; omega
    have n3 : ¬ 9223372036854775807 < X2.length + 1 := by omega
    have e3 : (⟨X2.toArray⟩ : ByteArray) ++ ⟨#[32]⟩ = ⟨X3.toArray⟩ := by rw [← hX3]; exact ByteArray.mk_append_mk _ _
    have HX3 := Lib.hid hX3
    clear hX3
    obtain ⟨X4, hX4⟩ : ∃ X, X3 ++ dg f = X := ⟨_, rfl⟩
    have q4 : X4.length ≤ 8 := by rw [← hX4, List.length_append]; omega
    have n4 : ¬ 9223372036854775807 < X3.length + (dg f).length := by omega
    have e4 : (⟨X3.toArray⟩ : ByteArray) ++ ⟨(dg f).toArray⟩ = ⟨X4.toArray⟩ := by rw [← hX4]; exact ByteArray.mk_append_mk _ _
    have HX4 := Lib.hid hX4
    clear hX4
    obtain ⟨X5, hX5⟩ : ∃ X, X4 ++ [32] = X := ⟨_, rfl⟩
    have q5 : X5.length ≤ 9 := by rw [← hX5, List.length_append]; simp; omega
    have n5 : ¬ 9223372036854775807 < X4.length + 1 := by omega
    have e5 : (⟨X4.toArray⟩ : ByteArray) ++ ⟨#[32]⟩ = ⟨X5.toArray⟩ := by rw [← hX5]; exact ByteArray.mk_append_mk _ _
    have HX5 := Lib.hid hX5
    clear hX5
    obtain ⟨X6, hX6⟩ : ∃ X, X5 ++ dg t = X := ⟨_, rfl⟩
    have q6 : X6.length ≤ 11 := by rw [← hX6, List.length_append]; omega
    have n6 : ¬ 9223372036854775807 < X5.length + (dg t).length := by omega
    have e6 : (⟨X5.toArray⟩ : ByteArray) ++ ⟨(dg t).toArray⟩ = ⟨X6.toArray⟩ := by rw [← hX6]; exact ByteArray.mk_append_mk _ _
    have HX6 := Lib.hid hX6
    clear hX6
    obtain ⟨X7, hX7⟩ : ∃ X, X6 ++ [32] = X := ⟨_, rfl⟩
    have q7 : X7.length ≤ 12 := by rw [← hX7, List.length_append]; simp; omega
    have n7 : ¬ 9223372036854775807 < X6.length + 1 := by omega
    have e7 : (⟨X6.toArray⟩ : ByteArray) ++ ⟨#[32]⟩ = ⟨X7.toArray⟩ := by rw [← hX7]; exact ByteArray.mk_append_mk _ _
    have HX7 := Lib.hid hX7
    clear hX7
    obtain ⟨X8, hX8⟩ : ∃ X, X7 ++ dg m = X := ⟨_, rfl⟩
    have q8 : X8.length ≤ 14 := by rw [← hX8, List.length_append]; omega
    have n8 : ¬ 9223372036854775807 < X7.length + (dg m).length := by omega
    have e8 : (⟨X7.toArray⟩ : ByteArray) ++ ⟨(dg m).toArray⟩ = ⟨X8.toArray⟩ := by rw [← hX8]; exact ByteArray.mk_append_mk _ _
    have HX8 := Lib.hid hX8
    clear hX8
    obtain ⟨X9, hX9⟩ : ∃ X, X8 ++ [32] = X := ⟨_, rfl⟩
    have q9 : X9.length ≤ 15 := by rw [← hX9, List.length_append]; simp; omega
    have n9 : ¬ 9223372036854775807 < X8.length + 1 := by omega
    have e9 : (⟨X8.toArray⟩ : ByteArray) ++ ⟨#[32]⟩ = ⟨X9.toArray⟩ := by rw [← hX9]; exact ByteArray.mk_append_mk _ _
    have HX9 := Lib.hid hX9
    clear hX9
    obtain ⟨X10, hX10⟩ : ∃ X, X9 ++ dg u = X := ⟨_, rfl⟩
    have q10 : X10.length ≤ 17 := by rw [← hX10, List.length_append]; omega
    have n10 : ¬ 9223372036854775807 < X9.length + (dg u).length := by omega
    have e10 : (⟨X9.toArray⟩ : ByteArray) ++ ⟨(dg u).toArray⟩ = ⟨X10.toArray⟩ := by rw [← hX10]; exact ByteArray.mk_append_mk _ _
    have HX10 := Lib.hid hX10
    clear hX10
    obtain ⟨X11, hX11⟩ : ∃ X, X10 ++ [32] = X := ⟨_, rfl⟩
    have q11 : X11.length ≤ 18 := by rw [← hX11, List.length_append]; simp; omega
    have n11 : ¬ 9223372036854775807 < X10.length + 1 := by omega
    have e11 : (⟨X10.toArray⟩ : ByteArray) ++ ⟨#[32]⟩ = ⟨X11.toArray⟩ := by rw [← hX11]; exact ByteArray.mk_append_mk _ _
    have HX11 := Lib.hid hX11
    clear hX11
    obtain ⟨X12, hX12⟩ : ∃ X, X11 ++ dg v = X := ⟨_, rfl⟩
    have q12 : X12.length ≤ 20 := by rw [← hX12, List.length_append]; omega
    have n12 : ¬ 9223372036854775807 < X11.length + (dg v).length := by omega
    have e12 : (⟨X11.toArray⟩ : ByteArray) ++ ⟨(dg v).toArray⟩ = ⟨X12.toArray⟩ := by rw [← hX12]; exact ByteArray.mk_append_mk _ _
    have HX12 := Lib.hid hX12
    clear hX12
    go_enter Tryd.func14, Tryd.ntmps14
    go_wp2_with fail
    refine (HIM.out _).mono ?_
    rintro e w1 ⟨rfl, hk⟩
    have hb := HB0.out.keeps hk (fun h => h)
    have b1_0 := hb.cell 0
    have b1_1 := hb.cell 1
    have b1_2 := hb.cell 2
    have b1_3 := hb.cell 3
    have b1_4 := hb.cell 4
    have b1_5 := hb.cell 5
    have b1_6 := hb.cell 6
    simp at b1_0 b1_1 b1_2 b1_3 b1_4 b1_5 b1_6
    have HB1 := Lib.hid hb
    have HK1 := Lib.hid (HK0.out.trans hk)
    clear hk hb HB0 HK0
    go_wp2_with fail
    go_region_held3 (fun w' => w'.cell? ⟨w.heap.size, 0, none⟩ = some (.int .i64 s) ∧ w'.cell? ⟨w.heap.size, 1, none⟩ = some (.int .i64 k) ∧ w'.cell? ⟨w.heap.size, 2, none⟩ = some (.int .i64 f) ∧ w'.cell? ⟨w.heap.size, 3, none⟩ = some (.int .i64 t) ∧ w'.cell? ⟨w.heap.size, 4, none⟩ = some (.int .i64 m) ∧ w'.cell? ⟨w.heap.size, 5, none⟩ = some (.int .i64 u) ∧ w'.cell? ⟨w.heap.size, 6, none⟩ = some (.int .i64 v))
      (((try dsimp only); (repeat' apply And.intro) <;> (first | with_reducible assumption | (go_keep; done))))
      (first | (go_at_call_of 28 (Value.int IntKind.i64 s); refine (l6Dec_any s (by omega) (by omega) _).mono ?_; rintro e w2 ⟨rfl, hk⟩; have hq : Keeps noBlk w1 w2 := (by (first | with_reducible exact hk | with_reducible exact hk.undrew | with_reducible exact hk.undrew.undrew)); have hb := HB1.out.keeps hq (fun h => h); have b2_0 := hb.cell 0; have b2_1 := hb.cell 1; have b2_2 := hb.cell 2; have b2_3 := hb.cell 3; have b2_4 := hb.cell 4; have b2_5 := hb.cell 5; have b2_6 := hb.cell 6; simp at b2_0 b2_1 b2_2 b2_3 b2_4 b2_5 b2_6; have HB2 := Lib.hid hb; have HK2 := Lib.hid (HK1.out.trans hq); clear hk hq hb HB1 HK1) | (go_at_call_of 28 (Value.int IntKind.i64 k); refine (l6Dec_any k (by omega) (by omega) _).mono ?_; rintro e w3 ⟨rfl, hk⟩; have hq : Keeps noBlk w2 w3 := (by (first | with_reducible exact hk | with_reducible exact hk.undrew | with_reducible exact hk.undrew.undrew)); have hb := HB2.out.keeps hq (fun h => h); have b3_0 := hb.cell 0; have b3_1 := hb.cell 1; have b3_2 := hb.cell 2; have b3_3 := hb.cell 3; have b3_4 := hb.cell 4; have b3_5 := hb.cell 5; have b3_6 := hb.cell 6; simp at b3_0 b3_1 b3_2 b3_3 b3_4 b3_5 b3_6; have HB3 := Lib.hid hb; have HK3 := Lib.hid (HK2.out.trans hq); clear hk hq hb HB2 HK2) | (go_at_call_of 28 (Value.int IntKind.i64 f); refine (l6Dec_any f (by omega) (by omega) _).mono ?_; rintro e w4 ⟨rfl, hk⟩; have hq : Keeps noBlk w3 w4 := (by (first | with_reducible exact hk | with_reducible exact hk.undrew | with_reducible exact hk.undrew.undrew)); have hb := HB3.out.keeps hq (fun h => h); have b4_0 := hb.cell 0; have b4_1 := hb.cell 1; have b4_2 := hb.cell 2; have b4_3 := hb.cell 3; have b4_4 := hb.cell 4; have b4_5 := hb.cell 5; have b4_6 := hb.cell 6; simp at b4_0 b4_1 b4_2 b4_3 b4_4 b4_5 b4_6; have HB4 := Lib.hid hb; have HK4 := Lib.hid (HK3.out.trans hq); clear hk hq hb HB3 HK3) | (go_at_call_of 28 (Value.int IntKind.i64 t); refine (l6Dec_any t (by omega) (by omega) _).mono ?_; rintro e w5 ⟨rfl, hk⟩; have hq : Keeps noBlk w4 w5 := (by (first | with_reducible exact hk | with_reducible exact hk.undrew | with_reducible exact hk.undrew.undrew)); have hb := HB4.out.keeps hq (fun h => h); have b5_0 := hb.cell 0; have b5_1 := hb.cell 1; have b5_2 := hb.cell 2; have b5_3 := hb.cell 3; have b5_4 := hb.cell 4; have b5_5 := hb.cell 5; have b5_6 := hb.cell 6; simp at b5_0 b5_1 b5_2 b5_3 b5_4 b5_5 b5_6; have HB5 := Lib.hid hb; have HK5 := Lib.hid (HK4.out.trans hq); clear hk hq hb HB4 HK4) | (go_at_call_of 28 (Value.int IntKind.i64 m); refine (l6Dec_any m (by omega) (by omega) _).mono ?_; rintro e w6 ⟨rfl, hk⟩; have hq : Keeps noBlk w5 w6 := (by (first | with_reducible exact hk | with_reducible exact hk.undrew | with_reducible exact hk.undrew.undrew)); have hb := HB5.out.keeps hq (fun h => h); have b6_0 := hb.cell 0; have b6_1 := hb.cell 1; have b6_2 := hb.cell 2; have b6_3 := hb.cell 3; have b6_4 := hb.cell 4; have b6_5 := hb.cell 5; have b6_6 := hb.cell 6; simp at b6_0 b6_1 b6_2 b6_3 b6_4 b6_5 b6_6; have HB6 := Lib.hid hb; have HK6 := Lib.hid (HK5.out.trans hq); clear hk hq hb HB5 HK5) | (go_at_call_of 28 (Value.int IntKind.i64 u); refine (l6Dec_any u (by omega) (by omega) _).mono ?_; rintro e w7 ⟨rfl, hk⟩; have hq : Keeps noBlk w6 w7 := (by (first | with_reducible exact hk | with_reducible exact hk.undrew | with_reducible exact hk.undrew.undrew)); have hb := HB6.out.keeps hq (fun h => h); have b7_0 := hb.cell 0; have b7_1 := hb.cell 1; have b7_2 := hb.cell 2; have b7_3 := hb.cell 3; have b7_4 := hb.cell 4; have b7_5 := hb.cell 5; have b7_6 := hb.cell 6; simp at b7_0 b7_1 b7_2 b7_3 b7_4 b7_5 b7_6; have HB7 := Lib.hid hb; have HK7 := Lib.hid (HK6.out.trans hq); clear hk hq hb HB6 HK6) | (go_at_call_of 28 (Value.int IntKind.i64 v); refine (l6Dec_any v (by omega) (by omega) _).mono ?_; rintro e w8 ⟨rfl, hk⟩; have hq : Keeps noBlk w7 w8 := (by (first | with_reducible exact hk | with_reducible exact hk.undrew | with_reducible exact hk.undrew.undrew)); have hb := HB7.out.keeps hq (fun h => h); have b8_0 := hb.cell 0; have b8_1 := hb.cell 1; have b8_2 := hb.cell 2; have b8_3 := hb.cell 3; have b8_4 := hb.cell 4; have b8_5 := hb.cell 5; have b8_6 := hb.cell 6; simp at b8_0 b8_1 b8_2 b8_3 b8_4 b8_5 b8_6; have HB8 := Lib.hid hb; have HK8 := Lib.hid (HK7.out.trans hq); clear hk hq hb HB7 HK7))
    go_wp2
    go_ret
    refine ⟨?_, HK8.out⟩
    rw [HF.out]
    have hT : txt s k f t m u v = X12 := by
      rw [← HX12.out, ← HX11.out, ← HX10.out, ← HX9.out, ← HX8.out, ← HX7.out, ← HX6.out, ← HX5.out, ← HX4.out, ← HX3.out, ← HX2.out, ← HX1.out]
      simp [txt, wdL, Lib.join_cons, Lib.joinTail]
    rw [hT]
    rfl
  · have HIM := Lib.hid (fun W => (show Calls Tryd.prog 20 #[.agg #[.int .i64 s, .int .i64 k, .int .i64 f, .int .i64 t, .int .i64 m, .int .i64 u, .int .i64 v]] W (fun e w' => e = .returned (.bool false) ∧ Keeps noBlk W w') from by rw [← ho]; exact specPk_any s k f t m u v W))
    have HF := Lib.hid (show pkT s k f t m u v = [] from if_neg (by rw [ho]; simp))
    clear ho
    go_enter Tryd.func14, Tryd.ntmps14
    go_wp2_with fail
    refine (HIM.out _).mono ?_
    rintro e w1 ⟨rfl, hk⟩
    have HK1 := Lib.hid (HK0.out.trans hk)
    clear hk
    go_wp2
    go_ret
    exact ⟨by simp [HF.out], HK1.out⟩
end Go.Proofs.YtjbllfnfnkghgaaDoor
