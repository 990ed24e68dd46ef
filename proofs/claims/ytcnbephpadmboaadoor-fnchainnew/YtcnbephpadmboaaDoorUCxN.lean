/- spec.ChainNew, impl.ChainNew. impl.ChainBlock: one more height. -/
import Derived.Test.YtcnbephpadmboaaDoorCxU
import Derived.Test.YtcnbephpadmboaaDoorCxL
import Derived.Test.YtcnbephpadmboaaDoorNew
import Derived.Test.YtcnbephpadmboaaDoorUEM
import Derived.Test.YtcnbephpadmboaaDoorCxO
import Derived.Test.YtcnbephpadmboaaDoorCxG
set_option linter.unusedVariables false
set_option linter.unusedSimpArgs false
/-! CxN -/
namespace Go.Proofs.YtcnbephpadmboaaDoor
open Go.RowKit

def bk0 : BkM := ⟨⟨[], [], 0⟩, none, none, 0, 0⟩
/-- The zero value. -/
def ch0 : ChM := ⟨0, bk0, stm0, [], none, 0, [], none, 0⟩
theorem st0_own (w : World) (lo : Nat) : stm0.Own w lo :=
  ⟨lo, lo, lo, ⟨PRow.nil _ _ _, BRow.nil _ _ _, BRow.nil _ _ _, Row.nil _ _ _⟩, fun _ h => absurd h.1 (by decide), fun _ h => absurd h.1 (by decide), fun _ h => absurd h.1 (by decide), Nat.le_refl _, Nat.le_refl _, Nat.le_refl _⟩
theorem st0_bl {b : Nat} (h : stm0.bl b) : False := by
  rcases h with h | h | h | h <;> exact absurd h.1 (by decide)
theorem ch0_own (w : World) (lo : Nat) : ChOwn (fun _ => 0) w lo ch0 :=
  ⟨Row.nil _ _ _, fun _ h => absurd h.1 (by decide), Row.nil _ _ _, fun _ h => absurd h.1 (by decide), st0_own w lo, fun _ h => (st0_bl h).elim, SRow.nil _ _ _, fun _ h => absurd h.1 (by decide), fun i h => absurd h (Nat.not_lt_zero i), Row.nil _ _ _, fun _ h => absurd h.1 (by decide),
    by decide, by decide, by decide, by decide, ⟨by decide, by decide, by decide, by decide⟩, fun i h => absurd h (Nat.not_lt_zero i)⟩
/-- A chain at the beginning; the zero value if there is no such. -/
def newC (id : Int) : ChM := if in2 id 1 2 then ⟨id, ⟨newL, none, none, 0, 0⟩, ⟨newS, none, none, none, none, 0, 0, 0, 0⟩, [], none, 0, [], none, 0⟩ else ch0
theorem newC_yes {id : Int} (h : in2 id 1 2 = true) : newC id = ⟨id, ⟨newL, none, none, 0, 0⟩, ⟨newS, none, none, none, none, 0, 0, 0, 0⟩, [], none, 0, [], none, 0⟩ := by unfold newC; rw [if_pos h]
theorem newC_no {id : Int} (h : in2 id 1 2 = false) : newC id = ch0 := by unfold newC; rw [if_neg (by rw [h]; decide)]
/-- A chain of a new bank and a new state, and no heights. -/
theorem new_own {w : World} {lo l1 h1 l3 h3 : Nat} {id : Int} {A1 A2 B1 B2 B3 B4 pA kA : Option Addr} {k1 k2 d1 d2 d3 d4 pc kc : Nat} (Ro : RowB w l1 h1 A1 3 newL.own) (Rn : RowB w l1 h1 A2 3 newL.notes) (dis : ∀ b, blk A1 3 b → ¬ blk A2 3 b)
    (Rs : StB w l3 h3 ⟨newS, B1, B2, B3, B4, d1, d2, d3, d4⟩) (e13 : h1 ≤ l3) (o1 : lo ≤ l1) (o3 : lo ≤ l3) : ∃ G, ChOwn G w lo ⟨id, ⟨newL, A1, A2, k1, k2⟩, ⟨newS, B1, B2, B3, B4, d1, d2, d3, d4⟩, [], pA, pc, [], kA, kc⟩ :=
  own_of _ Ro Rn Rs (l4 := lo) (h4 := lo) (l5 := lo) (h5 := lo) ⟨SRow.nil _ _ _, fun G => ⟨G, fun _ _ => rfl, fun _ h => absurd h.1 (Nat.lt_irrefl 0), fun i h => absurd h (Nat.not_lt_zero i)⟩, fun _ h => absurd h.1 (Nat.lt_irrefl 0), fun i h => absurd h (Nat.not_lt_zero i)⟩
    ⟨Row.nil _ _ _, fun _ h => absurd h.1 (Nat.lt_irrefl 0)⟩ dis (.inl e13) (.inr o1) (.inr o1) (.inl e13) (.inr o1) (.inr o1) (.inr o3) (.inr o3) (.inl (Nat.le_refl _)) o1 o1 o3 (Nat.le_refl _) (Nat.le_refl _)
    (show newL.own.length ≤ maxLen by decide) (show newL.notes.length ≤ maxLen by decide) (Nat.zero_le _) (Nat.zero_le _) ⟨Nat.zero_le _, Nat.zero_le _, Nat.zero_le _, show newS.got.length ≤ maxLen by decide⟩ fun i h => absurd h (Nat.not_lt_zero i)

set_option maxRecDepth 100000 in
set_option maxHeartbeats 4000000 in
theorem specNewC_any (id : Int) (w : World) : Calls Tryd.prog 35 #[.int .i64 id] w (RetC (fun v => .tuple #[v, .bool (in2 id 1 2)]) w (newC id)) := by
  have F0 := Lib.hid (fun W => (show Calls Tryd.prog 52 #[.int .i64 id, .int .i64 1, .int .i64 2] W (fun e w' => e = .returned (.bool (in2 id 1 2)) ∧ W = w') from l6In_any id 1 2 W))
  have HBr := Lib.hid (Box.new w _ rfl 47 #[.int .i64 0, .slice none 0 0, .slice none 0 0, .int .i64 0, .int .i64 0, .int .i64 0, .int .i64 0, .slice none 0 0, .slice none 0 0, .slice none 0 0, .slice none 0 0, .slice none 0 0, .slice none 0 0])
  have HK := Lib.hid ((Keeps.refl noBlk w).alloc (.cells #[.int .i64 0, .slice none 0 0, .slice none 0 0, .int .i64 0, .int .i64 0, .int .i64 0, .int .i64 0, .slice none 0 0, .slice none 0 0, .slice none 0 0, .slice none 0 0, .slice none 0 0, .slice none 0 0] 47))
  rcases Bool.eq_false_or_eq_true (in2 id 1 2) with hi | hi
  · rw [newC_yes hi]
    rw [hi] at F0 ⊢
    have HB := Lib.hid (specNew_any)
    have HS := Lib.hid (specNewS_any)
    clear hi
    go_enter Tryd.func35, Tryd.ntmps35
    go_wp2_with (go_at_call 52; refine (F0.out _).mono ?_; rintro e w' ⟨rfl, rfl⟩)
    refine (HB.out _).mono ?_
    rintro e w1 ⟨v, rfl, ⟨a1, n1, k1, a2, n2, k2, rfl, hro, hrn, hdis, _, _, _, _⟩, hk1⟩
    obtain rfl : 3 = n1 := hro.1.1
    obtain rfl : 3 = n2 := hrn.1.1
    have hb := HBr.out.keeps hk1 (fun h => h)
    clear HBr
    have HBr := Lib.hid hb
    clear hb
    have RO := Lib.hid (RowB.mk' hro)
    have RN := Lib.hid (RowB.mk' hrn)
    have DIS := Lib.hid hdis
    have s1 := hk1.size
    have HK1 := Lib.hid (HK.out.trans hk1)
    clear hro hrn hdis hk1 HK
    go_wp2_with fail
    refine (HS.out _).mono ?_
    rintro e w2 ⟨B1, B2, B3, B4, d1, d2, d3, d4, rfl, hst, hk2⟩
    have hb := HBr.out.keeps hk2 (fun h => h)
    have s2 := hk2.size
    have r0 := hb.lt
    have r1 := hb.cell 0
    have f1 := hb.frozen 0
    have r2 := hb.cell 1
    have f2 := hb.frozen 1
    have r3 := hb.cell 2
    have f3 := hb.frozen 2
    have r4 := hb.cell 3
    have f4 := hb.frozen 3
    have r5 := hb.cell 4
    have f5 := hb.frozen 4
    have r6 := hb.cell 5
    have f6 := hb.frozen 5
    have r7 := hb.cell 6
    have f7 := hb.frozen 6
    have r8 := hb.cell 7
    have f8 := hb.frozen 7
    have r9 := hb.cell 8
    have f9 := hb.frozen 8
    have r10 := hb.cell 9
    have f10 := hb.frozen 9
    have r11 := hb.cell 10
    have f11 := hb.frozen 10
    have r12 := hb.cell 11
    have f12 := hb.frozen 11
    have r13 := hb.cell 12
    have f13 := hb.frozen 12
    simp at r1 r2 r3 r4 r5 r6 r7 r8 r9 r10 r11 r12 r13
    clear HBr
    have HBX := Lib.hid hb
    clear hb
    have RO2 := Lib.hid (RO.out.kept hk2)
    have RN2 := Lib.hid (RN.out.kept hk2)
    have RS := Lib.hid (StB.mk' (s := ⟨newS, B1, B2, B3, B4, d1, d2, d3, d4⟩) hst)
    have HK2 := Lib.hid (HK1.out.trans hk2)
    clear hst hk2 RO RN HK1
    unfold stV
    go_wp2
    have hbF := (((((((((((((((HBX.out.set_ 0 (.int .i64 id)).set_ 1 (.slice a1 3 k1)).set_ 2 (.slice a2 3 k2)).set_ 3 (.int .i64 newL.locked)).set_ 4 (.int .i64 newS.way)).set_ 5 (.int .i64 newS.ver)).set_ 6 (.int .i64 newS.want)).set_ 7 (.slice B1 newS.sent.length d1)).set_ 8 (.slice B2 newS.live.length d2)).set_ 9 (.slice B3 newS.back.length d3)).set_ 10 (.slice B4 newS.got.length d4)).set_ 11 (.slice (some ⟨w2.heap.size, 0, none⟩) 0 0)).set_ 12 (.slice (some ⟨w2.heap.size + 1, 0, none⟩) 0 0)).alloc (.cells #[] 27)).alloc (.cells #[] 3))
    simp only [List.setIfInBounds_toArray, List.set_cons_zero, List.set_cons_succ] at hbF
    have s10 := hbF.cell 0
    have s11 := hbF.cell 1
    have s12 := hbF.cell 2
    have s13 := hbF.cell 3
    have s14 := hbF.cell 4
    have s15 := hbF.cell 5
    have s16 := hbF.cell 6
    have s17 := hbF.cell 7
    have s18 := hbF.cell 8
    have s19 := hbF.cell 9
    have s20 := hbF.cell 10
    have s21 := hbF.cell 11
    have s22 := hbF.cell 12
    simp at s10 s11 s12 s13 s14 s15 s16 s17 s18 s19 s20 s21 s22
    clear hbF
    have kS : Keeps (fun b => b = w.heap.size) w2 (((((((((((((((w2.setCell ⟨w.heap.size, 0, none⟩ (.int .i64 id)).setCell ⟨w.heap.size, 1, none⟩ (.slice a1 3 k1)).setCell ⟨w.heap.size, 2, none⟩ (.slice a2 3 k2)).setCell ⟨w.heap.size, 3, none⟩ (.int .i64 newL.locked)).setCell ⟨w.heap.size, 4, none⟩ (.int .i64 newS.way)).setCell ⟨w.heap.size, 5, none⟩ (.int .i64 newS.ver)).setCell ⟨w.heap.size, 6, none⟩ (.int .i64 newS.want)).setCell ⟨w.heap.size, 7, none⟩ (.slice B1 newS.sent.length d1)).setCell ⟨w.heap.size, 8, none⟩ (.slice B2 newS.live.length d2)).setCell ⟨w.heap.size, 9, none⟩ (.slice B3 newS.back.length d3)).setCell ⟨w.heap.size, 10, none⟩ (.slice B4 newS.got.length d4)).setCell ⟨w.heap.size, 11, none⟩ (.slice (some ⟨w2.heap.size, 0, none⟩) 0 0)).setCell ⟨w.heap.size, 12, none⟩ (.slice (some ⟨w2.heap.size + 1, 0, none⟩) 0 0)).alloc (.cells #[] 27)).alloc (.cells #[] 3)) := ((((((((((((((((Keeps.refl (fun b => b = w.heap.size) w2).setCell (p := ⟨w.heap.size, 0, none⟩) (.inr rfl) (.int .i64 id)).setCell (p := ⟨w.heap.size, 1, none⟩) (.inr rfl) (.slice a1 3 k1)).setCell (p := ⟨w.heap.size, 2, none⟩) (.inr rfl) (.slice a2 3 k2)).setCell (p := ⟨w.heap.size, 3, none⟩) (.inr rfl) (.int .i64 newL.locked)).setCell (p := ⟨w.heap.size, 4, none⟩) (.inr rfl) (.int .i64 newS.way)).setCell (p := ⟨w.heap.size, 5, none⟩) (.inr rfl) (.int .i64 newS.ver)).setCell (p := ⟨w.heap.size, 6, none⟩) (.inr rfl) (.int .i64 newS.want)).setCell (p := ⟨w.heap.size, 7, none⟩) (.inr rfl) (.slice B1 newS.sent.length d1)).setCell (p := ⟨w.heap.size, 8, none⟩) (.inr rfl) (.slice B2 newS.live.length d2)).setCell (p := ⟨w.heap.size, 9, none⟩) (.inr rfl) (.slice B3 newS.back.length d3)).setCell (p := ⟨w.heap.size, 10, none⟩) (.inr rfl) (.slice B4 newS.got.length d4)).setCell (p := ⟨w.heap.size, 11, none⟩) (.inr rfl) (.slice (some ⟨w2.heap.size, 0, none⟩) 0 0)).setCell (p := ⟨w.heap.size, 12, none⟩) (.inr rfl) (.slice (some ⟨w2.heap.size + 1, 0, none⟩) 0 0)).alloc (.cells #[] 27)).alloc (.cells #[] 3))
    generalize (((((((((((((((w2.setCell ⟨w.heap.size, 0, none⟩ (.int .i64 id)).setCell ⟨w.heap.size, 1, none⟩ (.slice a1 3 k1)).setCell ⟨w.heap.size, 2, none⟩ (.slice a2 3 k2)).setCell ⟨w.heap.size, 3, none⟩ (.int .i64 newL.locked)).setCell ⟨w.heap.size, 4, none⟩ (.int .i64 newS.way)).setCell ⟨w.heap.size, 5, none⟩ (.int .i64 newS.ver)).setCell ⟨w.heap.size, 6, none⟩ (.int .i64 newS.want)).setCell ⟨w.heap.size, 7, none⟩ (.slice B1 newS.sent.length d1)).setCell ⟨w.heap.size, 8, none⟩ (.slice B2 newS.live.length d2)).setCell ⟨w.heap.size, 9, none⟩ (.slice B3 newS.back.length d3)).setCell ⟨w.heap.size, 10, none⟩ (.slice B4 newS.got.length d4)).setCell ⟨w.heap.size, 11, none⟩ (.slice (some ⟨w2.heap.size, 0, none⟩) 0 0)).setCell ⟨w.heap.size, 12, none⟩ (.slice (some ⟨w2.heap.size + 1, 0, none⟩) 0 0)).alloc (.cells #[] 27)).alloc (.cells #[] 3)) = WF at kS s10 s11 s12 s13 s14 s15 s16 s17 s18 s19 s20 s21 s22
    refine bodyPost_ret (v := .tuple #[(⟨id, ⟨newL, a1, a2, k1, k2⟩, ⟨newS, B1, B2, B3, B4, d1, d2, d3, d4⟩, [], (some ⟨w2.heap.size, 0, none⟩), 0, [], (some ⟨w2.heap.size + 1, 0, none⟩), 0⟩ : ChM).val, .bool true]) (by simp [results, Tryd.results35, go_sem, ChM.val, newL, s10, s11, s12, s13, s14, s15, s16, s17, s18, s19, s20, s21, s22]) rfl ?_
    have hz : w.heap.size < w1.heap.size := by simp at s1; omega
    obtain ⟨G, hG⟩ := new_own (lo := w.heap.size) (id := id) (pA := (some ⟨w2.heap.size, 0, none⟩)) (kA := (some ⟨w2.heap.size + 1, 0, none⟩)) (pc := 0) (kc := 0) (k1 := k1) (k2 := k2) (RO2.out.keeps kS fun b hb => by simp; omega) (RN2.out.keeps kS fun b hb => by simp; omega) DIS.out (RS.out.keeps kS fun b hb => by omega) (Nat.le_refl _) (by simp) (by omega)
    exact ⟨(⟨id, ⟨newL, a1, a2, k1, k2⟩, ⟨newS, B1, B2, B3, B4, d1, d2, d3, d4⟩, [], (some ⟨w2.heap.size, 0, none⟩), 0, [], (some ⟨w2.heap.size + 1, 0, none⟩), 0⟩ : ChM), G, rfl, ⟨rfl, rfl, rfl, SameS.refl _, rfl⟩, hG, HK2.out.then kS fun i hi h => by omega⟩
  · rw [newC_no hi]
    rw [hi] at F0 ⊢
    clear hi
    have hb := HBr.out
    have r0 := hb.lt
    have r1 := hb.cell 0
    have f1 := hb.frozen 0
    have r2 := hb.cell 1
    have f2 := hb.frozen 1
    have r3 := hb.cell 2
    have f3 := hb.frozen 2
    have r4 := hb.cell 3
    have f4 := hb.frozen 3
    have r5 := hb.cell 4
    have f5 := hb.frozen 4
    have r6 := hb.cell 5
    have f6 := hb.frozen 5
    have r7 := hb.cell 6
    have f7 := hb.frozen 6
    have r8 := hb.cell 7
    have f8 := hb.frozen 7
    have r9 := hb.cell 8
    have f9 := hb.frozen 8
    have r10 := hb.cell 9
    have f10 := hb.frozen 9
    have r11 := hb.cell 10
    have f11 := hb.frozen 10
    have r12 := hb.cell 11
    have f12 := hb.frozen 11
    have r13 := hb.cell 12
    have f13 := hb.frozen 12
    simp at r1 r2 r3 r4 r5 r6 r7 r8 r9 r10 r11 r12 r13
    clear hb HBr
    go_enter Tryd.func35, Tryd.ntmps35
    go_wp2_with (go_at_call 52; refine (F0.out _).mono ?_; rintro e w' ⟨rfl, rfl⟩)
    refine bodyPost_ret (v := .tuple #[ch0.val, .bool false]) (by simp [results, Tryd.results35, go_sem, ChM.val, ch0, bk0, stm0, r1, r2, r3, r4, r5, r6, r7, r8, r9, r10, r11, r12, r13]) rfl ?_
    exact ⟨ch0, fun _ => 0, rfl, SameC.refl _, ch0_own _ _, HK.out⟩

set_option maxRecDepth 100000 in
set_option maxHeartbeats 4000000 in
theorem implNewC_any (id : Int) (w : World) : Calls Tryd.prog 36 #[.int .i64 id] w (RetC (fun v => .tuple #[v, .bool (in2 id 1 2)]) w (newC id)) := by
  have F0 := Lib.hid (fun W => (show Calls Tryd.prog 68 #[.int .i64 id] W (fun e w' => e = .returned (.bool (in2 id 1 2)) ∧ W = w') from chainIdOk_any id W))
  have HBr := Lib.hid (Box.new w _ rfl 47 #[.int .i64 0, .slice none 0 0, .slice none 0 0, .int .i64 0, .int .i64 0, .int .i64 0, .int .i64 0, .slice none 0 0, .slice none 0 0, .slice none 0 0, .slice none 0 0, .slice none 0 0, .slice none 0 0])
  have HK := Lib.hid ((Keeps.refl noBlk w).alloc (.cells #[.int .i64 0, .slice none 0 0, .slice none 0 0, .int .i64 0, .int .i64 0, .int .i64 0, .int .i64 0, .slice none 0 0, .slice none 0 0, .slice none 0 0, .slice none 0 0, .slice none 0 0, .slice none 0 0] 47))
  rcases Bool.eq_false_or_eq_true (in2 id 1 2) with hi | hi
  · rw [newC_yes hi]
    rw [hi] at F0 ⊢
    have HB := Lib.hid (implNew_any)
    have HS := Lib.hid (implNewS_any)
    clear hi
    go_enter Tryd.func36, Tryd.ntmps36
    go_wp2_with (go_at_call 68; refine (F0.out _).mono ?_; rintro e w' ⟨rfl, rfl⟩)
    refine (HB.out _).mono ?_
    rintro e w1 ⟨v, rfl, ⟨a1, n1, k1, a2, n2, k2, rfl, hro, hrn, hdis, _, _, _, _⟩, hk1⟩
    obtain rfl : 3 = n1 := hro.1.1
    obtain rfl : 3 = n2 := hrn.1.1
    have hb := HBr.out.keeps hk1 (fun h => h)
    clear HBr
    have HBr := Lib.hid hb
    clear hb
    have RO := Lib.hid (RowB.mk' hro)
    have RN := Lib.hid (RowB.mk' hrn)
    have DIS := Lib.hid hdis
    have s1 := hk1.size
    have HK1 := Lib.hid (HK.out.trans hk1)
    clear hro hrn hdis hk1 HK
    go_wp2_with fail
    refine (HS.out _).mono ?_
    rintro e w2 ⟨B1, B2, B3, B4, d1, d2, d3, d4, rfl, hst, hk2⟩
    have hb := HBr.out.keeps hk2 (fun h => h)
    have s2 := hk2.size
    have r0 := hb.lt
    have r1 := hb.cell 0
    have f1 := hb.frozen 0
    have r2 := hb.cell 1
    have f2 := hb.frozen 1
    have r3 := hb.cell 2
    have f3 := hb.frozen 2
    have r4 := hb.cell 3
    have f4 := hb.frozen 3
    have r5 := hb.cell 4
    have f5 := hb.frozen 4
    have r6 := hb.cell 5
    have f6 := hb.frozen 5
    have r7 := hb.cell 6
    have f7 := hb.frozen 6
    have r8 := hb.cell 7
    have f8 := hb.frozen 7
    have r9 := hb.cell 8
    have f9 := hb.frozen 8
    have r10 := hb.cell 9
    have f10 := hb.frozen 9
    have r11 := hb.cell 10
    have f11 := hb.frozen 10
    have r12 := hb.cell 11
    have f12 := hb.frozen 11
    have r13 := hb.cell 12
    have f13 := hb.frozen 12
    simp at r1 r2 r3 r4 r5 r6 r7 r8 r9 r10 r11 r12 r13
    clear HBr
    have HBX := Lib.hid hb
    clear hb
    have RO2 := Lib.hid (RO.out.kept hk2)
    have RN2 := Lib.hid (RN.out.kept hk2)
    have RS := Lib.hid (StB.mk' (s := ⟨newS, B1, B2, B3, B4, d1, d2, d3, d4⟩) hst)
    have HK2 := Lib.hid (HK1.out.trans hk2)
    clear hst hk2 RO RN HK1
    unfold stV
    go_wp2
    have hbF := (((((((((((((HBX.out.set_ 0 (.int .i64 id)).set_ 1 (.slice a1 3 k1)).set_ 2 (.slice a2 3 k2)).set_ 3 (.int .i64 newL.locked)).set_ 4 (.int .i64 newS.way)).set_ 5 (.int .i64 newS.ver)).set_ 6 (.int .i64 newS.want)).set_ 7 (.slice B1 newS.sent.length d1)).set_ 8 (.slice B2 newS.live.length d2)).set_ 9 (.slice B3 newS.back.length d3)).set_ 10 (.slice B4 newS.got.length d4)).set_ 11 (.slice none 0 0)).set_ 12 (.slice none 0 0))
    simp only [List.setIfInBounds_toArray, List.set_cons_zero, List.set_cons_succ] at hbF
    have s10 := hbF.cell 0
    have s11 := hbF.cell 1
    have s12 := hbF.cell 2
    have s13 := hbF.cell 3
    have s14 := hbF.cell 4
    have s15 := hbF.cell 5
    have s16 := hbF.cell 6
    have s17 := hbF.cell 7
    have s18 := hbF.cell 8
    have s19 := hbF.cell 9
    have s20 := hbF.cell 10
    have s21 := hbF.cell 11
    have s22 := hbF.cell 12
    simp at s10 s11 s12 s13 s14 s15 s16 s17 s18 s19 s20 s21 s22
    clear hbF
    have kS : Keeps (fun b => b = w.heap.size) w2 (((((((((((((w2.setCell ⟨w.heap.size, 0, none⟩ (.int .i64 id)).setCell ⟨w.heap.size, 1, none⟩ (.slice a1 3 k1)).setCell ⟨w.heap.size, 2, none⟩ (.slice a2 3 k2)).setCell ⟨w.heap.size, 3, none⟩ (.int .i64 newL.locked)).setCell ⟨w.heap.size, 4, none⟩ (.int .i64 newS.way)).setCell ⟨w.heap.size, 5, none⟩ (.int .i64 newS.ver)).setCell ⟨w.heap.size, 6, none⟩ (.int .i64 newS.want)).setCell ⟨w.heap.size, 7, none⟩ (.slice B1 newS.sent.length d1)).setCell ⟨w.heap.size, 8, none⟩ (.slice B2 newS.live.length d2)).setCell ⟨w.heap.size, 9, none⟩ (.slice B3 newS.back.length d3)).setCell ⟨w.heap.size, 10, none⟩ (.slice B4 newS.got.length d4)).setCell ⟨w.heap.size, 11, none⟩ (.slice none 0 0)).setCell ⟨w.heap.size, 12, none⟩ (.slice none 0 0)) := ((((((((((((((Keeps.refl (fun b => b = w.heap.size) w2).setCell (p := ⟨w.heap.size, 0, none⟩) (.inr rfl) (.int .i64 id)).setCell (p := ⟨w.heap.size, 1, none⟩) (.inr rfl) (.slice a1 3 k1)).setCell (p := ⟨w.heap.size, 2, none⟩) (.inr rfl) (.slice a2 3 k2)).setCell (p := ⟨w.heap.size, 3, none⟩) (.inr rfl) (.int .i64 newL.locked)).setCell (p := ⟨w.heap.size, 4, none⟩) (.inr rfl) (.int .i64 newS.way)).setCell (p := ⟨w.heap.size, 5, none⟩) (.inr rfl) (.int .i64 newS.ver)).setCell (p := ⟨w.heap.size, 6, none⟩) (.inr rfl) (.int .i64 newS.want)).setCell (p := ⟨w.heap.size, 7, none⟩) (.inr rfl) (.slice B1 newS.sent.length d1)).setCell (p := ⟨w.heap.size, 8, none⟩) (.inr rfl) (.slice B2 newS.live.length d2)).setCell (p := ⟨w.heap.size, 9, none⟩) (.inr rfl) (.slice B3 newS.back.length d3)).setCell (p := ⟨w.heap.size, 10, none⟩) (.inr rfl) (.slice B4 newS.got.length d4)).setCell (p := ⟨w.heap.size, 11, none⟩) (.inr rfl) (.slice none 0 0)).setCell (p := ⟨w.heap.size, 12, none⟩) (.inr rfl) (.slice none 0 0))
    generalize (((((((((((((w2.setCell ⟨w.heap.size, 0, none⟩ (.int .i64 id)).setCell ⟨w.heap.size, 1, none⟩ (.slice a1 3 k1)).setCell ⟨w.heap.size, 2, none⟩ (.slice a2 3 k2)).setCell ⟨w.heap.size, 3, none⟩ (.int .i64 newL.locked)).setCell ⟨w.heap.size, 4, none⟩ (.int .i64 newS.way)).setCell ⟨w.heap.size, 5, none⟩ (.int .i64 newS.ver)).setCell ⟨w.heap.size, 6, none⟩ (.int .i64 newS.want)).setCell ⟨w.heap.size, 7, none⟩ (.slice B1 newS.sent.length d1)).setCell ⟨w.heap.size, 8, none⟩ (.slice B2 newS.live.length d2)).setCell ⟨w.heap.size, 9, none⟩ (.slice B3 newS.back.length d3)).setCell ⟨w.heap.size, 10, none⟩ (.slice B4 newS.got.length d4)).setCell ⟨w.heap.size, 11, none⟩ (.slice none 0 0)).setCell ⟨w.heap.size, 12, none⟩ (.slice none 0 0)) = WF at kS s10 s11 s12 s13 s14 s15 s16 s17 s18 s19 s20 s21 s22
    refine bodyPost_ret (v := .tuple #[(⟨id, ⟨newL, a1, a2, k1, k2⟩, ⟨newS, B1, B2, B3, B4, d1, d2, d3, d4⟩, [], none, 0, [], none, 0⟩ : ChM).val, .bool true]) (by simp [results, Tryd.results36, go_sem, ChM.val, newL, s10, s11, s12, s13, s14, s15, s16, s17, s18, s19, s20, s21, s22]) rfl ?_
    have hz : w.heap.size < w1.heap.size := by simp at s1; omega
    obtain ⟨G, hG⟩ := new_own (lo := w.heap.size) (id := id) (pA := none) (kA := none) (pc := 0) (kc := 0) (k1 := k1) (k2 := k2) (RO2.out.keeps kS fun b hb => by simp; omega) (RN2.out.keeps kS fun b hb => by simp; omega) DIS.out (RS.out.keeps kS fun b hb => by omega) (Nat.le_refl _) (by simp) (by omega)
    exact ⟨(⟨id, ⟨newL, a1, a2, k1, k2⟩, ⟨newS, B1, B2, B3, B4, d1, d2, d3, d4⟩, [], none, 0, [], none, 0⟩ : ChM), G, rfl, ⟨rfl, rfl, rfl, SameS.refl _, rfl⟩, hG, HK2.out.then kS fun i hi h => by omega⟩
  · rw [newC_no hi]
    rw [hi] at F0 ⊢
    clear hi
    have hb := HBr.out
    have r0 := hb.lt
    have r1 := hb.cell 0
    have f1 := hb.frozen 0
    have r2 := hb.cell 1
    have f2 := hb.frozen 1
    have r3 := hb.cell 2
    have f3 := hb.frozen 2
    have r4 := hb.cell 3
    have f4 := hb.frozen 3
    have r5 := hb.cell 4
    have f5 := hb.frozen 4
    have r6 := hb.cell 5
    have f6 := hb.frozen 5
    have r7 := hb.cell 6
    have f7 := hb.frozen 6
    have r8 := hb.cell 7
    have f8 := hb.frozen 7
    have r9 := hb.cell 8
    have f9 := hb.frozen 8
    have r10 := hb.cell 9
    have f10 := hb.frozen 9
    have r11 := hb.cell 10
    have f11 := hb.frozen 10
    have r12 := hb.cell 11
    have f12 := hb.frozen 11
    have r13 := hb.cell 12
    have f13 := hb.frozen 12
    simp at r1 r2 r3 r4 r5 r6 r7 r8 r9 r10 r11 r12 r13
    clear hb HBr
    go_enter Tryd.func36, Tryd.ntmps36
    go_wp2_with (go_at_call 68; refine (F0.out _).mono ?_; rintro e w' ⟨rfl, rfl⟩)
    refine bodyPost_ret (v := .tuple #[ch0.val, .bool false]) (by simp [results, Tryd.results36, go_sem, ChM.val, ch0, bk0, stm0, r1, r2, r3, r4, r5, r6, r7, r8, r9, r10, r11, r12, r13]) rfl ?_
    exact ⟨ch0, fun _ => 0, rfl, SameC.refl _, ch0_own _ _, HK.out⟩
end Go.Proofs.YtcnbephpadmboaaDoor

/-! CxV -/
namespace Go.Proofs.YtcnbephpadmboaaDoor
open Go.RowKit

theorem Lk.other {w w' : World} {lo k : Nat} {cs : Array Value} (hk : Keeps (fun b => b = k) w w') (hb : Box w k 78 cs) : ∀ {rs : List StM} {P : Option Addr}, Lk w lo P rs → Lk w' lo P rs
  | [], _, h => h
  | _ :: _, _, ⟨g, q, e, hl, hx, hr⟩ => ⟨g, q, e, hl, hx.keeps hk (fun (h : g = k) => by
      subst h
      have h1 : w.heap[g]? = _ := hb
      have h2 : w.heap[g]? = _ := hx
      rw [h1] at h2
      injection h2 with h2
      injection h2 with _ h2
      revert h2
      decide), Lk.other hk hb hr⟩
theorem kn_ge {l : List Int} (h : KnOk l) (i : Nat) (hi : i < l.length) : (i : Int) + 1 ≤ l.getD i 0 := by
  induction i with
  | zero => have := (h 0 hi).1.1; omega
  | succ i ih => have h1 := ih (by omega); have h2 := (h (i + 1) hi).2 (by omega); simp only [Nat.add_sub_cancel] at h2; omega
theorem kn_len {l : List Int} (h : KnOk l) : l.length ≤ 90 := by
  rcases Nat.lt_or_ge 90 l.length with hl | hl
  · have h1 := kn_ge h 90 hl
    have h2 := (h 90 hl).1.2
    omega
  · exact hl
theorem ok_len2 {b : BankL} (h : okB b = true) : b.own.length ≤ 1000 ∧ b.notes.length ≤ 1000 := by
  unfold okB at h
  simp only [Bool.and_eq_true] at h
  have h1 := (parts_small h.1.1.1.1).2
  have h2 := (parts_small h.1.1.1.2).2
  omega
/-- A chain that is ok, with its heights linked, is as chain() wants it. -/
theorem lnk_of {w : World} {c : ChM} {P : Option Addr} {lo : Nat} (h : ChAt w c) (hb : ckB c = true) (hl : Lk w lo P c.past.reverse) : Lnk w c P lo := by
  obtain ⟨_, k1, k2, k3, k4, k5⟩ := of_decide_eq_true hb
  have e1 := ok_len2 k1
  have e2 := stB_len k2
  have e3 := kn_len k5
  refine ⟨h.own, h.notes, h.st, h.past, h.knows, hl, e1.1, e1.2, by omega, by omega, fun s hs => ?_, by omega⟩
  obtain ⟨i, hi, rfl⟩ := List.getElem_of_mem hs
  have e : c.past.getD i stm0 = c.past[i] := by rw [List.getD_eq_getElem?_getD, List.getElem?_eq_getElem hi]; rfl
  have := stB_len (k4 i hi)
  rw [e] at this
  omega
/-- .. and so it is with one more height. -/
theorem lnk_more {w : World} {c : ChM} {P : Option Addr} {lo : Nat} (h : ChAt w c) (hb : ckB c = true) (hl : Lk w lo P (c.st :: c.past.reverse)) : Lnk w { c with past := c.past ++ [c.st] } P lo := by
  obtain ⟨_, k1, k2, k3, k4, k5⟩ := of_decide_eq_true hb
  have e1 := ok_len2 k1
  have e2 := stB_len k2
  have e3 := kn_len k5
  refine ⟨h.own, h.notes, h.st, fun s hs => ?_, h.knows, ?_, e1.1, e1.2, by dsimp only; omega, by dsimp only; rw [List.length_append, List.length_singleton]; omega, fun s hs => ?_, by dsimp only; omega⟩
  · rcases List.mem_append.1 hs with hs | hs
    · exact h.past s hs
    · rw [List.mem_singleton.1 hs]
      exact h.st
  · dsimp only
    rw [List.reverse_append]
    exact hl
  · rcases List.mem_append.1 hs with hs | hs
    · obtain ⟨i, hi, rfl⟩ := List.getElem_of_mem hs
      have e : c.past.getD i stm0 = c.past[i] := by rw [List.getD_eq_getElem?_getD, List.getElem?_eq_getElem hi]; rfl
      have := stB_len (k4 i hi)
      rw [e] at this
      omega
    · rw [List.mem_singleton.1 hs]
      omega
theorem ChOwn.less {G : Nat → Nat} {w : World} {lo lo' : Nat} {c : ChM} (h : ChOwn G w lo c) (hl : lo' ≤ lo) : ChOwn G w lo' c :=
  ⟨h.own.less hl, h.gown, h.notes.less hl, h.gnotes, h.st.less hl, h.gst, h.row.less hl, h.grow, fun i hi => ⟨(h.past i hi).1.less hl, (h.past i hi).2⟩, h.knows.less hl, h.gknows, h.m1, h.m2, h.m3, h.m4, h.m5, h.m6⟩
/-- What ChainBlock makes of a chain. -/
def blkC (c : ChM) : ChM := if ckB c then (if c.past.length < 90 then { c with past := c.past ++ [c.st] } else c) else ch0
set_option maxRecDepth 100000 in
set_option maxHeartbeats 8000000 in
theorem implBlock_any (c : ChM) (w : World) (h : ChAt w c) (ht : Tabs w) : Calls Tryd.prog 30 #[c.val] w (RetC (fun v => v) w (blkC c)) := by
  have HBa := Lib.hid ((Box.new w _ rfl 47 #[.int .i64 c.id, .slice c.bk.A1 c.bk.b.own.length c.bk.c1, .slice c.bk.A2 c.bk.b.notes.length c.bk.c2, .int .i64 c.bk.b.locked, .int .i64 c.st.x.way, .int .i64 c.st.x.ver, .int .i64 c.st.x.want, .slice c.st.A1 c.st.x.sent.length c.st.c1, .slice c.st.A2 c.st.x.live.length c.st.c2, .slice c.st.A3 c.st.x.back.length c.st.c3, .slice c.st.A4 c.st.x.got.length c.st.c4, .slice c.pA c.past.length c.pc, .slice c.kA c.knows.length c.kc]).alloc (.cells #[.int .i64 0, .slice none 0 0, .slice none 0 0, .int .i64 0, .int .i64 0, .int .i64 0, .int .i64 0, .slice none 0 0, .slice none 0 0, .slice none 0 0, .slice none 0 0, .slice none 0 0, .slice none 0 0] 47))
  have HBr := Lib.hid (Box.new (w.alloc (.cells #[.int .i64 c.id, .slice c.bk.A1 c.bk.b.own.length c.bk.c1, .slice c.bk.A2 c.bk.b.notes.length c.bk.c2, .int .i64 c.bk.b.locked, .int .i64 c.st.x.way, .int .i64 c.st.x.ver, .int .i64 c.st.x.want, .slice c.st.A1 c.st.x.sent.length c.st.c1, .slice c.st.A2 c.st.x.live.length c.st.c2, .slice c.st.A3 c.st.x.back.length c.st.c3, .slice c.st.A4 c.st.x.got.length c.st.c4, .slice c.pA c.past.length c.pc, .slice c.kA c.knows.length c.kc] 47)) (w.heap.size + 1) (by simp) 47 #[.int .i64 0, .slice none 0 0, .slice none 0 0, .int .i64 0, .int .i64 0, .int .i64 0, .int .i64 0, .slice none 0 0, .slice none 0 0, .slice none 0 0, .slice none 0 0, .slice none 0 0, .slice none 0 0])
  have HK := Lib.hid (((Keeps.refl noBlk w).alloc (.cells #[.int .i64 c.id, .slice c.bk.A1 c.bk.b.own.length c.bk.c1, .slice c.bk.A2 c.bk.b.notes.length c.bk.c2, .int .i64 c.bk.b.locked, .int .i64 c.st.x.way, .int .i64 c.st.x.ver, .int .i64 c.st.x.want, .slice c.st.A1 c.st.x.sent.length c.st.c1, .slice c.st.A2 c.st.x.live.length c.st.c2, .slice c.st.A3 c.st.x.back.length c.st.c3, .slice c.st.A4 c.st.x.got.length c.st.c4, .slice c.pA c.past.length c.pc, .slice c.kA c.knows.length c.kc] 47)).alloc (.cells #[.int .i64 0, .slice none 0 0, .slice none 0 0, .int .i64 0, .int .i64 0, .int .i64 0, .int .i64 0, .slice none 0 0, .slice none 0 0, .slice none 0 0, .slice none 0 0, .slice none 0 0, .slice none 0 0] 47))
  rcases Bool.eq_false_or_eq_true (ckB c) with hb | hb
  case inr =>
    have F := Lib.hid (fun W (hk : Keeps noBlk w W) => link_no c W (h.kept hk) (ht.keeps hk) hb)
    rw [show blkC c = ch0 by unfold blkC; rw [if_neg (by rw [hb]; decide)]]
    clear h hb ht
    unfold ChM.val
    unfold ChM.val at F
    go_enter Tryd.func30, Tryd.ntmps30
    go_wp2_with fail
    refine (F.out _ HK.out).mono ?_
    rintro e w1 ⟨rfl, hk1⟩
    unfold lk0
    have ha := HBa.out.keeps hk1 (fun h => h)
    clear HBa
    have HBa := Lib.hid ha
    clear ha
    have hr := HBr.out.keeps hk1 (fun h => h)
    clear HBr
    have HBr := Lib.hid hr
    clear hr
    have hr := HK.out.trans hk1
    clear HK
    have HK := Lib.hid hr
    clear hr
    have sz1 := hk1.size
    (try simp at sz1)
    clear hk1
    have hb := HBr.out
    have r0 := hb.cell 0
    have r1 := hb.cell 1
    have r2 := hb.cell 2
    have r3 := hb.cell 3
    have r4 := hb.cell 4
    have r5 := hb.cell 5
    have r6 := hb.cell 6
    have r7 := hb.cell 7
    have r8 := hb.cell 8
    have r9 := hb.cell 9
    have r10 := hb.cell 10
    have r11 := hb.cell 11
    have r12 := hb.cell 12
    simp at r0 r1 r2 r3 r4 r5 r6 r7 r8 r9 r10 r11 r12
    have zr := hb.lt
    clear hb
    have hb := HBr.out
    have rf0 := hb.frozen 0
    have rf1 := hb.frozen 1
    have rf2 := hb.frozen 2
    have rf3 := hb.frozen 3
    have rf4 := hb.frozen 4
    have rf5 := hb.frozen 5
    have rf6 := hb.frozen 6
    have rf7 := hb.frozen 7
    have rf8 := hb.frozen 8
    have rf9 := hb.frozen 9
    have rf10 := hb.frozen 10
    have rf11 := hb.frozen 11
    have rf12 := hb.frozen 12
    clear hb
    go_wp2
    have hbF := ((((((((((((((HBr.out.set_ 0 (.int .i64 0)).set_ 1 (.slice none 0 0)).set_ 2 (.slice none 0 0)).set_ 3 (.int .i64 0)).set_ 4 (.int .i64 0)).set_ 5 (.int .i64 0)).set_ 6 (.int .i64 0)).set_ 7 (.slice none 0 0)).set_ 8 (.slice none 0 0)).set_ 9 (.slice none 0 0)).set_ 10 (.slice none 0 0)).set_ 11 (.slice none 0 0)).set_ 12 (.slice none 0 0)).alloc (.cells #[.slice none 0 0, .slice none 0 0, .int .i64 0, .int .i64 0, .int .i64 0, .int .i64 0, .int .i64 0, .slice none 0 0, .slice none 0 0, .slice none 0 0, .slice none 0 0, .pointer none, .slice none 0 0] 78))
    simp only [List.setIfInBounds_toArray, List.set_cons_zero, List.set_cons_succ] at hbF
    have s10 := hbF.cell 0
    have s11 := hbF.cell 1
    have s12 := hbF.cell 2
    have s13 := hbF.cell 3
    have s14 := hbF.cell 4
    have s15 := hbF.cell 5
    have s16 := hbF.cell 6
    have s17 := hbF.cell 7
    have s18 := hbF.cell 8
    have s19 := hbF.cell 9
    have s20 := hbF.cell 10
    have s21 := hbF.cell 11
    have s22 := hbF.cell 12
    simp at s10 s11 s12 s13 s14 s15 s16 s17 s18 s19 s20 s21 s22
    clear hbF
    have kS : Keeps (fun b => b = w.heap.size + 1) w1 ((((((((((((((w1.setCell ⟨w.heap.size + 1, 0, none⟩ (.int .i64 0)).setCell ⟨w.heap.size + 1, 1, none⟩ (.slice none 0 0)).setCell ⟨w.heap.size + 1, 2, none⟩ (.slice none 0 0)).setCell ⟨w.heap.size + 1, 3, none⟩ (.int .i64 0)).setCell ⟨w.heap.size + 1, 4, none⟩ (.int .i64 0)).setCell ⟨w.heap.size + 1, 5, none⟩ (.int .i64 0)).setCell ⟨w.heap.size + 1, 6, none⟩ (.int .i64 0)).setCell ⟨w.heap.size + 1, 7, none⟩ (.slice none 0 0)).setCell ⟨w.heap.size + 1, 8, none⟩ (.slice none 0 0)).setCell ⟨w.heap.size + 1, 9, none⟩ (.slice none 0 0)).setCell ⟨w.heap.size + 1, 10, none⟩ (.slice none 0 0)).setCell ⟨w.heap.size + 1, 11, none⟩ (.slice none 0 0)).setCell ⟨w.heap.size + 1, 12, none⟩ (.slice none 0 0)).alloc (.cells #[.slice none 0 0, .slice none 0 0, .int .i64 0, .int .i64 0, .int .i64 0, .int .i64 0, .int .i64 0, .slice none 0 0, .slice none 0 0, .slice none 0 0, .slice none 0 0, .pointer none, .slice none 0 0] 78)) := (((((((((((((((Keeps.refl (fun b => b = w.heap.size + 1) w1).setCell (p := ⟨w.heap.size + 1, 0, none⟩) (.inr rfl) (.int .i64 0)).setCell (p := ⟨w.heap.size + 1, 1, none⟩) (.inr rfl) (.slice none 0 0)).setCell (p := ⟨w.heap.size + 1, 2, none⟩) (.inr rfl) (.slice none 0 0)).setCell (p := ⟨w.heap.size + 1, 3, none⟩) (.inr rfl) (.int .i64 0)).setCell (p := ⟨w.heap.size + 1, 4, none⟩) (.inr rfl) (.int .i64 0)).setCell (p := ⟨w.heap.size + 1, 5, none⟩) (.inr rfl) (.int .i64 0)).setCell (p := ⟨w.heap.size + 1, 6, none⟩) (.inr rfl) (.int .i64 0)).setCell (p := ⟨w.heap.size + 1, 7, none⟩) (.inr rfl) (.slice none 0 0)).setCell (p := ⟨w.heap.size + 1, 8, none⟩) (.inr rfl) (.slice none 0 0)).setCell (p := ⟨w.heap.size + 1, 9, none⟩) (.inr rfl) (.slice none 0 0)).setCell (p := ⟨w.heap.size + 1, 10, none⟩) (.inr rfl) (.slice none 0 0)).setCell (p := ⟨w.heap.size + 1, 11, none⟩) (.inr rfl) (.slice none 0 0)).setCell (p := ⟨w.heap.size + 1, 12, none⟩) (.inr rfl) (.slice none 0 0)).alloc (.cells #[.slice none 0 0, .slice none 0 0, .int .i64 0, .int .i64 0, .int .i64 0, .int .i64 0, .int .i64 0, .slice none 0 0, .slice none 0 0, .slice none 0 0, .slice none 0 0, .pointer none, .slice none 0 0] 78))
    generalize ((((((((((((((w1.setCell ⟨w.heap.size + 1, 0, none⟩ (.int .i64 0)).setCell ⟨w.heap.size + 1, 1, none⟩ (.slice none 0 0)).setCell ⟨w.heap.size + 1, 2, none⟩ (.slice none 0 0)).setCell ⟨w.heap.size + 1, 3, none⟩ (.int .i64 0)).setCell ⟨w.heap.size + 1, 4, none⟩ (.int .i64 0)).setCell ⟨w.heap.size + 1, 5, none⟩ (.int .i64 0)).setCell ⟨w.heap.size + 1, 6, none⟩ (.int .i64 0)).setCell ⟨w.heap.size + 1, 7, none⟩ (.slice none 0 0)).setCell ⟨w.heap.size + 1, 8, none⟩ (.slice none 0 0)).setCell ⟨w.heap.size + 1, 9, none⟩ (.slice none 0 0)).setCell ⟨w.heap.size + 1, 10, none⟩ (.slice none 0 0)).setCell ⟨w.heap.size + 1, 11, none⟩ (.slice none 0 0)).setCell ⟨w.heap.size + 1, 12, none⟩ (.slice none 0 0)).alloc (.cells #[.slice none 0 0, .slice none 0 0, .int .i64 0, .int .i64 0, .int .i64 0, .int .i64 0, .int .i64 0, .slice none 0 0, .slice none 0 0, .slice none 0 0, .slice none 0 0, .pointer none, .slice none 0 0] 78)) = WF at kS s10 s11 s12 s13 s14 s15 s16 s17 s18 s19 s20 s21 s22 ⊢
    refine bodyPost_ret (v := ch0.val) (by simp [results, Tryd.results30, go_sem, ch0, bk0, stm0, ChM.val, s10, s11, s12, s13, s14, s15, s16, s17, s18, s19, s20, s21, s22]) rfl ?_
    exact ⟨ch0, fun _ => 0, rfl, SameC.refl _, ch0_own _ _, HK.out.then kS fun i hi h => by omega⟩
  have F := Lib.hid (fun W (hk : Keeps noBlk w W) => link_yes c W (h.kept hk) (ht.keeps hk) hb)
  have HH := Lib.hid h
  have HB := Lib.hid hb
  have h9 := (of_decide_eq_true hb).2.2.2.1
  by_cases hn : c.past.length < 90
  case neg =>
    rw [show blkC c = c by unfold blkC; rw [if_pos hb, if_neg hn]]
    have hn' : ¬ (c.past.length : Int) < 90 := by omega
    clear h hb ht
    unfold ChM.val
    unfold ChM.val at F
    go_enter Tryd.func30, Tryd.ntmps30
    go_wp2_with fail
    refine (F.out _ HK.out).mono ?_
    rintro e w1 ⟨P, rfl, hl9, hk1⟩
    unfold lkV
    have HLK := Lib.hid hl9
    clear hl9
    have ha := HBa.out.keeps hk1 (fun h => h)
    clear HBa
    have HBa := Lib.hid ha
    clear ha
    have hr := HBr.out.keeps hk1 (fun h => h)
    clear HBr
    have HBr := Lib.hid hr
    clear hr
    have hr := HK.out.trans hk1
    clear HK
    have HK := Lib.hid hr
    clear hr
    have sz1 := hk1.size
    (try simp at sz1)
    clear hk1
    have ha := HBa.out.alloc (.cells #[.slice c.bk.A1 c.bk.b.own.length c.bk.c1, .slice c.bk.A2 c.bk.b.notes.length c.bk.c2, .int .i64 c.bk.b.locked, .int .i64 c.id, .int .i64 c.st.x.way, .int .i64 c.st.x.ver, .int .i64 c.st.x.want, .slice c.st.A1 c.st.x.sent.length c.st.c1, .slice c.st.A2 c.st.x.live.length c.st.c2, .slice c.st.A3 c.st.x.back.length c.st.c3, .slice c.st.A4 c.st.x.got.length c.st.c4, .pointer P, .slice c.kA c.knows.length c.kc] 78)
    clear HBa
    have HBa := Lib.hid ha
    clear ha
    have hr := HBr.out.alloc (.cells #[.slice c.bk.A1 c.bk.b.own.length c.bk.c1, .slice c.bk.A2 c.bk.b.notes.length c.bk.c2, .int .i64 c.bk.b.locked, .int .i64 c.id, .int .i64 c.st.x.way, .int .i64 c.st.x.ver, .int .i64 c.st.x.want, .slice c.st.A1 c.st.x.sent.length c.st.c1, .slice c.st.A2 c.st.x.live.length c.st.c2, .slice c.st.A3 c.st.x.back.length c.st.c3, .slice c.st.A4 c.st.x.got.length c.st.c4, .pointer P, .slice c.kA c.knows.length c.kc] 78)
    clear HBr
    have HBr := Lib.hid hr
    clear hr
    have hr := Lk.kept (HLK.out) ((Keeps.refl noBlk w1).alloc (.cells #[.slice c.bk.A1 c.bk.b.own.length c.bk.c1, .slice c.bk.A2 c.bk.b.notes.length c.bk.c2, .int .i64 c.bk.b.locked, .int .i64 c.id, .int .i64 c.st.x.way, .int .i64 c.st.x.ver, .int .i64 c.st.x.want, .slice c.st.A1 c.st.x.sent.length c.st.c1, .slice c.st.A2 c.st.x.live.length c.st.c2, .slice c.st.A3 c.st.x.back.length c.st.c3, .slice c.st.A4 c.st.x.got.length c.st.c4, .pointer P, .slice c.kA c.knows.length c.kc] 78))
    clear HLK
    have HLK := Lib.hid hr
    clear hr
    have hr := HK.out.alloc (.cells #[.slice c.bk.A1 c.bk.b.own.length c.bk.c1, .slice c.bk.A2 c.bk.b.notes.length c.bk.c2, .int .i64 c.bk.b.locked, .int .i64 c.id, .int .i64 c.st.x.way, .int .i64 c.st.x.ver, .int .i64 c.st.x.want, .slice c.st.A1 c.st.x.sent.length c.st.c1, .slice c.st.A2 c.st.x.live.length c.st.c2, .slice c.st.A3 c.st.x.back.length c.st.c3, .slice c.st.A4 c.st.x.got.length c.st.c4, .pointer P, .slice c.kA c.knows.length c.kc] 78)
    clear HK
    have HK := Lib.hid hr
    clear hr
    have HBk := Lib.hid (Box.new w1 _ rfl 78 #[.slice c.bk.A1 c.bk.b.own.length c.bk.c1, .slice c.bk.A2 c.bk.b.notes.length c.bk.c2, .int .i64 c.bk.b.locked, .int .i64 c.id, .int .i64 c.st.x.way, .int .i64 c.st.x.ver, .int .i64 c.st.x.want, .slice c.st.A1 c.st.x.sent.length c.st.c1, .slice c.st.A2 c.st.x.live.length c.st.c2, .slice c.st.A3 c.st.x.back.length c.st.c3, .slice c.st.A4 c.st.x.got.length c.st.c4, .pointer P, .slice c.kA c.knows.length c.kc])
    have sz1' := HBk.out.lt
    have HC := Lib.hid (fun W (hk : Keeps noBlk (w1.alloc (.cells #[.slice c.bk.A1 c.bk.b.own.length c.bk.c1, .slice c.bk.A2 c.bk.b.notes.length c.bk.c2, .int .i64 c.bk.b.locked, .int .i64 c.id, .int .i64 c.st.x.way, .int .i64 c.st.x.ver, .int .i64 c.st.x.want, .slice c.st.A1 c.st.x.sent.length c.st.c1, .slice c.st.A2 c.st.x.live.length c.st.c2, .slice c.st.A3 c.st.x.back.length c.st.c3, .slice c.st.A4 c.st.x.got.length c.st.c4, .pointer P, .slice c.kA c.knows.length c.kc] 78)) W) => (show Calls Tryd.prog 57 #[.pointer P] W (fun e w' => e = .returned (.int .i64 (c.past.length : Int)) ∧ W = w') from by have q := count_any P _ _ W (HLK.out.kept hk); rwa [List.length_reverse] at q))
    have hb := HBk.out
    have k0 : (w1.alloc (.cells #[.slice c.bk.A1 c.bk.b.own.length c.bk.c1, .slice c.bk.A2 c.bk.b.notes.length c.bk.c2, .int .i64 c.bk.b.locked, .int .i64 c.id, .int .i64 c.st.x.way, .int .i64 c.st.x.ver, .int .i64 c.st.x.want, .slice c.st.A1 c.st.x.sent.length c.st.c1, .slice c.st.A2 c.st.x.live.length c.st.c2, .slice c.st.A3 c.st.x.back.length c.st.c3, .slice c.st.A4 c.st.x.got.length c.st.c4, .pointer P, .slice c.kA c.knows.length c.kc] 78)).cell? ⟨w1.heap.size, 0, none⟩ = some (.slice c.bk.A1 c.bk.b.own.length c.bk.c1) := hb.cell 0
    have k1 : (w1.alloc (.cells #[.slice c.bk.A1 c.bk.b.own.length c.bk.c1, .slice c.bk.A2 c.bk.b.notes.length c.bk.c2, .int .i64 c.bk.b.locked, .int .i64 c.id, .int .i64 c.st.x.way, .int .i64 c.st.x.ver, .int .i64 c.st.x.want, .slice c.st.A1 c.st.x.sent.length c.st.c1, .slice c.st.A2 c.st.x.live.length c.st.c2, .slice c.st.A3 c.st.x.back.length c.st.c3, .slice c.st.A4 c.st.x.got.length c.st.c4, .pointer P, .slice c.kA c.knows.length c.kc] 78)).cell? ⟨w1.heap.size, 1, none⟩ = some (.slice c.bk.A2 c.bk.b.notes.length c.bk.c2) := hb.cell 1
    have k2 : (w1.alloc (.cells #[.slice c.bk.A1 c.bk.b.own.length c.bk.c1, .slice c.bk.A2 c.bk.b.notes.length c.bk.c2, .int .i64 c.bk.b.locked, .int .i64 c.id, .int .i64 c.st.x.way, .int .i64 c.st.x.ver, .int .i64 c.st.x.want, .slice c.st.A1 c.st.x.sent.length c.st.c1, .slice c.st.A2 c.st.x.live.length c.st.c2, .slice c.st.A3 c.st.x.back.length c.st.c3, .slice c.st.A4 c.st.x.got.length c.st.c4, .pointer P, .slice c.kA c.knows.length c.kc] 78)).cell? ⟨w1.heap.size, 2, none⟩ = some (.int .i64 c.bk.b.locked) := hb.cell 2
    have k3 : (w1.alloc (.cells #[.slice c.bk.A1 c.bk.b.own.length c.bk.c1, .slice c.bk.A2 c.bk.b.notes.length c.bk.c2, .int .i64 c.bk.b.locked, .int .i64 c.id, .int .i64 c.st.x.way, .int .i64 c.st.x.ver, .int .i64 c.st.x.want, .slice c.st.A1 c.st.x.sent.length c.st.c1, .slice c.st.A2 c.st.x.live.length c.st.c2, .slice c.st.A3 c.st.x.back.length c.st.c3, .slice c.st.A4 c.st.x.got.length c.st.c4, .pointer P, .slice c.kA c.knows.length c.kc] 78)).cell? ⟨w1.heap.size, 3, none⟩ = some (.int .i64 c.id) := hb.cell 3
    have k4 : (w1.alloc (.cells #[.slice c.bk.A1 c.bk.b.own.length c.bk.c1, .slice c.bk.A2 c.bk.b.notes.length c.bk.c2, .int .i64 c.bk.b.locked, .int .i64 c.id, .int .i64 c.st.x.way, .int .i64 c.st.x.ver, .int .i64 c.st.x.want, .slice c.st.A1 c.st.x.sent.length c.st.c1, .slice c.st.A2 c.st.x.live.length c.st.c2, .slice c.st.A3 c.st.x.back.length c.st.c3, .slice c.st.A4 c.st.x.got.length c.st.c4, .pointer P, .slice c.kA c.knows.length c.kc] 78)).cell? ⟨w1.heap.size, 4, none⟩ = some (.int .i64 c.st.x.way) := hb.cell 4
    have k5 : (w1.alloc (.cells #[.slice c.bk.A1 c.bk.b.own.length c.bk.c1, .slice c.bk.A2 c.bk.b.notes.length c.bk.c2, .int .i64 c.bk.b.locked, .int .i64 c.id, .int .i64 c.st.x.way, .int .i64 c.st.x.ver, .int .i64 c.st.x.want, .slice c.st.A1 c.st.x.sent.length c.st.c1, .slice c.st.A2 c.st.x.live.length c.st.c2, .slice c.st.A3 c.st.x.back.length c.st.c3, .slice c.st.A4 c.st.x.got.length c.st.c4, .pointer P, .slice c.kA c.knows.length c.kc] 78)).cell? ⟨w1.heap.size, 5, none⟩ = some (.int .i64 c.st.x.ver) := hb.cell 5
    have k6 : (w1.alloc (.cells #[.slice c.bk.A1 c.bk.b.own.length c.bk.c1, .slice c.bk.A2 c.bk.b.notes.length c.bk.c2, .int .i64 c.bk.b.locked, .int .i64 c.id, .int .i64 c.st.x.way, .int .i64 c.st.x.ver, .int .i64 c.st.x.want, .slice c.st.A1 c.st.x.sent.length c.st.c1, .slice c.st.A2 c.st.x.live.length c.st.c2, .slice c.st.A3 c.st.x.back.length c.st.c3, .slice c.st.A4 c.st.x.got.length c.st.c4, .pointer P, .slice c.kA c.knows.length c.kc] 78)).cell? ⟨w1.heap.size, 6, none⟩ = some (.int .i64 c.st.x.want) := hb.cell 6
    have k7 : (w1.alloc (.cells #[.slice c.bk.A1 c.bk.b.own.length c.bk.c1, .slice c.bk.A2 c.bk.b.notes.length c.bk.c2, .int .i64 c.bk.b.locked, .int .i64 c.id, .int .i64 c.st.x.way, .int .i64 c.st.x.ver, .int .i64 c.st.x.want, .slice c.st.A1 c.st.x.sent.length c.st.c1, .slice c.st.A2 c.st.x.live.length c.st.c2, .slice c.st.A3 c.st.x.back.length c.st.c3, .slice c.st.A4 c.st.x.got.length c.st.c4, .pointer P, .slice c.kA c.knows.length c.kc] 78)).cell? ⟨w1.heap.size, 7, none⟩ = some (.slice c.st.A1 c.st.x.sent.length c.st.c1) := hb.cell 7
    have k8 : (w1.alloc (.cells #[.slice c.bk.A1 c.bk.b.own.length c.bk.c1, .slice c.bk.A2 c.bk.b.notes.length c.bk.c2, .int .i64 c.bk.b.locked, .int .i64 c.id, .int .i64 c.st.x.way, .int .i64 c.st.x.ver, .int .i64 c.st.x.want, .slice c.st.A1 c.st.x.sent.length c.st.c1, .slice c.st.A2 c.st.x.live.length c.st.c2, .slice c.st.A3 c.st.x.back.length c.st.c3, .slice c.st.A4 c.st.x.got.length c.st.c4, .pointer P, .slice c.kA c.knows.length c.kc] 78)).cell? ⟨w1.heap.size, 8, none⟩ = some (.slice c.st.A2 c.st.x.live.length c.st.c2) := hb.cell 8
    have k9 : (w1.alloc (.cells #[.slice c.bk.A1 c.bk.b.own.length c.bk.c1, .slice c.bk.A2 c.bk.b.notes.length c.bk.c2, .int .i64 c.bk.b.locked, .int .i64 c.id, .int .i64 c.st.x.way, .int .i64 c.st.x.ver, .int .i64 c.st.x.want, .slice c.st.A1 c.st.x.sent.length c.st.c1, .slice c.st.A2 c.st.x.live.length c.st.c2, .slice c.st.A3 c.st.x.back.length c.st.c3, .slice c.st.A4 c.st.x.got.length c.st.c4, .pointer P, .slice c.kA c.knows.length c.kc] 78)).cell? ⟨w1.heap.size, 9, none⟩ = some (.slice c.st.A3 c.st.x.back.length c.st.c3) := hb.cell 9
    have k10 : (w1.alloc (.cells #[.slice c.bk.A1 c.bk.b.own.length c.bk.c1, .slice c.bk.A2 c.bk.b.notes.length c.bk.c2, .int .i64 c.bk.b.locked, .int .i64 c.id, .int .i64 c.st.x.way, .int .i64 c.st.x.ver, .int .i64 c.st.x.want, .slice c.st.A1 c.st.x.sent.length c.st.c1, .slice c.st.A2 c.st.x.live.length c.st.c2, .slice c.st.A3 c.st.x.back.length c.st.c3, .slice c.st.A4 c.st.x.got.length c.st.c4, .pointer P, .slice c.kA c.knows.length c.kc] 78)).cell? ⟨w1.heap.size, 10, none⟩ = some (.slice c.st.A4 c.st.x.got.length c.st.c4) := hb.cell 10
    have k11 : (w1.alloc (.cells #[.slice c.bk.A1 c.bk.b.own.length c.bk.c1, .slice c.bk.A2 c.bk.b.notes.length c.bk.c2, .int .i64 c.bk.b.locked, .int .i64 c.id, .int .i64 c.st.x.way, .int .i64 c.st.x.ver, .int .i64 c.st.x.want, .slice c.st.A1 c.st.x.sent.length c.st.c1, .slice c.st.A2 c.st.x.live.length c.st.c2, .slice c.st.A3 c.st.x.back.length c.st.c3, .slice c.st.A4 c.st.x.got.length c.st.c4, .pointer P, .slice c.kA c.knows.length c.kc] 78)).cell? ⟨w1.heap.size, 11, none⟩ = some (.pointer P) := hb.cell 11
    have k12 : (w1.alloc (.cells #[.slice c.bk.A1 c.bk.b.own.length c.bk.c1, .slice c.bk.A2 c.bk.b.notes.length c.bk.c2, .int .i64 c.bk.b.locked, .int .i64 c.id, .int .i64 c.st.x.way, .int .i64 c.st.x.ver, .int .i64 c.st.x.want, .slice c.st.A1 c.st.x.sent.length c.st.c1, .slice c.st.A2 c.st.x.live.length c.st.c2, .slice c.st.A3 c.st.x.back.length c.st.c3, .slice c.st.A4 c.st.x.got.length c.st.c4, .pointer P, .slice c.kA c.knows.length c.kc] 78)).cell? ⟨w1.heap.size, 12, none⟩ = some (.slice c.kA c.knows.length c.kc) := hb.cell 12
    have kf := hb.frozen 11
    clear hb
    go_wp2_with (go_at_call 57; refine (HC.out _ (Keeps.refl _ _)).mono ?_; rintro e w' ⟨rfl, rfl⟩)
    clear HC
    have HL := Lib.hid (lchain_any c P _ _ (lnk_of (HH.out.kept HK.out) HB.out HLK.out))
    unfold lkV at HL
    clear k0 k1 k2 k3 k4 k5 k6 k7 k8 k9 k10 k11 k12 kf
    refine HL.out.mono ?_
    rintro e w2 ⟨d, G, rfl, sm, ow, hk2⟩
    dsimp only [ChM.val]
    have hal := ((Keeps.refl noBlk w1).alloc (.cells #[.slice c.bk.A1 c.bk.b.own.length c.bk.c1, .slice c.bk.A2 c.bk.b.notes.length c.bk.c2, .int .i64 c.bk.b.locked, .int .i64 c.id, .int .i64 c.st.x.way, .int .i64 c.st.x.ver, .int .i64 c.st.x.want, .slice c.st.A1 c.st.x.sent.length c.st.c1, .slice c.st.A2 c.st.x.live.length c.st.c2, .slice c.st.A3 c.st.x.back.length c.st.c3, .slice c.st.A4 c.st.x.got.length c.st.c4, .pointer P, .slice c.kA c.knows.length c.kc] 78))
    have hr := HBr.out.keeps hk2 fun h => h
    clear HBr
    have HBr := Lib.hid hr
    clear hr
    have hq := HK.out.trans hk2
    clear HK
    have HK := Lib.hid hq
    clear hq
    have sz2 := hk2.size
    (try simp at sz2)
    have OW := Lib.hid ow
    have SM := Lib.hid sm
    clear ow sm hk2 hal
    have hb := HBr.out
    have r0 := hb.cell 0
    have r1 := hb.cell 1
    have r2 := hb.cell 2
    have r3 := hb.cell 3
    have r4 := hb.cell 4
    have r5 := hb.cell 5
    have r6 := hb.cell 6
    have r7 := hb.cell 7
    have r8 := hb.cell 8
    have r9 := hb.cell 9
    have r10 := hb.cell 10
    have r11 := hb.cell 11
    have r12 := hb.cell 12
    simp at r0 r1 r2 r3 r4 r5 r6 r7 r8 r9 r10 r11 r12
    have zr := hb.lt
    clear hb
    have hb := HBr.out
    have rf0 := hb.frozen 0
    have rf1 := hb.frozen 1
    have rf2 := hb.frozen 2
    have rf3 := hb.frozen 3
    have rf4 := hb.frozen 4
    have rf5 := hb.frozen 5
    have rf6 := hb.frozen 6
    have rf7 := hb.frozen 7
    have rf8 := hb.frozen 8
    have rf9 := hb.frozen 9
    have rf10 := hb.frozen 10
    have rf11 := hb.frozen 11
    have rf12 := hb.frozen 12
    clear hb
    go_wp2
    have hbF := (((((((((((((HBr.out.set_ 0 (.int .i64 d.id)).set_ 1 (.slice d.bk.A1 d.bk.b.own.length d.bk.c1)).set_ 2 (.slice d.bk.A2 d.bk.b.notes.length d.bk.c2)).set_ 3 (.int .i64 d.bk.b.locked)).set_ 4 (.int .i64 d.st.x.way)).set_ 5 (.int .i64 d.st.x.ver)).set_ 6 (.int .i64 d.st.x.want)).set_ 7 (.slice d.st.A1 d.st.x.sent.length d.st.c1)).set_ 8 (.slice d.st.A2 d.st.x.live.length d.st.c2)).set_ 9 (.slice d.st.A3 d.st.x.back.length d.st.c3)).set_ 10 (.slice d.st.A4 d.st.x.got.length d.st.c4)).set_ 11 (.slice d.pA d.past.length d.pc)).set_ 12 (.slice d.kA d.knows.length d.kc))
    simp only [List.setIfInBounds_toArray, List.set_cons_zero, List.set_cons_succ] at hbF
    have s10 := hbF.cell 0
    have s11 := hbF.cell 1
    have s12 := hbF.cell 2
    have s13 := hbF.cell 3
    have s14 := hbF.cell 4
    have s15 := hbF.cell 5
    have s16 := hbF.cell 6
    have s17 := hbF.cell 7
    have s18 := hbF.cell 8
    have s19 := hbF.cell 9
    have s20 := hbF.cell 10
    have s21 := hbF.cell 11
    have s22 := hbF.cell 12
    simp at s10 s11 s12 s13 s14 s15 s16 s17 s18 s19 s20 s21 s22
    clear hbF
    have kS : Keeps (fun b => b = w.heap.size + 1) w2 (((((((((((((w2.setCell ⟨w.heap.size + 1, 0, none⟩ (.int .i64 d.id)).setCell ⟨w.heap.size + 1, 1, none⟩ (.slice d.bk.A1 d.bk.b.own.length d.bk.c1)).setCell ⟨w.heap.size + 1, 2, none⟩ (.slice d.bk.A2 d.bk.b.notes.length d.bk.c2)).setCell ⟨w.heap.size + 1, 3, none⟩ (.int .i64 d.bk.b.locked)).setCell ⟨w.heap.size + 1, 4, none⟩ (.int .i64 d.st.x.way)).setCell ⟨w.heap.size + 1, 5, none⟩ (.int .i64 d.st.x.ver)).setCell ⟨w.heap.size + 1, 6, none⟩ (.int .i64 d.st.x.want)).setCell ⟨w.heap.size + 1, 7, none⟩ (.slice d.st.A1 d.st.x.sent.length d.st.c1)).setCell ⟨w.heap.size + 1, 8, none⟩ (.slice d.st.A2 d.st.x.live.length d.st.c2)).setCell ⟨w.heap.size + 1, 9, none⟩ (.slice d.st.A3 d.st.x.back.length d.st.c3)).setCell ⟨w.heap.size + 1, 10, none⟩ (.slice d.st.A4 d.st.x.got.length d.st.c4)).setCell ⟨w.heap.size + 1, 11, none⟩ (.slice d.pA d.past.length d.pc)).setCell ⟨w.heap.size + 1, 12, none⟩ (.slice d.kA d.knows.length d.kc)) := ((((((((((((((Keeps.refl (fun b => b = w.heap.size + 1) w2).setCell (p := ⟨w.heap.size + 1, 0, none⟩) (.inr rfl) (.int .i64 d.id)).setCell (p := ⟨w.heap.size + 1, 1, none⟩) (.inr rfl) (.slice d.bk.A1 d.bk.b.own.length d.bk.c1)).setCell (p := ⟨w.heap.size + 1, 2, none⟩) (.inr rfl) (.slice d.bk.A2 d.bk.b.notes.length d.bk.c2)).setCell (p := ⟨w.heap.size + 1, 3, none⟩) (.inr rfl) (.int .i64 d.bk.b.locked)).setCell (p := ⟨w.heap.size + 1, 4, none⟩) (.inr rfl) (.int .i64 d.st.x.way)).setCell (p := ⟨w.heap.size + 1, 5, none⟩) (.inr rfl) (.int .i64 d.st.x.ver)).setCell (p := ⟨w.heap.size + 1, 6, none⟩) (.inr rfl) (.int .i64 d.st.x.want)).setCell (p := ⟨w.heap.size + 1, 7, none⟩) (.inr rfl) (.slice d.st.A1 d.st.x.sent.length d.st.c1)).setCell (p := ⟨w.heap.size + 1, 8, none⟩) (.inr rfl) (.slice d.st.A2 d.st.x.live.length d.st.c2)).setCell (p := ⟨w.heap.size + 1, 9, none⟩) (.inr rfl) (.slice d.st.A3 d.st.x.back.length d.st.c3)).setCell (p := ⟨w.heap.size + 1, 10, none⟩) (.inr rfl) (.slice d.st.A4 d.st.x.got.length d.st.c4)).setCell (p := ⟨w.heap.size + 1, 11, none⟩) (.inr rfl) (.slice d.pA d.past.length d.pc)).setCell (p := ⟨w.heap.size + 1, 12, none⟩) (.inr rfl) (.slice d.kA d.knows.length d.kc))
    generalize (((((((((((((w2.setCell ⟨w.heap.size + 1, 0, none⟩ (.int .i64 d.id)).setCell ⟨w.heap.size + 1, 1, none⟩ (.slice d.bk.A1 d.bk.b.own.length d.bk.c1)).setCell ⟨w.heap.size + 1, 2, none⟩ (.slice d.bk.A2 d.bk.b.notes.length d.bk.c2)).setCell ⟨w.heap.size + 1, 3, none⟩ (.int .i64 d.bk.b.locked)).setCell ⟨w.heap.size + 1, 4, none⟩ (.int .i64 d.st.x.way)).setCell ⟨w.heap.size + 1, 5, none⟩ (.int .i64 d.st.x.ver)).setCell ⟨w.heap.size + 1, 6, none⟩ (.int .i64 d.st.x.want)).setCell ⟨w.heap.size + 1, 7, none⟩ (.slice d.st.A1 d.st.x.sent.length d.st.c1)).setCell ⟨w.heap.size + 1, 8, none⟩ (.slice d.st.A2 d.st.x.live.length d.st.c2)).setCell ⟨w.heap.size + 1, 9, none⟩ (.slice d.st.A3 d.st.x.back.length d.st.c3)).setCell ⟨w.heap.size + 1, 10, none⟩ (.slice d.st.A4 d.st.x.got.length d.st.c4)).setCell ⟨w.heap.size + 1, 11, none⟩ (.slice d.pA d.past.length d.pc)).setCell ⟨w.heap.size + 1, 12, none⟩ (.slice d.kA d.knows.length d.kc)) = WF at kS s10 s11 s12 s13 s14 s15 s16 s17 s18 s19 s20 s21 s22 ⊢
    refine bodyPost_ret (v := d.val) (by simp [results, Tryd.results30, go_sem, ChM.val, s10, s11, s12, s13, s14, s15, s16, s17, s18, s19, s20, s21, s22]) rfl ?_
    exact ⟨d, G, rfl, SM.out, ((OW.out.keeps kS fun b hb h => by have q := OW.out.ge hb; (try simp at q) <;> omega).less (by first | omega | (simp; omega))), HK.out.then kS fun i hi h => by omega⟩
  rw [show blkC c = { c with past := c.past ++ [c.st] } by unfold blkC; rw [if_pos hb, if_pos hn]]
  have hn' : (c.past.length : Int) < 90 := by omega
  have hrl : c.past.reverse.length ≤ 1000000 := by rw [List.length_reverse]; omega
  clear h hb ht
  unfold ChM.val
  unfold ChM.val at F
  go_enter Tryd.func30, Tryd.ntmps30
  go_wp2_with fail
  refine (F.out _ HK.out).mono ?_
  rintro e w1 ⟨P, rfl, hl9, hk1⟩
  unfold lkV
  have HLK := Lib.hid hl9
  clear hl9
  have ha := HBa.out.keeps hk1 (fun h => h)
  clear HBa
  have HBa := Lib.hid ha
  clear ha
  have hr := HBr.out.keeps hk1 (fun h => h)
  clear HBr
  have HBr := Lib.hid hr
  clear hr
  have hr := HK.out.trans hk1
  clear HK
  have HK := Lib.hid hr
  clear hr
  have sz1 := hk1.size
  (try simp at sz1)
  clear hk1
  have ha := HBa.out.alloc (.cells #[.slice c.bk.A1 c.bk.b.own.length c.bk.c1, .slice c.bk.A2 c.bk.b.notes.length c.bk.c2, .int .i64 c.bk.b.locked, .int .i64 c.id, .int .i64 c.st.x.way, .int .i64 c.st.x.ver, .int .i64 c.st.x.want, .slice c.st.A1 c.st.x.sent.length c.st.c1, .slice c.st.A2 c.st.x.live.length c.st.c2, .slice c.st.A3 c.st.x.back.length c.st.c3, .slice c.st.A4 c.st.x.got.length c.st.c4, .pointer P, .slice c.kA c.knows.length c.kc] 78)
  clear HBa
  have HBa := Lib.hid ha
  clear ha
  have hr := HBr.out.alloc (.cells #[.slice c.bk.A1 c.bk.b.own.length c.bk.c1, .slice c.bk.A2 c.bk.b.notes.length c.bk.c2, .int .i64 c.bk.b.locked, .int .i64 c.id, .int .i64 c.st.x.way, .int .i64 c.st.x.ver, .int .i64 c.st.x.want, .slice c.st.A1 c.st.x.sent.length c.st.c1, .slice c.st.A2 c.st.x.live.length c.st.c2, .slice c.st.A3 c.st.x.back.length c.st.c3, .slice c.st.A4 c.st.x.got.length c.st.c4, .pointer P, .slice c.kA c.knows.length c.kc] 78)
  clear HBr
  have HBr := Lib.hid hr
  clear hr
  have hr := Lk.kept (HLK.out) ((Keeps.refl noBlk w1).alloc (.cells #[.slice c.bk.A1 c.bk.b.own.length c.bk.c1, .slice c.bk.A2 c.bk.b.notes.length c.bk.c2, .int .i64 c.bk.b.locked, .int .i64 c.id, .int .i64 c.st.x.way, .int .i64 c.st.x.ver, .int .i64 c.st.x.want, .slice c.st.A1 c.st.x.sent.length c.st.c1, .slice c.st.A2 c.st.x.live.length c.st.c2, .slice c.st.A3 c.st.x.back.length c.st.c3, .slice c.st.A4 c.st.x.got.length c.st.c4, .pointer P, .slice c.kA c.knows.length c.kc] 78))
  clear HLK
  have HLK := Lib.hid hr
  clear hr
  have hr := HK.out.alloc (.cells #[.slice c.bk.A1 c.bk.b.own.length c.bk.c1, .slice c.bk.A2 c.bk.b.notes.length c.bk.c2, .int .i64 c.bk.b.locked, .int .i64 c.id, .int .i64 c.st.x.way, .int .i64 c.st.x.ver, .int .i64 c.st.x.want, .slice c.st.A1 c.st.x.sent.length c.st.c1, .slice c.st.A2 c.st.x.live.length c.st.c2, .slice c.st.A3 c.st.x.back.length c.st.c3, .slice c.st.A4 c.st.x.got.length c.st.c4, .pointer P, .slice c.kA c.knows.length c.kc] 78)
  clear HK
  have HK := Lib.hid hr
  clear hr
  have HBk := Lib.hid (Box.new w1 _ rfl 78 #[.slice c.bk.A1 c.bk.b.own.length c.bk.c1, .slice c.bk.A2 c.bk.b.notes.length c.bk.c2, .int .i64 c.bk.b.locked, .int .i64 c.id, .int .i64 c.st.x.way, .int .i64 c.st.x.ver, .int .i64 c.st.x.want, .slice c.st.A1 c.st.x.sent.length c.st.c1, .slice c.st.A2 c.st.x.live.length c.st.c2, .slice c.st.A3 c.st.x.back.length c.st.c3, .slice c.st.A4 c.st.x.got.length c.st.c4, .pointer P, .slice c.kA c.knows.length c.kc])
  have sz1' := HBk.out.lt
  have HC := Lib.hid (fun W (hk : Keeps noBlk (w1.alloc (.cells #[.slice c.bk.A1 c.bk.b.own.length c.bk.c1, .slice c.bk.A2 c.bk.b.notes.length c.bk.c2, .int .i64 c.bk.b.locked, .int .i64 c.id, .int .i64 c.st.x.way, .int .i64 c.st.x.ver, .int .i64 c.st.x.want, .slice c.st.A1 c.st.x.sent.length c.st.c1, .slice c.st.A2 c.st.x.live.length c.st.c2, .slice c.st.A3 c.st.x.back.length c.st.c3, .slice c.st.A4 c.st.x.got.length c.st.c4, .pointer P, .slice c.kA c.knows.length c.kc] 78)) W) => (show Calls Tryd.prog 57 #[.pointer P] W (fun e w' => e = .returned (.int .i64 (c.past.length : Int)) ∧ W = w') from by have q := count_any P _ _ W (HLK.out.kept hk); rwa [List.length_reverse] at q))
  have hb := HBk.out
  have k0 : (w1.alloc (.cells #[.slice c.bk.A1 c.bk.b.own.length c.bk.c1, .slice c.bk.A2 c.bk.b.notes.length c.bk.c2, .int .i64 c.bk.b.locked, .int .i64 c.id, .int .i64 c.st.x.way, .int .i64 c.st.x.ver, .int .i64 c.st.x.want, .slice c.st.A1 c.st.x.sent.length c.st.c1, .slice c.st.A2 c.st.x.live.length c.st.c2, .slice c.st.A3 c.st.x.back.length c.st.c3, .slice c.st.A4 c.st.x.got.length c.st.c4, .pointer P, .slice c.kA c.knows.length c.kc] 78)).cell? ⟨w1.heap.size, 0, none⟩ = some (.slice c.bk.A1 c.bk.b.own.length c.bk.c1) := hb.cell 0
  have k1 : (w1.alloc (.cells #[.slice c.bk.A1 c.bk.b.own.length c.bk.c1, .slice c.bk.A2 c.bk.b.notes.length c.bk.c2, .int .i64 c.bk.b.locked, .int .i64 c.id, .int .i64 c.st.x.way, .int .i64 c.st.x.ver, .int .i64 c.st.x.want, .slice c.st.A1 c.st.x.sent.length c.st.c1, .slice c.st.A2 c.st.x.live.length c.st.c2, .slice c.st.A3 c.st.x.back.length c.st.c3, .slice c.st.A4 c.st.x.got.length c.st.c4, .pointer P, .slice c.kA c.knows.length c.kc] 78)).cell? ⟨w1.heap.size, 1, none⟩ = some (.slice c.bk.A2 c.bk.b.notes.length c.bk.c2) := hb.cell 1
  have k2 : (w1.alloc (.cells #[.slice c.bk.A1 c.bk.b.own.length c.bk.c1, .slice c.bk.A2 c.bk.b.notes.length c.bk.c2, .int .i64 c.bk.b.locked, .int .i64 c.id, .int .i64 c.st.x.way, .int .i64 c.st.x.ver, .int .i64 c.st.x.want, .slice c.st.A1 c.st.x.sent.length c.st.c1, .slice c.st.A2 c.st.x.live.length c.st.c2, .slice c.st.A3 c.st.x.back.length c.st.c3, .slice c.st.A4 c.st.x.got.length c.st.c4, .pointer P, .slice c.kA c.knows.length c.kc] 78)).cell? ⟨w1.heap.size, 2, none⟩ = some (.int .i64 c.bk.b.locked) := hb.cell 2
  have k3 : (w1.alloc (.cells #[.slice c.bk.A1 c.bk.b.own.length c.bk.c1, .slice c.bk.A2 c.bk.b.notes.length c.bk.c2, .int .i64 c.bk.b.locked, .int .i64 c.id, .int .i64 c.st.x.way, .int .i64 c.st.x.ver, .int .i64 c.st.x.want, .slice c.st.A1 c.st.x.sent.length c.st.c1, .slice c.st.A2 c.st.x.live.length c.st.c2, .slice c.st.A3 c.st.x.back.length c.st.c3, .slice c.st.A4 c.st.x.got.length c.st.c4, .pointer P, .slice c.kA c.knows.length c.kc] 78)).cell? ⟨w1.heap.size, 3, none⟩ = some (.int .i64 c.id) := hb.cell 3
  have k4 : (w1.alloc (.cells #[.slice c.bk.A1 c.bk.b.own.length c.bk.c1, .slice c.bk.A2 c.bk.b.notes.length c.bk.c2, .int .i64 c.bk.b.locked, .int .i64 c.id, .int .i64 c.st.x.way, .int .i64 c.st.x.ver, .int .i64 c.st.x.want, .slice c.st.A1 c.st.x.sent.length c.st.c1, .slice c.st.A2 c.st.x.live.length c.st.c2, .slice c.st.A3 c.st.x.back.length c.st.c3, .slice c.st.A4 c.st.x.got.length c.st.c4, .pointer P, .slice c.kA c.knows.length c.kc] 78)).cell? ⟨w1.heap.size, 4, none⟩ = some (.int .i64 c.st.x.way) := hb.cell 4
  have k5 : (w1.alloc (.cells #[.slice c.bk.A1 c.bk.b.own.length c.bk.c1, .slice c.bk.A2 c.bk.b.notes.length c.bk.c2, .int .i64 c.bk.b.locked, .int .i64 c.id, .int .i64 c.st.x.way, .int .i64 c.st.x.ver, .int .i64 c.st.x.want, .slice c.st.A1 c.st.x.sent.length c.st.c1, .slice c.st.A2 c.st.x.live.length c.st.c2, .slice c.st.A3 c.st.x.back.length c.st.c3, .slice c.st.A4 c.st.x.got.length c.st.c4, .pointer P, .slice c.kA c.knows.length c.kc] 78)).cell? ⟨w1.heap.size, 5, none⟩ = some (.int .i64 c.st.x.ver) := hb.cell 5
  have k6 : (w1.alloc (.cells #[.slice c.bk.A1 c.bk.b.own.length c.bk.c1, .slice c.bk.A2 c.bk.b.notes.length c.bk.c2, .int .i64 c.bk.b.locked, .int .i64 c.id, .int .i64 c.st.x.way, .int .i64 c.st.x.ver, .int .i64 c.st.x.want, .slice c.st.A1 c.st.x.sent.length c.st.c1, .slice c.st.A2 c.st.x.live.length c.st.c2, .slice c.st.A3 c.st.x.back.length c.st.c3, .slice c.st.A4 c.st.x.got.length c.st.c4, .pointer P, .slice c.kA c.knows.length c.kc] 78)).cell? ⟨w1.heap.size, 6, none⟩ = some (.int .i64 c.st.x.want) := hb.cell 6
  have k7 : (w1.alloc (.cells #[.slice c.bk.A1 c.bk.b.own.length c.bk.c1, .slice c.bk.A2 c.bk.b.notes.length c.bk.c2, .int .i64 c.bk.b.locked, .int .i64 c.id, .int .i64 c.st.x.way, .int .i64 c.st.x.ver, .int .i64 c.st.x.want, .slice c.st.A1 c.st.x.sent.length c.st.c1, .slice c.st.A2 c.st.x.live.length c.st.c2, .slice c.st.A3 c.st.x.back.length c.st.c3, .slice c.st.A4 c.st.x.got.length c.st.c4, .pointer P, .slice c.kA c.knows.length c.kc] 78)).cell? ⟨w1.heap.size, 7, none⟩ = some (.slice c.st.A1 c.st.x.sent.length c.st.c1) := hb.cell 7
  have k8 : (w1.alloc (.cells #[.slice c.bk.A1 c.bk.b.own.length c.bk.c1, .slice c.bk.A2 c.bk.b.notes.length c.bk.c2, .int .i64 c.bk.b.locked, .int .i64 c.id, .int .i64 c.st.x.way, .int .i64 c.st.x.ver, .int .i64 c.st.x.want, .slice c.st.A1 c.st.x.sent.length c.st.c1, .slice c.st.A2 c.st.x.live.length c.st.c2, .slice c.st.A3 c.st.x.back.length c.st.c3, .slice c.st.A4 c.st.x.got.length c.st.c4, .pointer P, .slice c.kA c.knows.length c.kc] 78)).cell? ⟨w1.heap.size, 8, none⟩ = some (.slice c.st.A2 c.st.x.live.length c.st.c2) := hb.cell 8
  have k9 : (w1.alloc (.cells #[.slice c.bk.A1 c.bk.b.own.length c.bk.c1, .slice c.bk.A2 c.bk.b.notes.length c.bk.c2, .int .i64 c.bk.b.locked, .int .i64 c.id, .int .i64 c.st.x.way, .int .i64 c.st.x.ver, .int .i64 c.st.x.want, .slice c.st.A1 c.st.x.sent.length c.st.c1, .slice c.st.A2 c.st.x.live.length c.st.c2, .slice c.st.A3 c.st.x.back.length c.st.c3, .slice c.st.A4 c.st.x.got.length c.st.c4, .pointer P, .slice c.kA c.knows.length c.kc] 78)).cell? ⟨w1.heap.size, 9, none⟩ = some (.slice c.st.A3 c.st.x.back.length c.st.c3) := hb.cell 9
  have k10 : (w1.alloc (.cells #[.slice c.bk.A1 c.bk.b.own.length c.bk.c1, .slice c.bk.A2 c.bk.b.notes.length c.bk.c2, .int .i64 c.bk.b.locked, .int .i64 c.id, .int .i64 c.st.x.way, .int .i64 c.st.x.ver, .int .i64 c.st.x.want, .slice c.st.A1 c.st.x.sent.length c.st.c1, .slice c.st.A2 c.st.x.live.length c.st.c2, .slice c.st.A3 c.st.x.back.length c.st.c3, .slice c.st.A4 c.st.x.got.length c.st.c4, .pointer P, .slice c.kA c.knows.length c.kc] 78)).cell? ⟨w1.heap.size, 10, none⟩ = some (.slice c.st.A4 c.st.x.got.length c.st.c4) := hb.cell 10
  have k11 : (w1.alloc (.cells #[.slice c.bk.A1 c.bk.b.own.length c.bk.c1, .slice c.bk.A2 c.bk.b.notes.length c.bk.c2, .int .i64 c.bk.b.locked, .int .i64 c.id, .int .i64 c.st.x.way, .int .i64 c.st.x.ver, .int .i64 c.st.x.want, .slice c.st.A1 c.st.x.sent.length c.st.c1, .slice c.st.A2 c.st.x.live.length c.st.c2, .slice c.st.A3 c.st.x.back.length c.st.c3, .slice c.st.A4 c.st.x.got.length c.st.c4, .pointer P, .slice c.kA c.knows.length c.kc] 78)).cell? ⟨w1.heap.size, 11, none⟩ = some (.pointer P) := hb.cell 11
  have k12 : (w1.alloc (.cells #[.slice c.bk.A1 c.bk.b.own.length c.bk.c1, .slice c.bk.A2 c.bk.b.notes.length c.bk.c2, .int .i64 c.bk.b.locked, .int .i64 c.id, .int .i64 c.st.x.way, .int .i64 c.st.x.ver, .int .i64 c.st.x.want, .slice c.st.A1 c.st.x.sent.length c.st.c1, .slice c.st.A2 c.st.x.live.length c.st.c2, .slice c.st.A3 c.st.x.back.length c.st.c3, .slice c.st.A4 c.st.x.got.length c.st.c4, .pointer P, .slice c.kA c.knows.length c.kc] 78)).cell? ⟨w1.heap.size, 12, none⟩ = some (.slice c.kA c.knows.length c.kc) := hb.cell 12
  have kf := hb.frozen 11
  clear hb
  go_wp2_with (go_at_call 57; refine (HC.out _ (Keeps.refl _ _)).mono ?_; rintro e w' ⟨rfl, rfl⟩)
  clear HC
  have FT := Lib.hid (then_any P _ c.st _ _ HLK.out (by first | omega | (simp; omega)) hrl)
  unfold StM.val at FT
  refine FT.out.mono ?_
  rintro e w2 ⟨R, rfl, hl9, hk2⟩
  clear k0 k1 k2 k3 k4 k5 k6 k7 k8 k9 k10 k11 k12 kf HLK FT
  have ha := HBa.out.keeps hk2 (fun h => h)
  clear HBa
  have HBa := Lib.hid ha
  clear ha
  have hr := HBr.out.keeps hk2 (fun h => h)
  clear HBr
  have HBr := Lib.hid hr
  clear hr
  have hk := HBk.out.keeps hk2 (fun h => h)
  clear HBk
  have HBk := Lib.hid hk
  clear hk
  have hr := HK.out.trans hk2
  clear HK
  have HK := Lib.hid hr
  clear hr
  have sz2 := hk2.size
  (try simp at sz2)
  clear hk2
  have HLK := Lib.hid hl9
  clear hl9
  have hb := HBk.out
  have k0 := hb.cell 0
  have k1 := hb.cell 1
  have k2 := hb.cell 2
  have k3 := hb.cell 3
  have k4 := hb.cell 4
  have k5 := hb.cell 5
  have k6 := hb.cell 6
  have k7 := hb.cell 7
  have k8 := hb.cell 8
  have k9 := hb.cell 9
  have k10 := hb.cell 10
  have k11 := hb.cell 11
  have k12 := hb.cell 12
  simp at k0 k1 k2 k3 k4 k5 k6 k7 k8 k9 k10 k11 k12
  have zk := hb.lt
  clear hb
  have kf := HBk.out.frozen 11
  have kt := Lib.hid ((Keeps.refl (fun b => b = w1.heap.size) w2).setCell (p := ⟨w1.heap.size, 11, none⟩) (.inr rfl) (.pointer R))
  have hr := HBr.out.keeps kt.out fun h => by omega
  clear HBr
  have HBr := Lib.hid hr
  clear hr
  have HLK2 := Lib.hid (Lk.other kt.out HBk.out HLK.out)
  have hq := HK.out.then kt.out fun i hi h => by omega
  clear HK
  have HK := Lib.hid hq
  clear hq
  have sz3 := kt.out.size
  have zz : (w2.setCell ⟨w1.heap.size, 11, none⟩ (.pointer R)).heap.size = w2.heap.size := by simp [World.setCell]
  go_wp2_with fail
  clear k0 k1 k2 k3 k4 k5 k6 k7 k8 k9 k10 k11 k12 kf zk
  clear kt HLK HBk
  generalize w2.setCell ⟨w1.heap.size, 11, none⟩ (.pointer R) = w3 at *
  have HL := Lib.hid (lchain_any { c with past := c.past ++ [c.st] } R _ w3 (lnk_more (HH.out.kept HK.out) HB.out HLK2.out))
  unfold lkV at HL
  refine HL.out.mono ?_
  rintro e w4 ⟨d, G, rfl, sm, ow, hk4⟩
  dsimp only [ChM.val]
  have hr := HBr.out.keeps hk4 fun h => h
  clear HBr
  have HBr := Lib.hid hr
  clear hr
  have hq := HK.out.trans hk4
  clear HK
  have HK := Lib.hid hq
  clear hq
  have sz4 := hk4.size
  have OW := Lib.hid ow
  have SM := Lib.hid sm
  clear ow sm hk4
  have hb := HBr.out
  have r0 := hb.cell 0
  have r1 := hb.cell 1
  have r2 := hb.cell 2
  have r3 := hb.cell 3
  have r4 := hb.cell 4
  have r5 := hb.cell 5
  have r6 := hb.cell 6
  have r7 := hb.cell 7
  have r8 := hb.cell 8
  have r9 := hb.cell 9
  have r10 := hb.cell 10
  have r11 := hb.cell 11
  have r12 := hb.cell 12
  simp at r0 r1 r2 r3 r4 r5 r6 r7 r8 r9 r10 r11 r12
  have zr := hb.lt
  clear hb
  have hb := HBr.out
  have rf0 := hb.frozen 0
  have rf1 := hb.frozen 1
  have rf2 := hb.frozen 2
  have rf3 := hb.frozen 3
  have rf4 := hb.frozen 4
  have rf5 := hb.frozen 5
  have rf6 := hb.frozen 6
  have rf7 := hb.frozen 7
  have rf8 := hb.frozen 8
  have rf9 := hb.frozen 9
  have rf10 := hb.frozen 10
  have rf11 := hb.frozen 11
  have rf12 := hb.frozen 12
  clear hb
  go_wp2
  have hbF := (((((((((((((HBr.out.set_ 0 (.int .i64 d.id)).set_ 1 (.slice d.bk.A1 d.bk.b.own.length d.bk.c1)).set_ 2 (.slice d.bk.A2 d.bk.b.notes.length d.bk.c2)).set_ 3 (.int .i64 d.bk.b.locked)).set_ 4 (.int .i64 d.st.x.way)).set_ 5 (.int .i64 d.st.x.ver)).set_ 6 (.int .i64 d.st.x.want)).set_ 7 (.slice d.st.A1 d.st.x.sent.length d.st.c1)).set_ 8 (.slice d.st.A2 d.st.x.live.length d.st.c2)).set_ 9 (.slice d.st.A3 d.st.x.back.length d.st.c3)).set_ 10 (.slice d.st.A4 d.st.x.got.length d.st.c4)).set_ 11 (.slice d.pA d.past.length d.pc)).set_ 12 (.slice d.kA d.knows.length d.kc))
  simp only [List.setIfInBounds_toArray, List.set_cons_zero, List.set_cons_succ] at hbF
  have s10 := hbF.cell 0
  have s11 := hbF.cell 1
  have s12 := hbF.cell 2
  have s13 := hbF.cell 3
  have s14 := hbF.cell 4
  have s15 := hbF.cell 5
  have s16 := hbF.cell 6
  have s17 := hbF.cell 7
  have s18 := hbF.cell 8
  have s19 := hbF.cell 9
  have s20 := hbF.cell 10
  have s21 := hbF.cell 11
  have s22 := hbF.cell 12
  simp at s10 s11 s12 s13 s14 s15 s16 s17 s18 s19 s20 s21 s22
  clear hbF
  have kS : Keeps (fun b => b = w.heap.size + 1) w4 (((((((((((((w4.setCell ⟨w.heap.size + 1, 0, none⟩ (.int .i64 d.id)).setCell ⟨w.heap.size + 1, 1, none⟩ (.slice d.bk.A1 d.bk.b.own.length d.bk.c1)).setCell ⟨w.heap.size + 1, 2, none⟩ (.slice d.bk.A2 d.bk.b.notes.length d.bk.c2)).setCell ⟨w.heap.size + 1, 3, none⟩ (.int .i64 d.bk.b.locked)).setCell ⟨w.heap.size + 1, 4, none⟩ (.int .i64 d.st.x.way)).setCell ⟨w.heap.size + 1, 5, none⟩ (.int .i64 d.st.x.ver)).setCell ⟨w.heap.size + 1, 6, none⟩ (.int .i64 d.st.x.want)).setCell ⟨w.heap.size + 1, 7, none⟩ (.slice d.st.A1 d.st.x.sent.length d.st.c1)).setCell ⟨w.heap.size + 1, 8, none⟩ (.slice d.st.A2 d.st.x.live.length d.st.c2)).setCell ⟨w.heap.size + 1, 9, none⟩ (.slice d.st.A3 d.st.x.back.length d.st.c3)).setCell ⟨w.heap.size + 1, 10, none⟩ (.slice d.st.A4 d.st.x.got.length d.st.c4)).setCell ⟨w.heap.size + 1, 11, none⟩ (.slice d.pA d.past.length d.pc)).setCell ⟨w.heap.size + 1, 12, none⟩ (.slice d.kA d.knows.length d.kc)) := ((((((((((((((Keeps.refl (fun b => b = w.heap.size + 1) w4).setCell (p := ⟨w.heap.size + 1, 0, none⟩) (.inr rfl) (.int .i64 d.id)).setCell (p := ⟨w.heap.size + 1, 1, none⟩) (.inr rfl) (.slice d.bk.A1 d.bk.b.own.length d.bk.c1)).setCell (p := ⟨w.heap.size + 1, 2, none⟩) (.inr rfl) (.slice d.bk.A2 d.bk.b.notes.length d.bk.c2)).setCell (p := ⟨w.heap.size + 1, 3, none⟩) (.inr rfl) (.int .i64 d.bk.b.locked)).setCell (p := ⟨w.heap.size + 1, 4, none⟩) (.inr rfl) (.int .i64 d.st.x.way)).setCell (p := ⟨w.heap.size + 1, 5, none⟩) (.inr rfl) (.int .i64 d.st.x.ver)).setCell (p := ⟨w.heap.size + 1, 6, none⟩) (.inr rfl) (.int .i64 d.st.x.want)).setCell (p := ⟨w.heap.size + 1, 7, none⟩) (.inr rfl) (.slice d.st.A1 d.st.x.sent.length d.st.c1)).setCell (p := ⟨w.heap.size + 1, 8, none⟩) (.inr rfl) (.slice d.st.A2 d.st.x.live.length d.st.c2)).setCell (p := ⟨w.heap.size + 1, 9, none⟩) (.inr rfl) (.slice d.st.A3 d.st.x.back.length d.st.c3)).setCell (p := ⟨w.heap.size + 1, 10, none⟩) (.inr rfl) (.slice d.st.A4 d.st.x.got.length d.st.c4)).setCell (p := ⟨w.heap.size + 1, 11, none⟩) (.inr rfl) (.slice d.pA d.past.length d.pc)).setCell (p := ⟨w.heap.size + 1, 12, none⟩) (.inr rfl) (.slice d.kA d.knows.length d.kc))
  generalize (((((((((((((w4.setCell ⟨w.heap.size + 1, 0, none⟩ (.int .i64 d.id)).setCell ⟨w.heap.size + 1, 1, none⟩ (.slice d.bk.A1 d.bk.b.own.length d.bk.c1)).setCell ⟨w.heap.size + 1, 2, none⟩ (.slice d.bk.A2 d.bk.b.notes.length d.bk.c2)).setCell ⟨w.heap.size + 1, 3, none⟩ (.int .i64 d.bk.b.locked)).setCell ⟨w.heap.size + 1, 4, none⟩ (.int .i64 d.st.x.way)).setCell ⟨w.heap.size + 1, 5, none⟩ (.int .i64 d.st.x.ver)).setCell ⟨w.heap.size + 1, 6, none⟩ (.int .i64 d.st.x.want)).setCell ⟨w.heap.size + 1, 7, none⟩ (.slice d.st.A1 d.st.x.sent.length d.st.c1)).setCell ⟨w.heap.size + 1, 8, none⟩ (.slice d.st.A2 d.st.x.live.length d.st.c2)).setCell ⟨w.heap.size + 1, 9, none⟩ (.slice d.st.A3 d.st.x.back.length d.st.c3)).setCell ⟨w.heap.size + 1, 10, none⟩ (.slice d.st.A4 d.st.x.got.length d.st.c4)).setCell ⟨w.heap.size + 1, 11, none⟩ (.slice d.pA d.past.length d.pc)).setCell ⟨w.heap.size + 1, 12, none⟩ (.slice d.kA d.knows.length d.kc)) = WF at kS s10 s11 s12 s13 s14 s15 s16 s17 s18 s19 s20 s21 s22 ⊢
  refine bodyPost_ret (v := d.val) (by simp [results, Tryd.results30, go_sem, ChM.val, s10, s11, s12, s13, s14, s15, s16, s17, s18, s19, s20, s21, s22]) rfl ?_
  exact ⟨d, G, rfl, SM.out, ((OW.out.keeps kS fun b hb h => by have q := OW.out.ge hb; (try simp at q) <;> omega).less (by first | omega | (simp; omega))), HK.out.then kS fun i hi h => by omega⟩
end Go.Proofs.YtcnbephpadmboaaDoor
