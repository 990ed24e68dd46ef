/- spec.ChainNew, impl.ChainNew. -/
import Derived.Test.YtbgpclicflafaaaDoorCxU
import Derived.Test.YtbgpclicflafaaaDoorCxL
import Derived.Test.YtbgpclicflafaaaDoorNew
import Derived.Test.YtbgpclicflafaaaDoorUEM
import Derived.Test.YtbgpclicflafaaaDoorCxO
set_option linter.unusedVariables false
set_option linter.unusedSimpArgs false
namespace Go.Proofs.YtbgpclicflafaaaDoor
open Go.RowKit

def bk0 : BkM := ⟨⟨[], [], 0⟩, none, none, 0, 0⟩
/-- The zero value. -/
def ch0 : ChM := ⟨0, bk0, stm0, [], none, 0, [], none, 0⟩
theorem st0_own (w : World) (lo : Nat) : stm0.Own w lo :=
  ⟨lo, lo, lo, ⟨PRow.nil _ _ _, BRow.nil _ _ _, BRow.nil _ _ _, Row.nil _ _ _⟩, fun _ h => absurd h.1 (by decide), fun _ h => absurd h.1 (by decide), fun _ h => absurd h.1 (by decide), Nat.le_refl _, Nat.le_refl _, Nat.le_refl _⟩
theorem st0_bl {b : Nat} (h : stm0.bl b) : False := by
  rcases h with h | h | h | h <;> exact absurd h.1 (by decide)
theorem ch0_own (w : World) (lo : Nat) : ChOwn (fun _ => 0) w lo ch0 :=
  ⟨Row.nil _ _ _, fun _ h => absurd h.1 (by decide), Row.nil _ _ _, fun _ h => absurd h.1 (by decide), st0_own w lo, fun _ h => (st0_bl h).elim, SRow.nil _ _ _, fun _ h => absurd h.1 (by decide), fun i h => absurd h (Nat.not_lt_zero i), Row.nil _ _ _, fun _ h => absurd h.1 (by decide),
    by decide, by decide, by decide, by decide, ⟨by decide, by decide, by decide, by decide⟩, fun i h => absurd h (Nat.not_lt_zero i)⟩
/-- A chain at the beginning; the zero value if there is no such. -/
def newC (id : Int) : ChM := if in2 id 1 2 then ⟨id, ⟨newL, none, none, 0, 0⟩, ⟨newS, none, none, none, none, 0, 0, 0, 0⟩, [], none, 0, [], none, 0⟩ else ch0
theorem newC_yes {id : Int} (h : in2 id 1 2 = true) : newC id = ⟨id, ⟨newL, none, none, 0, 0⟩, ⟨newS, none, none, none, none, 0, 0, 0, 0⟩, [], none, 0, [], none, 0⟩ := by unfold newC; rw [if_pos h]
theorem newC_no {id : Int} (h : in2 id 1 2 = false) : newC id = ch0 := by unfold newC; rw [if_neg (by rw [h]; decide)]
/-- A chain of a new bank and a new state, and no heights. -/
theorem new_own {w : World} {lo l1 h1 l3 h3 : Nat} {id : Int} {A1 A2 B1 B2 B3 B4 pA kA : Option Addr} {k1 k2 d1 d2 d3 d4 pc kc : Nat} (Ro : RowB w l1 h1 A1 3 newL.own) (Rn : RowB w l1 h1 A2 3 newL.notes) (dis : ∀ b, blk A1 3 b → ¬ blk A2 3 b)
    (Rs : StB w l3 h3 ⟨newS, B1, B2, B3, B4, d1, d2, d3, d4⟩) (e13 : h1 ≤ l3) (o1 : lo ≤ l1) (o3 : lo ≤ l3) : ∃ G, ChOwn G w lo ⟨id, ⟨newL, A1, A2, k1, k2⟩, ⟨newS, B1, B2, B3, B4, d1, d2, d3, d4⟩, [], pA, pc, [], kA, kc⟩ :=
  own_of _ Ro Rn Rs (l4 := lo) (h4 := lo) (l5 := lo) (h5 := lo) ⟨SRow.nil _ _ _, fun G => ⟨G, fun _ _ => rfl, fun _ h => absurd h.1 (Nat.lt_irrefl 0), fun i h => absurd h (Nat.not_lt_zero i)⟩, fun _ h => absurd h.1 (Nat.lt_irrefl 0), fun i h => absurd h (Nat.not_lt_zero i)⟩
    ⟨Row.nil _ _ _, fun _ h => absurd h.1 (Nat.lt_irrefl 0)⟩ dis (.inl e13) (.inr o1) (.inr o1) (.inl e13) (.inr o1) (.inr o1) (.inr o3) (.inr o3) (.inl (Nat.le_refl _)) o1 o1 o3 (Nat.le_refl _) (Nat.le_refl _)
    (show newL.own.length ≤ maxLen by decide) (show newL.notes.length ≤ maxLen by decide) (Nat.zero_le _) (Nat.zero_le _) ⟨Nat.zero_le _, Nat.zero_le _, Nat.zero_le _, show newS.got.length ≤ maxLen by decide⟩ fun i h => absurd h (Nat.not_lt_zero i)

set_option maxRecDepth 100000 in
set_option maxHeartbeats 4000000 in
theorem specNewC_any (id : Int) (w : World) : Calls Tryd.prog 162 #[.int .i64 id] w (RetC (fun v => .tuple #[v, .bool (in2 id 1 2)]) w (newC id)) := by
  have F0 := Lib.hid (fun W => (show Calls Tryd.prog 54 #[.int .i64 id, .int .i64 1, .int .i64 2] W (fun e w' => e = .returned (.bool (in2 id 1 2)) ∧ W = w') from l6In_any id 1 2 W))
  have HBr := Lib.hid (Box.new w _ rfl 40 #[.int .i64 0, .slice none 0 0, .slice none 0 0, .int .i64 0, .int .i64 0, .int .i64 0, .int .i64 0, .slice none 0 0, .slice none 0 0, .slice none 0 0, .slice none 0 0, .slice none 0 0, .slice none 0 0])
  have HK := Lib.hid ((Keeps.refl noBlk w).alloc (.cells #[.int .i64 0, .slice none 0 0, .slice none 0 0, .int .i64 0, .int .i64 0, .int .i64 0, .int .i64 0, .slice none 0 0, .slice none 0 0, .slice none 0 0, .slice none 0 0, .slice none 0 0, .slice none 0 0] 40))
  rcases Bool.eq_false_or_eq_true (in2 id 1 2) with hi | hi
  · rw [newC_yes hi]
    rw [hi] at F0 ⊢
    have HB := Lib.hid (specNew_any)
    have HS := Lib.hid (specNewS_any)
    clear hi
    go_enter Tryd.func162, Tryd.ntmps162
    go_wp2_with (go_at_call 54; refine (F0.out _).mono ?_; rintro e w' ⟨rfl, rfl⟩)
    refine (HB.out _).mono ?_
    rintro e w1 ⟨v, rfl, ⟨a1, n1, k1, a2, n2, k2, rfl, hro, hrn, hdis, _, _, _, _⟩, hk1⟩
    obtain rfl : 3 = n1 := hro.1.1
    obtain rfl : 3 = n2 := hrn.1.1
    have hb := HBr.out.keeps hk1 (fun h => h)
    clear HBr
    have HBr := Lib.hid hb
    clear hb
    have RO := Lib.hid (RowB.mk' hro)
    have RN := Lib.hid (RowB.mk' hrn)
    have DIS := Lib.hid hdis
    have s1 := hk1.size
    have HK1 := Lib.hid (HK.out.trans hk1)
    clear hro hrn hdis hk1 HK
    go_wp2_with fail
    refine (HS.out _).mono ?_
    rintro e w2 ⟨B1, B2, B3, B4, d1, d2, d3, d4, rfl, hst, hk2⟩
    have hb := HBr.out.keeps hk2 (fun h => h)
    have s2 := hk2.size
    have r0 := hb.lt
    have r1 := hb.cell 0
    have f1 := hb.frozen 0
    have r2 := hb.cell 1
    have f2 := hb.frozen 1
    have r3 := hb.cell 2
    have f3 := hb.frozen 2
    have r4 := hb.cell 3
    have f4 := hb.frozen 3
    have r5 := hb.cell 4
    have f5 := hb.frozen 4
    have r6 := hb.cell 5
    have f6 := hb.frozen 5
    have r7 := hb.cell 6
    have f7 := hb.frozen 6
    have r8 := hb.cell 7
    have f8 := hb.frozen 7
    have r9 := hb.cell 8
    have f9 := hb.frozen 8
    have r10 := hb.cell 9
    have f10 := hb.frozen 9
    have r11 := hb.cell 10
    have f11 := hb.frozen 10
    have r12 := hb.cell 11
    have f12 := hb.frozen 11
    have r13 := hb.cell 12
    have f13 := hb.frozen 12
    simp at r1 r2 r3 r4 r5 r6 r7 r8 r9 r10 r11 r12 r13
    clear HBr
    have HBX := Lib.hid hb
    clear hb
    have RO2 := Lib.hid (RO.out.kept hk2)
    have RN2 := Lib.hid (RN.out.kept hk2)
    have RS := Lib.hid (StB.mk' (s := ⟨newS, B1, B2, B3, B4, d1, d2, d3, d4⟩) hst)
    have HK2 := Lib.hid (HK1.out.trans hk2)
    clear hst hk2 RO RN HK1
    unfold stV
    go_wp2
    have hbF := (((((((((((((((HBX.out.set_ 0 (.int .i64 id)).set_ 1 (.slice a1 3 k1)).set_ 2 (.slice a2 3 k2)).set_ 3 (.int .i64 newL.locked)).set_ 4 (.int .i64 newS.way)).set_ 5 (.int .i64 newS.ver)).set_ 6 (.int .i64 newS.want)).set_ 7 (.slice B1 newS.sent.length d1)).set_ 8 (.slice B2 newS.live.length d2)).set_ 9 (.slice B3 newS.back.length d3)).set_ 10 (.slice B4 newS.got.length d4)).set_ 11 (.slice (some ⟨w2.heap.size, 0, none⟩) 0 0)).set_ 12 (.slice (some ⟨w2.heap.size + 1, 0, none⟩) 0 0)).alloc (.cells #[] 37)).alloc (.cells #[] 3))
    simp only [List.setIfInBounds_toArray, List.set_cons_zero, List.set_cons_succ] at hbF
    have s10 := hbF.cell 0
    have s11 := hbF.cell 1
    have s12 := hbF.cell 2
    have s13 := hbF.cell 3
    have s14 := hbF.cell 4
    have s15 := hbF.cell 5
    have s16 := hbF.cell 6
    have s17 := hbF.cell 7
    have s18 := hbF.cell 8
    have s19 := hbF.cell 9
    have s20 := hbF.cell 10
    have s21 := hbF.cell 11
    have s22 := hbF.cell 12
    simp at s10 s11 s12 s13 s14 s15 s16 s17 s18 s19 s20 s21 s22
    clear hbF
    have kS : Keeps (fun b => b = w.heap.size) w2 (((((((((((((((w2.setCell ⟨w.heap.size, 0, none⟩ (.int .i64 id)).setCell ⟨w.heap.size, 1, none⟩ (.slice a1 3 k1)).setCell ⟨w.heap.size, 2, none⟩ (.slice a2 3 k2)).setCell ⟨w.heap.size, 3, none⟩ (.int .i64 newL.locked)).setCell ⟨w.heap.size, 4, none⟩ (.int .i64 newS.way)).setCell ⟨w.heap.size, 5, none⟩ (.int .i64 newS.ver)).setCell ⟨w.heap.size, 6, none⟩ (.int .i64 newS.want)).setCell ⟨w.heap.size, 7, none⟩ (.slice B1 newS.sent.length d1)).setCell ⟨w.heap.size, 8, none⟩ (.slice B2 newS.live.length d2)).setCell ⟨w.heap.size, 9, none⟩ (.slice B3 newS.back.length d3)).setCell ⟨w.heap.size, 10, none⟩ (.slice B4 newS.got.length d4)).setCell ⟨w.heap.size, 11, none⟩ (.slice (some ⟨w2.heap.size, 0, none⟩) 0 0)).setCell ⟨w.heap.size, 12, none⟩ (.slice (some ⟨w2.heap.size + 1, 0, none⟩) 0 0)).alloc (.cells #[] 37)).alloc (.cells #[] 3)) := ((((((((((((((((Keeps.refl (fun b => b = w.heap.size) w2).setCell (p := ⟨w.heap.size, 0, none⟩) (.inr rfl) (.int .i64 id)).setCell (p := ⟨w.heap.size, 1, none⟩) (.inr rfl) (.slice a1 3 k1)).setCell (p := ⟨w.heap.size, 2, none⟩) (.inr rfl) (.slice a2 3 k2)).setCell (p := ⟨w.heap.size, 3, none⟩) (.inr rfl) (.int .i64 newL.locked)).setCell (p := ⟨w.heap.size, 4, none⟩) (.inr rfl) (.int .i64 newS.way)).setCell (p := ⟨w.heap.size, 5, none⟩) (.inr rfl) (.int .i64 newS.ver)).setCell (p := ⟨w.heap.size, 6, none⟩) (.inr rfl) (.int .i64 newS.want)).setCell (p := ⟨w.heap.size, 7, none⟩) (.inr rfl) (.slice B1 newS.sent.length d1)).setCell (p := ⟨w.heap.size, 8, none⟩) (.inr rfl) (.slice B2 newS.live.length d2)).setCell (p := ⟨w.heap.size, 9, none⟩) (.inr rfl) (.slice B3 newS.back.length d3)).setCell (p := ⟨w.heap.size, 10, none⟩) (.inr rfl) (.slice B4 newS.got.length d4)).setCell (p := ⟨w.heap.size, 11, none⟩) (.inr rfl) (.slice (some ⟨w2.heap.size, 0, none⟩) 0 0)).setCell (p := ⟨w.heap.size, 12, none⟩) (.inr rfl) (.slice (some ⟨w2.heap.size + 1, 0, none⟩) 0 0)).alloc (.cells #[] 37)).alloc (.cells #[] 3))
    generalize (((((((((((((((w2.setCell ⟨w.heap.size, 0, none⟩ (.int .i64 id)).setCell ⟨w.heap.size, 1, none⟩ (.slice a1 3 k1)).setCell ⟨w.heap.size, 2, none⟩ (.slice a2 3 k2)).setCell ⟨w.heap.size, 3, none⟩ (.int .i64 newL.locked)).setCell ⟨w.heap.size, 4, none⟩ (.int .i64 newS.way)).setCell ⟨w.heap.size, 5, none⟩ (.int .i64 newS.ver)).setCell ⟨w.heap.size, 6, none⟩ (.int .i64 newS.want)).setCell ⟨w.heap.size, 7, none⟩ (.slice B1 newS.sent.length d1)).setCell ⟨w.heap.size, 8, none⟩ (.slice B2 newS.live.length d2)).setCell ⟨w.heap.size, 9, none⟩ (.slice B3 newS.back.length d3)).setCell ⟨w.heap.size, 10, none⟩ (.slice B4 newS.got.length d4)).setCell ⟨w.heap.size, 11, none⟩ (.slice (some ⟨w2.heap.size, 0, none⟩) 0 0)).setCell ⟨w.heap.size, 12, none⟩ (.slice (some ⟨w2.heap.size + 1, 0, none⟩) 0 0)).alloc (.cells #[] 37)).alloc (.cells #[] 3)) = WF at kS s10 s11 s12 s13 s14 s15 s16 s17 s18 s19 s20 s21 s22
    refine bodyPost_ret (v := .tuple #[(⟨id, ⟨newL, a1, a2, k1, k2⟩, ⟨newS, B1, B2, B3, B4, d1, d2, d3, d4⟩, [], (some ⟨w2.heap.size, 0, none⟩), 0, [], (some ⟨w2.heap.size + 1, 0, none⟩), 0⟩ : ChM).val, .bool true]) (by simp [results, Tryd.results162, go_sem, ChM.val, newL, s10, s11, s12, s13, s14, s15, s16, s17, s18, s19, s20, s21, s22]) rfl ?_
    have hz : w.heap.size < w1.heap.size := by simp at s1; omega
    obtain ⟨G, hG⟩ := new_own (lo := w.heap.size) (id := id) (pA := (some ⟨w2.heap.size, 0, none⟩)) (kA := (some ⟨w2.heap.size + 1, 0, none⟩)) (pc := 0) (kc := 0) (k1 := k1) (k2 := k2) (RO2.out.keeps kS fun b hb => by simp; omega) (RN2.out.keeps kS fun b hb => by simp; omega) DIS.out (RS.out.keeps kS fun b hb => by omega) (Nat.le_refl _) (by simp) (by omega)
    exact ⟨(⟨id, ⟨newL, a1, a2, k1, k2⟩, ⟨newS, B1, B2, B3, B4, d1, d2, d3, d4⟩, [], (some ⟨w2.heap.size, 0, none⟩), 0, [], (some ⟨w2.heap.size + 1, 0, none⟩), 0⟩ : ChM), G, rfl, ⟨rfl, rfl, rfl, SameS.refl _, rfl⟩, hG, HK2.out.then kS fun i hi h => by omega⟩
  · rw [newC_no hi]
    rw [hi] at F0 ⊢
    clear hi
    have hb := HBr.out
    have r0 := hb.lt
    have r1 := hb.cell 0
    have f1 := hb.frozen 0
    have r2 := hb.cell 1
    have f2 := hb.frozen 1
    have r3 := hb.cell 2
    have f3 := hb.frozen 2
    have r4 := hb.cell 3
    have f4 := hb.frozen 3
    have r5 := hb.cell 4
    have f5 := hb.frozen 4
    have r6 := hb.cell 5
    have f6 := hb.frozen 5
    have r7 := hb.cell 6
    have f7 := hb.frozen 6
    have r8 := hb.cell 7
    have f8 := hb.frozen 7
    have r9 := hb.cell 8
    have f9 := hb.frozen 8
    have r10 := hb.cell 9
    have f10 := hb.frozen 9
    have r11 := hb.cell 10
    have f11 := hb.frozen 10
    have r12 := hb.cell 11
    have f12 := hb.frozen 11
    have r13 := hb.cell 12
    have f13 := hb.frozen 12
    simp at r1 r2 r3 r4 r5 r6 r7 r8 r9 r10 r11 r12 r13
    clear hb HBr
    go_enter Tryd.func162, Tryd.ntmps162
    go_wp2_with (go_at_call 54; refine (F0.out _).mono ?_; rintro e w' ⟨rfl, rfl⟩)
    refine bodyPost_ret (v := .tuple #[ch0.val, .bool false]) (by simp [results, Tryd.results162, go_sem, ChM.val, ch0, bk0, stm0, r1, r2, r3, r4, r5, r6, r7, r8, r9, r10, r11, r12, r13]) rfl ?_
    exact ⟨ch0, fun _ => 0, rfl, SameC.refl _, ch0_own _ _, HK.out⟩

end Go.Proofs.YtbgpclicflafaaaDoor
