/- WorldOk of the model: it says when a world is ok. What SumPlan of the model goes by. -/
import Derived.Test.YtjcbeihoeanhaaaDoorUPlA
import Derived.Deep.Cut
import Derived.Deep.CutRange
import Derived.Deep.LoopGhost
set_option linter.unusedVariables false
set_option linter.unusedSimpArgs false
/-! PlK -/
set_option maxHeartbeats 8000000
set_option maxRecDepth 100000
namespace Go.Proofs.YtjcbeihoeanhaaaDoor
open Go.RowKit

structure WAt (w : World) (g : Nat) (a b : ChM) : Prop where
 lt : g < w.heap.size
 cs : ∀ (q : Nat) v, (a.cs ++ b.cs)[q]? = some v → w.cell? ⟨g, q, none⟩ = some v
 ra : ChAt w a
 rb : ChAt w b
 la : a.bk.b.locked ≤ 9223372036854775807
 lb : b.bk.b.locked ≤ 9223372036854775807
theorem WAt.keeps {S : Nat → Prop} {w w' : World} {g : Nat} {a b : ChM} (h : WAt w g a b) (hk : Keeps noBlk w w') : WAt w' g a b :=
 ⟨Nat.lt_of_lt_of_le h.lt hk.size, fun q v hv => (hk.cell h.lt (fun h => h)).trans (h.cs q v hv), h.ra.kept hk, h.rb.kept hk, h.la, h.lb⟩
theorem kO_no1 {c d : ChM} {i : Int} (h : ckB c = false) : kO c d i = false := by unfold kO; rw [h]; rfl
theorem kO_no2 {c d : ChM} {i : Int} (h : c.id ≠ i) : kO c d i = false := by
 unfold kO
 rw [decide_eq_false h, Bool.and_false]
 rfl
theorem kO_nil {c d : ChM} {i : Int} (h1 : ckB c = true) (h2 : c.id = i) (h3 : c.knows.length = 0) : kO c d i = true := by
 unfold kO
 rw [h1, decide_eq_true h2, decide_eq_true (fun h => by omega)]
 rfl
theorem kO_last {c d : ChM} {i : Int} {k : Nat} {v : Int} (h1 : ckB c = true) (h2 : c.id = i) (h3 : c.knows.length = k + 1) (h4 : c.knows.getD k 0 = v) : kO c d i = !decide ((d.past.length : Int) < v) := by
 have e : (0 < c.knows.length → c.knows.getD (c.knows.length - 1) 0 ≤ d.past.length) ↔ ¬ (d.past.length : Int) < v := by
  rw [h3, Nat.add_sub_cancel, h4]
  exact ⟨fun h => Int.not_lt.2 (h (Nat.succ_pos k)), fun h _ => Int.not_lt.1 h⟩
 unfold kO
 rw [h1, decide_eq_true h2, Bool.eq_iff_iff]
 simp only [Bool.and_eq_true, decide_eq_true_eq, Bool.not_eq_true', decide_eq_false_iff_not, true_and, Bool.true_and, e]
theorem worldOk2_any (g cp : Nat) (a b : ChM) (w : World) (h : WAt w g a b) : Calls Tryd.prog 94 #[.agg #[.slice (some ⟨g, 0, none⟩) 2 cp]] w fun e w' => e = .returned (.bool (wkB2 a b)) ∧ Keeps noBlk w w' := by
 have Fa := hH (fun W (hk : Keeps noBlk w W) => specChOk_any a W (h.ra.kept hk) h.la)
 have Fb := hH (fun W (hk : Keeps noBlk w W) => specChOk_any b W (h.rb.kept hk) h.lb)
 have lg := h.lt
 have g0 : w.cell? ⟨g, 0, none⟩ = some (.int .i64 a.id) := h.cs 0 _ rfl
 have g1 : w.cell? ⟨g, 1, none⟩ = some (.slice a.bk.A1 a.bk.b.own.length a.bk.c1) := h.cs 1 _ rfl
 have g2 : w.cell? ⟨g, 2, none⟩ = some (.slice a.bk.A2 a.bk.b.notes.length a.bk.c2) := h.cs 2 _ rfl
 have g3 : w.cell? ⟨g, 3, none⟩ = some (.int .i64 a.bk.b.locked) := h.cs 3 _ rfl
 have g4 : w.cell? ⟨g, 4, none⟩ = some (.int .i64 a.st.x.way) := h.cs 4 _ rfl
 have g5 : w.cell? ⟨g, 5, none⟩ = some (.int .i64 a.st.x.ver) := h.cs 5 _ rfl
 have g6 : w.cell? ⟨g, 6, none⟩ = some (.int .i64 a.st.x.want) := h.cs 6 _ rfl
 have g7 : w.cell? ⟨g, 7, none⟩ = some (.slice a.st.A1 a.st.x.sent.length a.st.c1) := h.cs 7 _ rfl
 have g8 : w.cell? ⟨g, 8, none⟩ = some (.slice a.st.A2 a.st.x.live.length a.st.c2) := h.cs 8 _ rfl
 have g9 : w.cell? ⟨g, 9, none⟩ = some (.slice a.st.A3 a.st.x.back.length a.st.c3) := h.cs 9 _ rfl
 have g10 : w.cell? ⟨g, 10, none⟩ = some (.slice a.st.A4 a.st.x.got.length a.st.c4) := h.cs 10 _ rfl
 have g11 : w.cell? ⟨g, 11, none⟩ = some (.slice a.pA a.past.length a.pc) := h.cs 11 _ rfl
 have g12 : w.cell? ⟨g, 12, none⟩ = some (.slice a.kA a.knows.length a.kc) := h.cs 12 _ rfl
 have g13 : w.cell? ⟨g, 13, none⟩ = some (.int .i64 b.id) := h.cs 13 _ rfl
 have g14 : w.cell? ⟨g, 14, none⟩ = some (.slice b.bk.A1 b.bk.b.own.length b.bk.c1) := h.cs 14 _ rfl
 have g15 : w.cell? ⟨g, 15, none⟩ = some (.slice b.bk.A2 b.bk.b.notes.length b.bk.c2) := h.cs 15 _ rfl
 have g16 : w.cell? ⟨g, 16, none⟩ = some (.int .i64 b.bk.b.locked) := h.cs 16 _ rfl
 have g17 : w.cell? ⟨g, 17, none⟩ = some (.int .i64 b.st.x.way) := h.cs 17 _ rfl
 have g18 : w.cell? ⟨g, 18, none⟩ = some (.int .i64 b.st.x.ver) := h.cs 18 _ rfl
 have g19 : w.cell? ⟨g, 19, none⟩ = some (.int .i64 b.st.x.want) := h.cs 19 _ rfl
 have g20 : w.cell? ⟨g, 20, none⟩ = some (.slice b.st.A1 b.st.x.sent.length b.st.c1) := h.cs 20 _ rfl
 have g21 : w.cell? ⟨g, 21, none⟩ = some (.slice b.st.A2 b.st.x.live.length b.st.c2) := h.cs 21 _ rfl
 have g22 : w.cell? ⟨g, 22, none⟩ = some (.slice b.st.A3 b.st.x.back.length b.st.c3) := h.cs 22 _ rfl
 have g23 : w.cell? ⟨g, 23, none⟩ = some (.slice b.st.A4 b.st.x.got.length b.st.c4) := h.cs 23 _ rfl
 have g24 : w.cell? ⟨g, 24, none⟩ = some (.slice b.pA b.past.length b.pc) := h.cs 24 _ rfl
 have g25 : w.cell? ⟨g, 25, none⟩ = some (.slice b.kA b.knows.length b.kc) := h.cs 25 _ rfl
 have HBV := hH (Box.new w _ rfl 87 #[.slice (some ⟨g, 0, none⟩) 2 cp])
 have HK := hH ((Keeps.refl noBlk w).alloc (.cells #[.slice (some ⟨g, 0, none⟩) 2 cp] 87))
 have n1 : ¬ g = w.heap.size := by omega
 have n2 : ¬ w.heap.size = g := by omega
 have n3 : g < w.heap.size + 1 := by omega
 go_enter Tryd.func94, Tryd.ntmps94
 go_wp2
 go_loopw [3] (fun i wr => (i = .int .i64 0 ∨ (i = .int .i64 1 ∧ kO a b 1 = true) ∨ (i = .int .i64 2 ∧ kO a b 1 = true ∧ kO b a 2 = true)) ∧ Keeps noBlk (w.alloc (.cells #[.slice (some ⟨g, 0, none⟩) 2 cp] 87)) wr) (fun i _ => 2 - (intOf i).toNat)
 case atStart => exact ⟨.inl rfl, Keeps.refl _ _⟩
 case round =>
  obtain ⟨hc, hkp⟩ := hrel
  have HKP := hH hkp
  rcases hc with rfl | ⟨rfl, h0⟩ | ⟨rfl, h0, h1⟩
  ·have HBV0 := hH (HBV.out.keeps hkp (fun h => h))
   have HK0 := hH (HK.out.trans hkp)
   clear hkp
   rcases Bool.eq_false_or_eq_true (ckB a) with hb | hb
   case inr =>
    have HR : Hid (wkB2 a b = false) := hH (by unfold wkB2; rw [kO_no1 hb]; rfl)
    have FA := hH (fun W (hk : Keeps noBlk w W) => (show Calls Tryd.prog 106 #[a.val] W (fun e w' => e = .returned (.bool false) ∧ Keeps noBlk W w') from by rw [← hb]; exact Fa.out W hk))
    unfold ChM.val at FA
    clear hb
    have hb := HBV0.out
    have V0 := hb.cell 0
    simp at V0
    clear hb
    obtain ⟨y0, y1, y2, y3, y4, y5, y6, y7, y8, y9, y10, y11, y12, y13, y14, y15, y16, y17, y18, y19, y20, y21, y22, y23, y24, y25⟩ := kc26 HK0.out lg g0 g1 g2 g3 g4 g5 g6 g7 g8 g9 g10 g11 g12 g13 g14 g15 g16 g17 g18 g19 g20 g21 g22 g23 g24 g25
    go_wp2_with fail
    have HBc := hH (Box.new wr _ rfl 94 (chC a))
    have hbv := HBV0.out.alloc (.cells (chC a) 94)
    have HBv := hH hbv
    clear hbv
    have HK1 := hH (HK0.out.alloc (.cells (chC a) 94))
    have zc : wr.heap.size < (wr.alloc (.cells (chC a) 94)).heap.size := by simp
    have sg := HK0.out.size
    (try simp at sg)
    have HKW := hH (fun (U : GW (wr.alloc (.cells (chC a) 94))) => (HKP.out.alloc (.cells (chC a) 94)).trans U.keep)
    generalize wr.alloc (.cells (chC a) 94) = W0 at HKW HBc HBv HK1 zc ⊢
    clear V0 y0 y1 y2 y3 y4 y5 y6 y7 y8 y9 y10 y11 y12 y13 y14 y15 y16 y17 y18 y19 y20 y21 y22 y23 y24 y25
    have hb := HBv.out
    have V0 := hb.cell 0
    simp at V0
    clear hb
    have hb := HBc.out
    obtain ⟨c0, c1, c2, c3, c4, c5, c6, c7, c8, c9, c10, c11, c12⟩ := hb.cells13
    clear hb
    obtain ⟨y0, y1, y2, y3, y4, y5, y6, y7, y8, y9, y10, y11, y12, y13, y14, y15, y16, y17, y18, y19, y20, y21, y22, y23, y24, y25⟩ := kc26 HK1.out lg g0 g1 g2 g3 g4 g5 g6 g7 g8 g9 g10 g11 g12 g13 g14 g15 g16 g17 g18 g19 g20 g21 g22 g23 g24 g25
    have V0 := fun U : GW W0 => GW.cell V0 U
    obtain ⟨c0, c1, c2, c3, c4, c5, c6, c7, c8, c9, c10, c11, c12⟩ := gw13 c0 c1 c2 c3 c4 c5 c6 c7 c8 c9 c10 c11 c12
    obtain ⟨y0, y1, y2, y3, y4, y5, y6, y7, y8, y9, y10, y11, y12, y13, y14, y15, y16, y17, y18, y19, y20, y21, y22, y23, y24, y25⟩ := gw26 y0 y1 y2 y3 y4 y5 y6 y7 y8 y9 y10 y11 y12 y13 y14 y15 y16 y17 y18 y19 y20 y21 y22 y23 y24 y25
    refine wp_region_grow (by kernel_rfl) (by kernel_rfl) ?_
    repeat (go_big_quiet_step (first | (go_at_call 106; exact Calls.grow _ (FA.out _ (HK1.out.trans (GW.keep _))))))
    refine wpQuiet_nil ?_
    rintro _ ⟨U1, rfl⟩
    have HK2 := hH (HK1.out.trans U1.keep)
    go_wp2
    go_ret
    exact ⟨(by rw [HR.out]; first | done | rfl), HK2.out⟩
   have HB1 := hH hb
   have FA := hH (fun W (hk : Keeps noBlk w W) => (show Calls Tryd.prog 106 #[a.val] W (fun e w' => e = .returned (.bool true) ∧ Keeps noBlk W w') from by rw [← hb]; exact Fa.out W hk))
   unfold ChM.val at FA
   clear hb
   by_cases hid : a.id = 1
   case neg =>
    have HR : Hid (wkB2 a b = false) := hH (by unfold wkB2; rw [kO_no2 hid]; rfl)
    have hx : (a.id != 1) = true := by simpa using hid
    clear hid
    have hb := HBV0.out
    have V0 := hb.cell 0
    simp at V0
    clear hb
    obtain ⟨y0, y1, y2, y3, y4, y5, y6, y7, y8, y9, y10, y11, y12, y13, y14, y15, y16, y17, y18, y19, y20, y21, y22, y23, y24, y25⟩ := kc26 HK0.out lg g0 g1 g2 g3 g4 g5 g6 g7 g8 g9 g10 g11 g12 g13 g14 g15 g16 g17 g18 g19 g20 g21 g22 g23 g24 g25
    go_wp2_with fail
    have HBc := hH (Box.new wr _ rfl 94 (chC a))
    have hbv := HBV0.out.alloc (.cells (chC a) 94)
    have HBv := hH hbv
    clear hbv
    have HK1 := hH (HK0.out.alloc (.cells (chC a) 94))
    have zc : wr.heap.size < (wr.alloc (.cells (chC a) 94)).heap.size := by simp
    have sg := HK0.out.size
    (try simp at sg)
    have HKW := hH (fun (U : GW (wr.alloc (.cells (chC a) 94))) => (HKP.out.alloc (.cells (chC a) 94)).trans U.keep)
    generalize wr.alloc (.cells (chC a) 94) = W0 at HKW HBc HBv HK1 zc ⊢
    clear V0 y0 y1 y2 y3 y4 y5 y6 y7 y8 y9 y10 y11 y12 y13 y14 y15 y16 y17 y18 y19 y20 y21 y22 y23 y24 y25
    have hb := HBv.out
    have V0 := hb.cell 0
    simp at V0
    clear hb
    have hb := HBc.out
    obtain ⟨c0, c1, c2, c3, c4, c5, c6, c7, c8, c9, c10, c11, c12⟩ := hb.cells13
    clear hb
    obtain ⟨y0, y1, y2, y3, y4, y5, y6, y7, y8, y9, y10, y11, y12, y13, y14, y15, y16, y17, y18, y19, y20, y21, y22, y23, y24, y25⟩ := kc26 HK1.out lg g0 g1 g2 g3 g4 g5 g6 g7 g8 g9 g10 g11 g12 g13 g14 g15 g16 g17 g18 g19 g20 g21 g22 g23 g24 g25
    have V0 := fun U : GW W0 => GW.cell V0 U
    obtain ⟨c0, c1, c2, c3, c4, c5, c6, c7, c8, c9, c10, c11, c12⟩ := gw13 c0 c1 c2 c3 c4 c5 c6 c7 c8 c9 c10 c11 c12
    obtain ⟨y0, y1, y2, y3, y4, y5, y6, y7, y8, y9, y10, y11, y12, y13, y14, y15, y16, y17, y18, y19, y20, y21, y22, y23, y24, y25⟩ := gw26 y0 y1 y2 y3 y4 y5 y6 y7 y8 y9 y10 y11 y12 y13 y14 y15 y16 y17 y18 y19 y20 y21 y22 y23 y24 y25
    refine wp_region_grow (by kernel_rfl) (by kernel_rfl) ?_
    repeat (go_big_quiet_step (first | (go_at_call 106; exact Calls.grow _ (FA.out _ (HK1.out.trans (GW.keep _))))))
    refine wpQuiet_nil ?_
    rintro _ ⟨U1, rfl⟩
    have HK2 := hH (HK1.out.trans U1.keep)
    go_wp2
    go_ret
    exact ⟨(by rw [HR.out]; first | done | rfl), HK2.out⟩
   have hx : (a.id != 1) = false := by simpa using hid
   have HID := hH hid
   clear hid
   rcases Nat.eq_zero_or_pos a.knows.length with hn | hn
   ·have HR : Hid ((kO a b 1) = true) := hH (kO_nil HB1.out HID.out hn)
    have hl0 : decide ((0 : Int) < (a.knows.length : Int)) = false := decide_eq_false (by omega)
    have hl0n : decide (0 < a.knows.length) = false := decide_eq_false (by omega)
    clear hn
    have hb := HBV0.out
    have V0 := hb.cell 0
    simp at V0
    clear hb
    obtain ⟨y0, y1, y2, y3, y4, y5, y6, y7, y8, y9, y10, y11, y12, y13, y14, y15, y16, y17, y18, y19, y20, y21, y22, y23, y24, y25⟩ := kc26 HK0.out lg g0 g1 g2 g3 g4 g5 g6 g7 g8 g9 g10 g11 g12 g13 g14 g15 g16 g17 g18 g19 g20 g21 g22 g23 g24 g25
    go_wp2_with fail
    have HBc := hH (Box.new wr _ rfl 94 (chC a))
    have hbv := HBV0.out.alloc (.cells (chC a) 94)
    have HBv := hH hbv
    clear hbv
    have HK1 := hH (HK0.out.alloc (.cells (chC a) 94))
    have zc : wr.heap.size < (wr.alloc (.cells (chC a) 94)).heap.size := by simp
    have sg := HK0.out.size
    (try simp at sg)
    have HKW := hH (fun (U : GW (wr.alloc (.cells (chC a) 94))) => (HKP.out.alloc (.cells (chC a) 94)).trans U.keep)
    generalize wr.alloc (.cells (chC a) 94) = W0 at HKW HBc HBv HK1 zc ⊢
    clear V0 y0 y1 y2 y3 y4 y5 y6 y7 y8 y9 y10 y11 y12 y13 y14 y15 y16 y17 y18 y19 y20 y21 y22 y23 y24 y25
    have hb := HBv.out
    have V0 := hb.cell 0
    simp at V0
    clear hb
    have hb := HBc.out
    obtain ⟨c0, c1, c2, c3, c4, c5, c6, c7, c8, c9, c10, c11, c12⟩ := hb.cells13
    clear hb
    obtain ⟨y0, y1, y2, y3, y4, y5, y6, y7, y8, y9, y10, y11, y12, y13, y14, y15, y16, y17, y18, y19, y20, y21, y22, y23, y24, y25⟩ := kc26 HK1.out lg g0 g1 g2 g3 g4 g5 g6 g7 g8 g9 g10 g11 g12 g13 g14 g15 g16 g17 g18 g19 g20 g21 g22 g23 g24 g25
    have V0 := fun U : GW W0 => GW.cell V0 U
    obtain ⟨c0, c1, c2, c3, c4, c5, c6, c7, c8, c9, c10, c11, c12⟩ := gw13 c0 c1 c2 c3 c4 c5 c6 c7 c8 c9 c10 c11 c12
    obtain ⟨y0, y1, y2, y3, y4, y5, y6, y7, y8, y9, y10, y11, y12, y13, y14, y15, y16, y17, y18, y19, y20, y21, y22, y23, y24, y25⟩ := gw26 y0 y1 y2 y3 y4 y5 y6 y7 y8 y9 y10 y11 y12 y13 y14 y15 y16 y17 y18 y19 y20 y21 y22 y23 y24 y25
    refine wp_region_grow (by kernel_rfl) (by kernel_rfl) ?_
    repeat (go_big_quiet_step (first | (go_at_call 106; exact Calls.grow _ (FA.out _ (HK1.out.trans (GW.keep _))))))
    refine wpQuiet_nil ?_
    rintro _ ⟨U1, rfl⟩
    have HK2 := hH (HK1.out.trans U1.keep)
    go_wp2
    refine ⟨⟨.inr (.inl ⟨rfl, HR.out⟩), HKW.out U1⟩, by simp [intOf]⟩
   obtain ⟨k9, hk9⟩ : ∃ k9, a.knows.length = k9 + 1 := ⟨a.knows.length - 1, by omega⟩
   have hl1 : decide ((0 : Int) < (a.knows.length : Int)) = true := decide_eq_true (by omega)
   have hl1n : decide (0 < a.knows.length) = true := decide_eq_true (by omega)
   have hm9 := h.ra.m4
   unfold maxLen at hm9
   obtain ⟨bb, off, eA, hbb, D2⟩ := h.ra.knows.at_ (k := k9) (by omega)
   obtain ⟨v9, hv9⟩ : ∃ v, a.knows.getD k9 0 = v := ⟨_, rfl⟩
   rw [hv9] at D2
   have HL := hH (kO_last (d := b) HB1.out HID.out hk9 hv9)
   have HE9 := hH hk9
   have hw9 : IntKind.i64.wrap ((a.knows.length : Int) - 1) = (k9 : Int) := by rw [show (a.knows.length : Int) - 1 = (k9 : Int) by omega]; exact IntWalk.i64_in _ (by omega)
   have hi9 : (k9 : Int) < (a.knows.length : Int) := by omega
   clear hn hk9 hv9
   rw [eA] at FA g12
   by_cases hgt : (b.past.length : Int) < v9
   ·have HR : Hid (wkB2 a b = false) := hH (by unfold wkB2; rw [HL.out, decide_eq_true hgt]; simp)
    have hgb : decide ((b.past.length : Int) < v9) = true := decide_eq_true hgt
    have hb := HBV0.out
    have V0 := hb.cell 0
    simp at V0
    clear hb
    obtain ⟨y0, y1, y2, y3, y4, y5, y6, y7, y8, y9, y10, y11, y12, y13, y14, y15, y16, y17, y18, y19, y20, y21, y22, y23, y24, y25⟩ := kc26 HK0.out lg g0 g1 g2 g3 g4 g5 g6 g7 g8 g9 g10 g11 g12 g13 g14 g15 g16 g17 g18 g19 g20 g21 g22 g23 g24 g25
    go_wp2_with fail
    have HBc := hH (Box.new wr _ rfl 94 #[.int .i64 a.id, .slice a.bk.A1 a.bk.b.own.length a.bk.c1, .slice a.bk.A2 a.bk.b.notes.length a.bk.c2, .int .i64 a.bk.b.locked, .int .i64 a.st.x.way, .int .i64 a.st.x.ver, .int .i64 a.st.x.want, .slice a.st.A1 a.st.x.sent.length a.st.c1, .slice a.st.A2 a.st.x.live.length a.st.c2, .slice a.st.A3 a.st.x.back.length a.st.c3, .slice a.st.A4 a.st.x.got.length a.st.c4, .slice a.pA a.past.length a.pc, .slice (some ⟨bb, off, none⟩) a.knows.length a.kc])
    have hbv := HBV0.out.alloc (.cells #[.int .i64 a.id, .slice a.bk.A1 a.bk.b.own.length a.bk.c1, .slice a.bk.A2 a.bk.b.notes.length a.bk.c2, .int .i64 a.bk.b.locked, .int .i64 a.st.x.way, .int .i64 a.st.x.ver, .int .i64 a.st.x.want, .slice a.st.A1 a.st.x.sent.length a.st.c1, .slice a.st.A2 a.st.x.live.length a.st.c2, .slice a.st.A3 a.st.x.back.length a.st.c3, .slice a.st.A4 a.st.x.got.length a.st.c4, .slice a.pA a.past.length a.pc, .slice (some ⟨bb, off, none⟩) a.knows.length a.kc] 94)
    have HBv := hH hbv
    clear hbv
    have HK1 := hH (HK0.out.alloc (.cells #[.int .i64 a.id, .slice a.bk.A1 a.bk.b.own.length a.bk.c1, .slice a.bk.A2 a.bk.b.notes.length a.bk.c2, .int .i64 a.bk.b.locked, .int .i64 a.st.x.way, .int .i64 a.st.x.ver, .int .i64 a.st.x.want, .slice a.st.A1 a.st.x.sent.length a.st.c1, .slice a.st.A2 a.st.x.live.length a.st.c2, .slice a.st.A3 a.st.x.back.length a.st.c3, .slice a.st.A4 a.st.x.got.length a.st.c4, .slice a.pA a.past.length a.pc, .slice (some ⟨bb, off, none⟩) a.knows.length a.kc] 94))
    have zc : wr.heap.size < (wr.alloc (.cells #[.int .i64 a.id, .slice a.bk.A1 a.bk.b.own.length a.bk.c1, .slice a.bk.A2 a.bk.b.notes.length a.bk.c2, .int .i64 a.bk.b.locked, .int .i64 a.st.x.way, .int .i64 a.st.x.ver, .int .i64 a.st.x.want, .slice a.st.A1 a.st.x.sent.length a.st.c1, .slice a.st.A2 a.st.x.live.length a.st.c2, .slice a.st.A3 a.st.x.back.length a.st.c3, .slice a.st.A4 a.st.x.got.length a.st.c4, .slice a.pA a.past.length a.pc, .slice (some ⟨bb, off, none⟩) a.knows.length a.kc] 94)).heap.size := by simp
    have sg := HK0.out.size
    (try simp at sg)
    have HKW := hH (fun (U : GW (wr.alloc (.cells #[.int .i64 a.id, .slice a.bk.A1 a.bk.b.own.length a.bk.c1, .slice a.bk.A2 a.bk.b.notes.length a.bk.c2, .int .i64 a.bk.b.locked, .int .i64 a.st.x.way, .int .i64 a.st.x.ver, .int .i64 a.st.x.want, .slice a.st.A1 a.st.x.sent.length a.st.c1, .slice a.st.A2 a.st.x.live.length a.st.c2, .slice a.st.A3 a.st.x.back.length a.st.c3, .slice a.st.A4 a.st.x.got.length a.st.c4, .slice a.pA a.past.length a.pc, .slice (some ⟨bb, off, none⟩) a.knows.length a.kc] 94))) => (HKP.out.alloc (.cells #[.int .i64 a.id, .slice a.bk.A1 a.bk.b.own.length a.bk.c1, .slice a.bk.A2 a.bk.b.notes.length a.bk.c2, .int .i64 a.bk.b.locked, .int .i64 a.st.x.way, .int .i64 a.st.x.ver, .int .i64 a.st.x.want, .slice a.st.A1 a.st.x.sent.length a.st.c1, .slice a.st.A2 a.st.x.live.length a.st.c2, .slice a.st.A3 a.st.x.back.length a.st.c3, .slice a.st.A4 a.st.x.got.length a.st.c4, .slice a.pA a.past.length a.pc, .slice (some ⟨bb, off, none⟩) a.knows.length a.kc] 94)).trans U.keep)
    generalize wr.alloc (.cells #[.int .i64 a.id, .slice a.bk.A1 a.bk.b.own.length a.bk.c1, .slice a.bk.A2 a.bk.b.notes.length a.bk.c2, .int .i64 a.bk.b.locked, .int .i64 a.st.x.way, .int .i64 a.st.x.ver, .int .i64 a.st.x.want, .slice a.st.A1 a.st.x.sent.length a.st.c1, .slice a.st.A2 a.st.x.live.length a.st.c2, .slice a.st.A3 a.st.x.back.length a.st.c3, .slice a.st.A4 a.st.x.got.length a.st.c4, .slice a.pA a.past.length a.pc, .slice (some ⟨bb, off, none⟩) a.knows.length a.kc] 94) = W0 at HKW HBc HBv HK1 zc ⊢
    clear V0 y0 y1 y2 y3 y4 y5 y6 y7 y8 y9 y10 y11 y12 y13 y14 y15 y16 y17 y18 y19 y20 y21 y22 y23 y24 y25
    have hb := HBv.out
    have V0 := hb.cell 0
    simp at V0
    clear hb
    have hb := HBc.out
    obtain ⟨c0, c1, c2, c3, c4, c5, c6, c7, c8, c9, c10, c11, c12⟩ := hb.cells13
    clear hb
    obtain ⟨y0, y1, y2, y3, y4, y5, y6, y7, y8, y9, y10, y11, y12, y13, y14, y15, y16, y17, y18, y19, y20, y21, y22, y23, y24, y25⟩ := kc26 HK1.out lg g0 g1 g2 g3 g4 g5 g6 g7 g8 g9 g10 g11 g12 g13 g14 g15 g16 g17 g18 g19 g20 g21 g22 g23 g24 g25
    have d2 := (HK1.out.cell hbb (fun h => h)).trans D2
    have V0 := fun U : GW W0 => GW.cell V0 U
    obtain ⟨c0, c1, c2, c3, c4, c5, c6, c7, c8, c9, c10, c11, c12⟩ := gw13 c0 c1 c2 c3 c4 c5 c6 c7 c8 c9 c10 c11 c12
    obtain ⟨y0, y1, y2, y3, y4, y5, y6, y7, y8, y9, y10, y11, y12, y13, y14, y15, y16, y17, y18, y19, y20, y21, y22, y23, y24, y25⟩ := gw26 y0 y1 y2 y3 y4 y5 y6 y7 y8 y9 y10 y11 y12 y13 y14 y15 y16 y17 y18 y19 y20 y21 y22 y23 y24 y25
    have d2 := fun U : GW W0 => GW.cell d2 U
    refine wp_region_grow (by kernel_rfl) (by kernel_rfl) ?_
    repeat (go_big_quiet_step (first | (go_at_call 106; exact Calls.grow _ (FA.out _ (HK1.out.trans (GW.keep _))))))
    refine wpQuiet_nil ?_
    rintro _ ⟨U1, rfl⟩
    have HK2 := hH (HK1.out.trans U1.keep)
    go_wp2
    go_ret
    exact ⟨(by rw [HR.out]; first | done | rfl), HK2.out⟩
   ·have HR : Hid ((kO a b 1) = true) := hH (by rw [HL.out, decide_eq_false hgt]; rfl)
    have hgb : decide ((b.past.length : Int) < v9) = false := decide_eq_false hgt
    have hb := HBV0.out
    have V0 := hb.cell 0
    simp at V0
    clear hb
    obtain ⟨y0, y1, y2, y3, y4, y5, y6, y7, y8, y9, y10, y11, y12, y13, y14, y15, y16, y17, y18, y19, y20, y21, y22, y23, y24, y25⟩ := kc26 HK0.out lg g0 g1 g2 g3 g4 g5 g6 g7 g8 g9 g10 g11 g12 g13 g14 g15 g16 g17 g18 g19 g20 g21 g22 g23 g24 g25
    go_wp2_with fail
    have HBc := hH (Box.new wr _ rfl 94 #[.int .i64 a.id, .slice a.bk.A1 a.bk.b.own.length a.bk.c1, .slice a.bk.A2 a.bk.b.notes.length a.bk.c2, .int .i64 a.bk.b.locked, .int .i64 a.st.x.way, .int .i64 a.st.x.ver, .int .i64 a.st.x.want, .slice a.st.A1 a.st.x.sent.length a.st.c1, .slice a.st.A2 a.st.x.live.length a.st.c2, .slice a.st.A3 a.st.x.back.length a.st.c3, .slice a.st.A4 a.st.x.got.length a.st.c4, .slice a.pA a.past.length a.pc, .slice (some ⟨bb, off, none⟩) a.knows.length a.kc])
    have hbv := HBV0.out.alloc (.cells #[.int .i64 a.id, .slice a.bk.A1 a.bk.b.own.length a.bk.c1, .slice a.bk.A2 a.bk.b.notes.length a.bk.c2, .int .i64 a.bk.b.locked, .int .i64 a.st.x.way, .int .i64 a.st.x.ver, .int .i64 a.st.x.want, .slice a.st.A1 a.st.x.sent.length a.st.c1, .slice a.st.A2 a.st.x.live.length a.st.c2, .slice a.st.A3 a.st.x.back.length a.st.c3, .slice a.st.A4 a.st.x.got.length a.st.c4, .slice a.pA a.past.length a.pc, .slice (some ⟨bb, off, none⟩) a.knows.length a.kc] 94)
    have HBv := hH hbv
    clear hbv
    have HK1 := hH (HK0.out.alloc (.cells #[.int .i64 a.id, .slice a.bk.A1 a.bk.b.own.length a.bk.c1, .slice a.bk.A2 a.bk.b.notes.length a.bk.c2, .int .i64 a.bk.b.locked, .int .i64 a.st.x.way, .int .i64 a.st.x.ver, .int .i64 a.st.x.want, .slice a.st.A1 a.st.x.sent.length a.st.c1, .slice a.st.A2 a.st.x.live.length a.st.c2, .slice a.st.A3 a.st.x.back.length a.st.c3, .slice a.st.A4 a.st.x.got.length a.st.c4, .slice a.pA a.past.length a.pc, .slice (some ⟨bb, off, none⟩) a.knows.length a.kc] 94))
    have zc : wr.heap.size < (wr.alloc (.cells #[.int .i64 a.id, .slice a.bk.A1 a.bk.b.own.length a.bk.c1, .slice a.bk.A2 a.bk.b.notes.length a.bk.c2, .int .i64 a.bk.b.locked, .int .i64 a.st.x.way, .int .i64 a.st.x.ver, .int .i64 a.st.x.want, .slice a.st.A1 a.st.x.sent.length a.st.c1, .slice a.st.A2 a.st.x.live.length a.st.c2, .slice a.st.A3 a.st.x.back.length a.st.c3, .slice a.st.A4 a.st.x.got.length a.st.c4, .slice a.pA a.past.length a.pc, .slice (some ⟨bb, off, none⟩) a.knows.length a.kc] 94)).heap.size := by simp
    have sg := HK0.out.size
    (try simp at sg)
    have HKW := hH (fun (U : GW (wr.alloc (.cells #[.int .i64 a.id, .slice a.bk.A1 a.bk.b.own.length a.bk.c1, .slice a.bk.A2 a.bk.b.notes.length a.bk.c2, .int .i64 a.bk.b.locked, .int .i64 a.st.x.way, .int .i64 a.st.x.ver, .int .i64 a.st.x.want, .slice a.st.A1 a.st.x.sent.length a.st.c1, .slice a.st.A2 a.st.x.live.length a.st.c2, .slice a.st.A3 a.st.x.back.length a.st.c3, .slice a.st.A4 a.st.x.got.length a.st.c4, .slice a.pA a.past.length a.pc, .slice (some ⟨bb, off, none⟩) a.knows.length a.kc] 94))) => (HKP.out.alloc (.cells #[.int .i64 a.id, .slice a.bk.A1 a.bk.b.own.length a.bk.c1, .slice a.bk.A2 a.bk.b.notes.length a.bk.c2, .int .i64 a.bk.b.locked, .int .i64 a.st.x.way, .int .i64 a.st.x.ver, .int .i64 a.st.x.want, .slice a.st.A1 a.st.x.sent.length a.st.c1, .slice a.st.A2 a.st.x.live.length a.st.c2, .slice a.st.A3 a.st.x.back.length a.st.c3, .slice a.st.A4 a.st.x.got.length a.st.c4, .slice a.pA a.past.length a.pc, .slice (some ⟨bb, off, none⟩) a.knows.length a.kc] 94)).trans U.keep)
    generalize wr.alloc (.cells #[.int .i64 a.id, .slice a.bk.A1 a.bk.b.own.length a.bk.c1, .slice a.bk.A2 a.bk.b.notes.length a.bk.c2, .int .i64 a.bk.b.locked, .int .i64 a.st.x.way, .int .i64 a.st.x.ver, .int .i64 a.st.x.want, .slice a.st.A1 a.st.x.sent.length a.st.c1, .slice a.st.A2 a.st.x.live.length a.st.c2, .slice a.st.A3 a.st.x.back.length a.st.c3, .slice a.st.A4 a.st.x.got.length a.st.c4, .slice a.pA a.past.length a.pc, .slice (some ⟨bb, off, none⟩) a.knows.length a.kc] 94) = W0 at HKW HBc HBv HK1 zc ⊢
    clear V0 y0 y1 y2 y3 y4 y5 y6 y7 y8 y9 y10 y11 y12 y13 y14 y15 y16 y17 y18 y19 y20 y21 y22 y23 y24 y25
    have hb := HBv.out
    have V0 := hb.cell 0
    simp at V0
    clear hb
    have hb := HBc.out
    obtain ⟨c0, c1, c2, c3, c4, c5, c6, c7, c8, c9, c10, c11, c12⟩ := hb.cells13
    clear hb
    obtain ⟨y0, y1, y2, y3, y4, y5, y6, y7, y8, y9, y10, y11, y12, y13, y14, y15, y16, y17, y18, y19, y20, y21, y22, y23, y24, y25⟩ := kc26 HK1.out lg g0 g1 g2 g3 g4 g5 g6 g7 g8 g9 g10 g11 g12 g13 g14 g15 g16 g17 g18 g19 g20 g21 g22 g23 g24 g25
    have d2 := (HK1.out.cell hbb (fun h => h)).trans D2
    have V0 := fun U : GW W0 => GW.cell V0 U
    obtain ⟨c0, c1, c2, c3, c4, c5, c6, c7, c8, c9, c10, c11, c12⟩ := gw13 c0 c1 c2 c3 c4 c5 c6 c7 c8 c9 c10 c11 c12
    obtain ⟨y0, y1, y2, y3, y4, y5, y6, y7, y8, y9, y10, y11, y12, y13, y14, y15, y16, y17, y18, y19, y20, y21, y22, y23, y24, y25⟩ := gw26 y0 y1 y2 y3 y4 y5 y6 y7 y8 y9 y10 y11 y12 y13 y14 y15 y16 y17 y18 y19 y20 y21 y22 y23 y24 y25
    have d2 := fun U : GW W0 => GW.cell d2 U
    refine wp_region_grow (by kernel_rfl) (by kernel_rfl) ?_
    repeat (go_big_quiet_step (first | (go_at_call 106; exact Calls.grow _ (FA.out _ (HK1.out.trans (GW.keep _))))))
    refine wpQuiet_nil ?_
    rintro _ ⟨U1, rfl⟩
    have HK2 := hH (HK1.out.trans U1.keep)
    go_wp2
    refine ⟨⟨.inr (.inl ⟨rfl, HR.out⟩), HKW.out U1⟩, by simp [intOf]⟩
  ·have HR0 := hH h0
   clear h0
   have HBV0 := hH (HBV.out.keeps hkp (fun h => h))
   have HK0 := hH (HK.out.trans hkp)
   clear hkp
   rcases Bool.eq_false_or_eq_true (ckB b) with hb | hb
   case inr =>
    have HR : Hid (wkB2 a b = false) := hH (by unfold wkB2; rw [kO_no1 hb, Bool.and_false])
    have FA := hH (fun W (hk : Keeps noBlk w W) => (show Calls Tryd.prog 106 #[b.val] W (fun e w' => e = .returned (.bool false) ∧ Keeps noBlk W w') from by rw [← hb]; exact Fb.out W hk))
    unfold ChM.val at FA
    clear hb
    have hb := HBV0.out
    have V0 := hb.cell 0
    simp at V0
    clear hb
    obtain ⟨y0, y1, y2, y3, y4, y5, y6, y7, y8, y9, y10, y11, y12, y13, y14, y15, y16, y17, y18, y19, y20, y21, y22, y23, y24, y25⟩ := kc26 HK0.out lg g0 g1 g2 g3 g4 g5 g6 g7 g8 g9 g10 g11 g12 g13 g14 g15 g16 g17 g18 g19 g20 g21 g22 g23 g24 g25
    go_wp2_with fail
    have HBc := hH (Box.new wr _ rfl 94 (chC b))
    have hbv := HBV0.out.alloc (.cells (chC b) 94)
    have HBv := hH hbv
    clear hbv
    have HK1 := hH (HK0.out.alloc (.cells (chC b) 94))
    have zc : wr.heap.size < (wr.alloc (.cells (chC b) 94)).heap.size := by simp
    have sg := HK0.out.size
    (try simp at sg)
    have HKW := hH (fun (U : GW (wr.alloc (.cells (chC b) 94))) => (HKP.out.alloc (.cells (chC b) 94)).trans U.keep)
    generalize wr.alloc (.cells (chC b) 94) = W0 at HKW HBc HBv HK1 zc ⊢
    clear V0 y0 y1 y2 y3 y4 y5 y6 y7 y8 y9 y10 y11 y12 y13 y14 y15 y16 y17 y18 y19 y20 y21 y22 y23 y24 y25
    have hb := HBv.out
    have V0 := hb.cell 0
    simp at V0
    clear hb
    have hb := HBc.out
    obtain ⟨c0, c1, c2, c3, c4, c5, c6, c7, c8, c9, c10, c11, c12⟩ := hb.cells13
    clear hb
    obtain ⟨y0, y1, y2, y3, y4, y5, y6, y7, y8, y9, y10, y11, y12, y13, y14, y15, y16, y17, y18, y19, y20, y21, y22, y23, y24, y25⟩ := kc26 HK1.out lg g0 g1 g2 g3 g4 g5 g6 g7 g8 g9 g10 g11 g12 g13 g14 g15 g16 g17 g18 g19 g20 g21 g22 g23 g24 g25
    have V0 := fun U : GW W0 => GW.cell V0 U
    obtain ⟨c0, c1, c2, c3, c4, c5, c6, c7, c8, c9, c10, c11, c12⟩ := gw13 c0 c1 c2 c3 c4 c5 c6 c7 c8 c9 c10 c11 c12
    obtain ⟨y0, y1, y2, y3, y4, y5, y6, y7, y8, y9, y10, y11, y12, y13, y14, y15, y16, y17, y18, y19, y20, y21, y22, y23, y24, y25⟩ := gw26 y0 y1 y2 y3 y4 y5 y6 y7 y8 y9 y10 y11 y12 y13 y14 y15 y16 y17 y18 y19 y20 y21 y22 y23 y24 y25
    refine wp_region_grow (by kernel_rfl) (by kernel_rfl) ?_
    repeat (go_big_quiet_step (first | (go_at_call 106; exact Calls.grow _ (FA.out _ (HK1.out.trans (GW.keep _))))))
    refine wpQuiet_nil ?_
    rintro _ ⟨U1, rfl⟩
    have HK2 := hH (HK1.out.trans U1.keep)
    go_wp2
    go_ret
    exact ⟨(by rw [HR.out]; first | done | rfl), HK2.out⟩
   have HB1 := hH hb
   have FA := hH (fun W (hk : Keeps noBlk w W) => (show Calls Tryd.prog 106 #[b.val] W (fun e w' => e = .returned (.bool true) ∧ Keeps noBlk W w') from by rw [← hb]; exact Fb.out W hk))
   unfold ChM.val at FA
   clear hb
   by_cases hid : b.id = 2
   case neg =>
    have HR : Hid (wkB2 a b = false) := hH (by unfold wkB2; rw [kO_no2 hid, Bool.and_false])
    have hx : (b.id != 2) = true := by simpa using hid
    clear hid
    have hb := HBV0.out
    have V0 := hb.cell 0
    simp at V0
    clear hb
    obtain ⟨y0, y1, y2, y3, y4, y5, y6, y7, y8, y9, y10, y11, y12, y13, y14, y15, y16, y17, y18, y19, y20, y21, y22, y23, y24, y25⟩ := kc26 HK0.out lg g0 g1 g2 g3 g4 g5 g6 g7 g8 g9 g10 g11 g12 g13 g14 g15 g16 g17 g18 g19 g20 g21 g22 g23 g24 g25
    go_wp2_with fail
    have HBc := hH (Box.new wr _ rfl 94 (chC b))
    have hbv := HBV0.out.alloc (.cells (chC b) 94)
    have HBv := hH hbv
    clear hbv
    have HK1 := hH (HK0.out.alloc (.cells (chC b) 94))
    have zc : wr.heap.size < (wr.alloc (.cells (chC b) 94)).heap.size := by simp
    have sg := HK0.out.size
    (try simp at sg)
    have HKW := hH (fun (U : GW (wr.alloc (.cells (chC b) 94))) => (HKP.out.alloc (.cells (chC b) 94)).trans U.keep)
    generalize wr.alloc (.cells (chC b) 94) = W0 at HKW HBc HBv HK1 zc ⊢
    clear V0 y0 y1 y2 y3 y4 y5 y6 y7 y8 y9 y10 y11 y12 y13 y14 y15 y16 y17 y18 y19 y20 y21 y22 y23 y24 y25
    have hb := HBv.out
    have V0 := hb.cell 0
    simp at V0
    clear hb
    have hb := HBc.out
    obtain ⟨c0, c1, c2, c3, c4, c5, c6, c7, c8, c9, c10, c11, c12⟩ := hb.cells13
    clear hb
    obtain ⟨y0, y1, y2, y3, y4, y5, y6, y7, y8, y9, y10, y11, y12, y13, y14, y15, y16, y17, y18, y19, y20, y21, y22, y23, y24, y25⟩ := kc26 HK1.out lg g0 g1 g2 g3 g4 g5 g6 g7 g8 g9 g10 g11 g12 g13 g14 g15 g16 g17 g18 g19 g20 g21 g22 g23 g24 g25
    have V0 := fun U : GW W0 => GW.cell V0 U
    obtain ⟨c0, c1, c2, c3, c4, c5, c6, c7, c8, c9, c10, c11, c12⟩ := gw13 c0 c1 c2 c3 c4 c5 c6 c7 c8 c9 c10 c11 c12
    obtain ⟨y0, y1, y2, y3, y4, y5, y6, y7, y8, y9, y10, y11, y12, y13, y14, y15, y16, y17, y18, y19, y20, y21, y22, y23, y24, y25⟩ := gw26 y0 y1 y2 y3 y4 y5 y6 y7 y8 y9 y10 y11 y12 y13 y14 y15 y16 y17 y18 y19 y20 y21 y22 y23 y24 y25
    refine wp_region_grow (by kernel_rfl) (by kernel_rfl) ?_
    repeat (go_big_quiet_step (first | (go_at_call 106; exact Calls.grow _ (FA.out _ (HK1.out.trans (GW.keep _))))))
    refine wpQuiet_nil ?_
    rintro _ ⟨U1, rfl⟩
    have HK2 := hH (HK1.out.trans U1.keep)
    go_wp2
    go_ret
    exact ⟨(by rw [HR.out]; first | done | rfl), HK2.out⟩
   have hx : (b.id != 2) = false := by simpa using hid
   have HID := hH hid
   clear hid
   rcases Nat.eq_zero_or_pos b.knows.length with hn | hn
   ·have HR : Hid ((kO b a 2) = true) := hH (kO_nil HB1.out HID.out hn)
    have hl0 : decide ((0 : Int) < (b.knows.length : Int)) = false := decide_eq_false (by omega)
    have hl0n : decide (0 < b.knows.length) = false := decide_eq_false (by omega)
    clear hn
    have hb := HBV0.out
    have V0 := hb.cell 0
    simp at V0
    clear hb
    obtain ⟨y0, y1, y2, y3, y4, y5, y6, y7, y8, y9, y10, y11, y12, y13, y14, y15, y16, y17, y18, y19, y20, y21, y22, y23, y24, y25⟩ := kc26 HK0.out lg g0 g1 g2 g3 g4 g5 g6 g7 g8 g9 g10 g11 g12 g13 g14 g15 g16 g17 g18 g19 g20 g21 g22 g23 g24 g25
    go_wp2_with fail
    have HBc := hH (Box.new wr _ rfl 94 (chC b))
    have hbv := HBV0.out.alloc (.cells (chC b) 94)
    have HBv := hH hbv
    clear hbv
    have HK1 := hH (HK0.out.alloc (.cells (chC b) 94))
    have zc : wr.heap.size < (wr.alloc (.cells (chC b) 94)).heap.size := by simp
    have sg := HK0.out.size
    (try simp at sg)
    have HKW := hH (fun (U : GW (wr.alloc (.cells (chC b) 94))) => (HKP.out.alloc (.cells (chC b) 94)).trans U.keep)
    generalize wr.alloc (.cells (chC b) 94) = W0 at HKW HBc HBv HK1 zc ⊢
    clear V0 y0 y1 y2 y3 y4 y5 y6 y7 y8 y9 y10 y11 y12 y13 y14 y15 y16 y17 y18 y19 y20 y21 y22 y23 y24 y25
    have hb := HBv.out
    have V0 := hb.cell 0
    simp at V0
    clear hb
    have hb := HBc.out
    obtain ⟨c0, c1, c2, c3, c4, c5, c6, c7, c8, c9, c10, c11, c12⟩ := hb.cells13
    clear hb
    obtain ⟨y0, y1, y2, y3, y4, y5, y6, y7, y8, y9, y10, y11, y12, y13, y14, y15, y16, y17, y18, y19, y20, y21, y22, y23, y24, y25⟩ := kc26 HK1.out lg g0 g1 g2 g3 g4 g5 g6 g7 g8 g9 g10 g11 g12 g13 g14 g15 g16 g17 g18 g19 g20 g21 g22 g23 g24 g25
    have V0 := fun U : GW W0 => GW.cell V0 U
    obtain ⟨c0, c1, c2, c3, c4, c5, c6, c7, c8, c9, c10, c11, c12⟩ := gw13 c0 c1 c2 c3 c4 c5 c6 c7 c8 c9 c10 c11 c12
    obtain ⟨y0, y1, y2, y3, y4, y5, y6, y7, y8, y9, y10, y11, y12, y13, y14, y15, y16, y17, y18, y19, y20, y21, y22, y23, y24, y25⟩ := gw26 y0 y1 y2 y3 y4 y5 y6 y7 y8 y9 y10 y11 y12 y13 y14 y15 y16 y17 y18 y19 y20 y21 y22 y23 y24 y25
    refine wp_region_grow (by kernel_rfl) (by kernel_rfl) ?_
    repeat (go_big_quiet_step (first | (go_at_call 106; exact Calls.grow _ (FA.out _ (HK1.out.trans (GW.keep _))))))
    refine wpQuiet_nil ?_
    rintro _ ⟨U1, rfl⟩
    have HK2 := hH (HK1.out.trans U1.keep)
    go_wp2
    refine ⟨⟨.inr (.inr ⟨rfl, HR0.out, HR.out⟩), HKW.out U1⟩, by simp [intOf]⟩
   obtain ⟨k9, hk9⟩ : ∃ k9, b.knows.length = k9 + 1 := ⟨b.knows.length - 1, by omega⟩
   have hl1 : decide ((0 : Int) < (b.knows.length : Int)) = true := decide_eq_true (by omega)
   have hl1n : decide (0 < b.knows.length) = true := decide_eq_true (by omega)
   have hm9 := h.rb.m4
   unfold maxLen at hm9
   obtain ⟨bb, off, eA, hbb, D2⟩ := h.rb.knows.at_ (k := k9) (by omega)
   obtain ⟨v9, hv9⟩ : ∃ v, b.knows.getD k9 0 = v := ⟨_, rfl⟩
   rw [hv9] at D2
   have HL := hH (kO_last (d := a) HB1.out HID.out hk9 hv9)
   have HE9 := hH hk9
   have hw9 : IntKind.i64.wrap ((b.knows.length : Int) - 1) = (k9 : Int) := by rw [show (b.knows.length : Int) - 1 = (k9 : Int) by omega]; exact IntWalk.i64_in _ (by omega)
   have hi9 : (k9 : Int) < (b.knows.length : Int) := by omega
   clear hn hk9 hv9
   rw [eA] at FA g25
   by_cases hgt : (a.past.length : Int) < v9
   ·have HR : Hid (wkB2 a b = false) := hH (by unfold wkB2; rw [HL.out, decide_eq_true hgt]; simp)
    have hgb : decide ((a.past.length : Int) < v9) = true := decide_eq_true hgt
    have hb := HBV0.out
    have V0 := hb.cell 0
    simp at V0
    clear hb
    obtain ⟨y0, y1, y2, y3, y4, y5, y6, y7, y8, y9, y10, y11, y12, y13, y14, y15, y16, y17, y18, y19, y20, y21, y22, y23, y24, y25⟩ := kc26 HK0.out lg g0 g1 g2 g3 g4 g5 g6 g7 g8 g9 g10 g11 g12 g13 g14 g15 g16 g17 g18 g19 g20 g21 g22 g23 g24 g25
    go_wp2_with fail
    have HBc := hH (Box.new wr _ rfl 94 #[.int .i64 b.id, .slice b.bk.A1 b.bk.b.own.length b.bk.c1, .slice b.bk.A2 b.bk.b.notes.length b.bk.c2, .int .i64 b.bk.b.locked, .int .i64 b.st.x.way, .int .i64 b.st.x.ver, .int .i64 b.st.x.want, .slice b.st.A1 b.st.x.sent.length b.st.c1, .slice b.st.A2 b.st.x.live.length b.st.c2, .slice b.st.A3 b.st.x.back.length b.st.c3, .slice b.st.A4 b.st.x.got.length b.st.c4, .slice b.pA b.past.length b.pc, .slice (some ⟨bb, off, none⟩) b.knows.length b.kc])
    have hbv := HBV0.out.alloc (.cells #[.int .i64 b.id, .slice b.bk.A1 b.bk.b.own.length b.bk.c1, .slice b.bk.A2 b.bk.b.notes.length b.bk.c2, .int .i64 b.bk.b.locked, .int .i64 b.st.x.way, .int .i64 b.st.x.ver, .int .i64 b.st.x.want, .slice b.st.A1 b.st.x.sent.length b.st.c1, .slice b.st.A2 b.st.x.live.length b.st.c2, .slice b.st.A3 b.st.x.back.length b.st.c3, .slice b.st.A4 b.st.x.got.length b.st.c4, .slice b.pA b.past.length b.pc, .slice (some ⟨bb, off, none⟩) b.knows.length b.kc] 94)
    have HBv := hH hbv
    clear hbv
    have HK1 := hH (HK0.out.alloc (.cells #[.int .i64 b.id, .slice b.bk.A1 b.bk.b.own.length b.bk.c1, .slice b.bk.A2 b.bk.b.notes.length b.bk.c2, .int .i64 b.bk.b.locked, .int .i64 b.st.x.way, .int .i64 b.st.x.ver, .int .i64 b.st.x.want, .slice b.st.A1 b.st.x.sent.length b.st.c1, .slice b.st.A2 b.st.x.live.length b.st.c2, .slice b.st.A3 b.st.x.back.length b.st.c3, .slice b.st.A4 b.st.x.got.length b.st.c4, .slice b.pA b.past.length b.pc, .slice (some ⟨bb, off, none⟩) b.knows.length b.kc] 94))
    have zc : wr.heap.size < (wr.alloc (.cells #[.int .i64 b.id, .slice b.bk.A1 b.bk.b.own.length b.bk.c1, .slice b.bk.A2 b.bk.b.notes.length b.bk.c2, .int .i64 b.bk.b.locked, .int .i64 b.st.x.way, .int .i64 b.st.x.ver, .int .i64 b.st.x.want, .slice b.st.A1 b.st.x.sent.length b.st.c1, .slice b.st.A2 b.st.x.live.length b.st.c2, .slice b.st.A3 b.st.x.back.length b.st.c3, .slice b.st.A4 b.st.x.got.length b.st.c4, .slice b.pA b.past.length b.pc, .slice (some ⟨bb, off, none⟩) b.knows.length b.kc] 94)).heap.size := by simp
    have sg := HK0.out.size
    (try simp at sg)
    have HKW := hH (fun (U : GW (wr.alloc (.cells #[.int .i64 b.id, .slice b.bk.A1 b.bk.b.own.length b.bk.c1, .slice b.bk.A2 b.bk.b.notes.length b.bk.c2, .int .i64 b.bk.b.locked, .int .i64 b.st.x.way, .int .i64 b.st.x.ver, .int .i64 b.st.x.want, .slice b.st.A1 b.st.x.sent.length b.st.c1, .slice b.st.A2 b.st.x.live.length b.st.c2, .slice b.st.A3 b.st.x.back.length b.st.c3, .slice b.st.A4 b.st.x.got.length b.st.c4, .slice b.pA b.past.length b.pc, .slice (some ⟨bb, off, none⟩) b.knows.length b.kc] 94))) => (HKP.out.alloc (.cells #[.int .i64 b.id, .slice b.bk.A1 b.bk.b.own.length b.bk.c1, .slice b.bk.A2 b.bk.b.notes.length b.bk.c2, .int .i64 b.bk.b.locked, .int .i64 b.st.x.way, .int .i64 b.st.x.ver, .int .i64 b.st.x.want, .slice b.st.A1 b.st.x.sent.length b.st.c1, .slice b.st.A2 b.st.x.live.length b.st.c2, .slice b.st.A3 b.st.x.back.length b.st.c3, .slice b.st.A4 b.st.x.got.length b.st.c4, .slice b.pA b.past.length b.pc, .slice (some ⟨bb, off, none⟩) b.knows.length b.kc] 94)).trans U.keep)
    generalize wr.alloc (.cells #[.int .i64 b.id, .slice b.bk.A1 b.bk.b.own.length b.bk.c1, .slice b.bk.A2 b.bk.b.notes.length b.bk.c2, .int .i64 b.bk.b.locked, .int .i64 b.st.x.way, .int .i64 b.st.x.ver, .int .i64 b.st.x.want, .slice b.st.A1 b.st.x.sent.length b.st.c1, .slice b.st.A2 b.st.x.live.length b.st.c2, .slice b.st.A3 b.st.x.back.length b.st.c3, .slice b.st.A4 b.st.x.got.length b.st.c4, .slice b.pA b.past.length b.pc, .slice (some ⟨bb, off, none⟩) b.knows.length b.kc] 94) = W0 at HKW HBc HBv HK1 zc ⊢
    clear V0 y0 y1 y2 y3 y4 y5 y6 y7 y8 y9 y10 y11 y12 y13 y14 y15 y16 y17 y18 y19 y20 y21 y22 y23 y24 y25
    have hb := HBv.out
    have V0 := hb.cell 0
    simp at V0
    clear hb
    have hb := HBc.out
    obtain ⟨c0, c1, c2, c3, c4, c5, c6, c7, c8, c9, c10, c11, c12⟩ := hb.cells13
    clear hb
    obtain ⟨y0, y1, y2, y3, y4, y5, y6, y7, y8, y9, y10, y11, y12, y13, y14, y15, y16, y17, y18, y19, y20, y21, y22, y23, y24, y25⟩ := kc26 HK1.out lg g0 g1 g2 g3 g4 g5 g6 g7 g8 g9 g10 g11 g12 g13 g14 g15 g16 g17 g18 g19 g20 g21 g22 g23 g24 g25
    have d2 := (HK1.out.cell hbb (fun h => h)).trans D2
    have V0 := fun U : GW W0 => GW.cell V0 U
    obtain ⟨c0, c1, c2, c3, c4, c5, c6, c7, c8, c9, c10, c11, c12⟩ := gw13 c0 c1 c2 c3 c4 c5 c6 c7 c8 c9 c10 c11 c12
    obtain ⟨y0, y1, y2, y3, y4, y5, y6, y7, y8, y9, y10, y11, y12, y13, y14, y15, y16, y17, y18, y19, y20, y21, y22, y23, y24, y25⟩ := gw26 y0 y1 y2 y3 y4 y5 y6 y7 y8 y9 y10 y11 y12 y13 y14 y15 y16 y17 y18 y19 y20 y21 y22 y23 y24 y25
    have d2 := fun U : GW W0 => GW.cell d2 U
    refine wp_region_grow (by kernel_rfl) (by kernel_rfl) ?_
    repeat (go_big_quiet_step (first | (go_at_call 106; exact Calls.grow _ (FA.out _ (HK1.out.trans (GW.keep _))))))
    refine wpQuiet_nil ?_
    rintro _ ⟨U1, rfl⟩
    have HK2 := hH (HK1.out.trans U1.keep)
    go_wp2
    go_ret
    exact ⟨(by rw [HR.out]; first | done | rfl), HK2.out⟩
   ·have HR : Hid ((kO b a 2) = true) := hH (by rw [HL.out, decide_eq_false hgt]; rfl)
    have hgb : decide ((a.past.length : Int) < v9) = false := decide_eq_false hgt
    have hb := HBV0.out
    have V0 := hb.cell 0
    simp at V0
    clear hb
    obtain ⟨y0, y1, y2, y3, y4, y5, y6, y7, y8, y9, y10, y11, y12, y13, y14, y15, y16, y17, y18, y19, y20, y21, y22, y23, y24, y25⟩ := kc26 HK0.out lg g0 g1 g2 g3 g4 g5 g6 g7 g8 g9 g10 g11 g12 g13 g14 g15 g16 g17 g18 g19 g20 g21 g22 g23 g24 g25
    go_wp2_with fail
    have HBc := hH (Box.new wr _ rfl 94 #[.int .i64 b.id, .slice b.bk.A1 b.bk.b.own.length b.bk.c1, .slice b.bk.A2 b.bk.b.notes.length b.bk.c2, .int .i64 b.bk.b.locked, .int .i64 b.st.x.way, .int .i64 b.st.x.ver, .int .i64 b.st.x.want, .slice b.st.A1 b.st.x.sent.length b.st.c1, .slice b.st.A2 b.st.x.live.length b.st.c2, .slice b.st.A3 b.st.x.back.length b.st.c3, .slice b.st.A4 b.st.x.got.length b.st.c4, .slice b.pA b.past.length b.pc, .slice (some ⟨bb, off, none⟩) b.knows.length b.kc])
    have hbv := HBV0.out.alloc (.cells #[.int .i64 b.id, .slice b.bk.A1 b.bk.b.own.length b.bk.c1, .slice b.bk.A2 b.bk.b.notes.length b.bk.c2, .int .i64 b.bk.b.locked, .int .i64 b.st.x.way, .int .i64 b.st.x.ver, .int .i64 b.st.x.want, .slice b.st.A1 b.st.x.sent.length b.st.c1, .slice b.st.A2 b.st.x.live.length b.st.c2, .slice b.st.A3 b.st.x.back.length b.st.c3, .slice b.st.A4 b.st.x.got.length b.st.c4, .slice b.pA b.past.length b.pc, .slice (some ⟨bb, off, none⟩) b.knows.length b.kc] 94)
    have HBv := hH hbv
    clear hbv
    have HK1 := hH (HK0.out.alloc (.cells #[.int .i64 b.id, .slice b.bk.A1 b.bk.b.own.length b.bk.c1, .slice b.bk.A2 b.bk.b.notes.length b.bk.c2, .int .i64 b.bk.b.locked, .int .i64 b.st.x.way, .int .i64 b.st.x.ver, .int .i64 b.st.x.want, .slice b.st.A1 b.st.x.sent.length b.st.c1, .slice b.st.A2 b.st.x.live.length b.st.c2, .slice b.st.A3 b.st.x.back.length b.st.c3, .slice b.st.A4 b.st.x.got.length b.st.c4, .slice b.pA b.past.length b.pc, .slice (some ⟨bb, off, none⟩) b.knows.length b.kc] 94))
    have zc : wr.heap.size < (wr.alloc (.cells #[.int .i64 b.id, .slice b.bk.A1 b.bk.b.own.length b.bk.c1, .slice b.bk.A2 b.bk.b.notes.length b.bk.c2, .int .i64 b.bk.b.locked, .int .i64 b.st.x.way, .int .i64 b.st.x.ver, .int .i64 b.st.x.want, .slice b.st.A1 b.st.x.sent.length b.st.c1, .slice b.st.A2 b.st.x.live.length b.st.c2, .slice b.st.A3 b.st.x.back.length b.st.c3, .slice b.st.A4 b.st.x.got.length b.st.c4, .slice b.pA b.past.length b.pc, .slice (some ⟨bb, off, none⟩) b.knows.length b.kc] 94)).heap.size := by simp
    have sg := HK0.out.size
    (try simp at sg)
    have HKW := hH (fun (U : GW (wr.alloc (.cells #[.int .i64 b.id, .slice b.bk.A1 b.bk.b.own.length b.bk.c1, .slice b.bk.A2 b.bk.b.notes.length b.bk.c2, .int .i64 b.bk.b.locked, .int .i64 b.st.x.way, .int .i64 b.st.x.ver, .int .i64 b.st.x.want, .slice b.st.A1 b.st.x.sent.length b.st.c1, .slice b.st.A2 b.st.x.live.length b.st.c2, .slice b.st.A3 b.st.x.back.length b.st.c3, .slice b.st.A4 b.st.x.got.length b.st.c4, .slice b.pA b.past.length b.pc, .slice (some ⟨bb, off, none⟩) b.knows.length b.kc] 94))) => (HKP.out.alloc (.cells #[.int .i64 b.id, .slice b.bk.A1 b.bk.b.own.length b.bk.c1, .slice b.bk.A2 b.bk.b.notes.length b.bk.c2, .int .i64 b.bk.b.locked, .int .i64 b.st.x.way, .int .i64 b.st.x.ver, .int .i64 b.st.x.want, .slice b.st.A1 b.st.x.sent.length b.st.c1, .slice b.st.A2 b.st.x.live.length b.st.c2, .slice b.st.A3 b.st.x.back.length b.st.c3, .slice b.st.A4 b.st.x.got.length b.st.c4, .slice b.pA b.past.length b.pc, .slice (some ⟨bb, off, none⟩) b.knows.length b.kc] 94)).trans U.keep)
    generalize wr.alloc (.cells #[.int .i64 b.id, .slice b.bk.A1 b.bk.b.own.length b.bk.c1, .slice b.bk.A2 b.bk.b.notes.length b.bk.c2, .int .i64 b.bk.b.locked, .int .i64 b.st.x.way, .int .i64 b.st.x.ver, .int .i64 b.st.x.want, .slice b.st.A1 b.st.x.sent.length b.st.c1, .slice b.st.A2 b.st.x.live.length b.st.c2, .slice b.st.A3 b.st.x.back.length b.st.c3, .slice b.st.A4 b.st.x.got.length b.st.c4, .slice b.pA b.past.length b.pc, .slice (some ⟨bb, off, none⟩) b.knows.length b.kc] 94) = W0 at HKW HBc HBv HK1 zc ⊢
    clear V0 y0 y1 y2 y3 y4 y5 y6 y7 y8 y9 y10 y11 y12 y13 y14 y15 y16 y17 y18 y19 y20 y21 y22 y23 y24 y25
    have hb := HBv.out
    have V0 := hb.cell 0
    simp at V0
    clear hb
    have hb := HBc.out
    obtain ⟨c0, c1, c2, c3, c4, c5, c6, c7, c8, c9, c10, c11, c12⟩ := hb.cells13
    clear hb
    obtain ⟨y0, y1, y2, y3, y4, y5, y6, y7, y8, y9, y10, y11, y12, y13, y14, y15, y16, y17, y18, y19, y20, y21, y22, y23, y24, y25⟩ := kc26 HK1.out lg g0 g1 g2 g3 g4 g5 g6 g7 g8 g9 g10 g11 g12 g13 g14 g15 g16 g17 g18 g19 g20 g21 g22 g23 g24 g25
    have d2 := (HK1.out.cell hbb (fun h => h)).trans D2
    have V0 := fun U : GW W0 => GW.cell V0 U
    obtain ⟨c0, c1, c2, c3, c4, c5, c6, c7, c8, c9, c10, c11, c12⟩ := gw13 c0 c1 c2 c3 c4 c5 c6 c7 c8 c9 c10 c11 c12
    obtain ⟨y0, y1, y2, y3, y4, y5, y6, y7, y8, y9, y10, y11, y12, y13, y14, y15, y16, y17, y18, y19, y20, y21, y22, y23, y24, y25⟩ := gw26 y0 y1 y2 y3 y4 y5 y6 y7 y8 y9 y10 y11 y12 y13 y14 y15 y16 y17 y18 y19 y20 y21 y22 y23 y24 y25
    have d2 := fun U : GW W0 => GW.cell d2 U
    refine wp_region_grow (by kernel_rfl) (by kernel_rfl) ?_
    repeat (go_big_quiet_step (first | (go_at_call 106; exact Calls.grow _ (FA.out _ (HK1.out.trans (GW.keep _))))))
    refine wpQuiet_nil ?_
    rintro _ ⟨U1, rfl⟩
    have HK2 := hH (HK1.out.trans U1.keep)
    go_wp2
    refine ⟨⟨.inr (.inr ⟨rfl, HR0.out, HR.out⟩), HKW.out U1⟩, by simp [intOf]⟩
  ·have HR : Hid (wkB2 a b = true) := hH (by unfold wkB2; rw [h0, h1]; rfl)
   clear h0 h1
   have hb := HBV.out.keeps hkp (fun h => h)
   have V0 := hb.cell 0
   simp at V0
   clear hb
   have HK9 := hH (HK.out.trans hkp)
   clear hkp
   go_wp2
   go_ret
   exact ⟨(by rw [HR.out]; first | done | rfl), HK9.out⟩

theorem info_ev : (Tryd.prog.info? 102).map (fun i => (i.zero, i.size, i.bytes)) = some (some (.agg zC11), 11, 88) := by kernel_rfl
def RetPlan (w : World) (l : List Ev) (e : Ending) (w' : World) : Prop := ∃ A c, e = .returned (.slice A l.length c) ∧ Evs w' A l.length l ∧ (∀ b, blk A l.length b → w.heap.size ≤ b) ∧ Keeps noBlk w w'
def planOf (c d : ChM) (ch : Int) : List Ev := if c.knows.length = 0 then [] else planL c (d.past.getD ((c.knows.getD (c.knows.length - 1) 0) - 1).toNat stm0).x ch (c.knows.getD (c.knows.length - 1) 0)
theorem kn_ge1 {l : List Int} {k : Nat} (h : KnOk l) (hk : k < l.length) : 1 ≤ l.getD k 0 := (h k hk).1.1
theorem pkok_of {x : StL} (h : stB x = true) {k : Nat} (hk : k < x.sent.length) : (x.sent.getD k pk0).ok = true := ((stB_ok h).2.1 k hk).1
theorem st_fits {x : StL} (h : stB x = true) : x.sent.length ≤ 8 := (stB_lenW h).1
theorem ev_shape {w : World} {e : TypeId} {sz n : Nat} {v : Value} {xs : List Value} (h : w.ownsRow 0 e sz v n xs) : ∃ A c, v = .slice A n c := (show Rw (fun _ => 0) 0 w e sz v n xs from ⟨h, fun _ _ => rfl⟩).shape
end Go.Proofs.YtjcbeihoeanhaaaDoor
