/- One store into a state of the call's own; settle() of the program. refund() of the program. -/
import Derived.Test.YtcnbephpadmboaaGreatDoorCxY
import Derived.Test.YtcnbephpadmboaaGreatDoorUCxB
import Derived.Test.YtcnbephpadmboaaGreatDoorIAB
set_option linter.unusedVariables false
set_option linter.unusedSimpArgs false
/-! RyB -/
namespace Go.Proofs.YtcnbephpadmboaaGreatDoor
open Go.RowKit

theorem StOwn.live_ {w : World} {lo k : Nat} {x : StL} {A1 A2 A3 A4 : Option Addr} (h : StOwn w lo x A1 A2 A3 A4) (hk : k < x.live.length) (v : Bool) :
    ∃ b off, A2 = some ⟨b, off, none⟩ ∧ lo ≤ b ∧ b < w.heap.size ∧ w.cell? ⟨b, off + k, none⟩ = some (.bool (x.live.getD k false)) ∧ w.frozen? ⟨b, off + k, none⟩ = false ∧ StOwn (w.setCell ⟨b, off + k, none⟩ (.bool v)) lo { x with live := x.live.set k v } A1 A2 A3 A4 := by
  obtain ⟨s1, s2, s3, ⟨h1, h2, h3, h4⟩, q1, q2, q3, e1, e2, e3⟩ := h
  obtain ⟨b, off, rfl, hl, hb, hc, hf⟩ := h2.at_ hk
  have hbk : blk (some ⟨b, off, none⟩) x.live.length b := ⟨by omega, _, rfl, rfl⟩
  have hb2 := q2 b hbk
  have new : BRow (w.setCell ⟨b, off + k, none⟩ (.bool v)) s1 (some ⟨b, off, none⟩) (x.live.set k v).length (x.live.set k v) := by
    rw [List.length_set]
    exact h2.set_ hk v
  exact ⟨b, off, rfl, by omega, hb, hc, hf, s1, s2, s3, ⟨h1.far (fun h => by have h5 : _ := q1 b h; omega) _, new, h3.far (fun h => by have h5 := h3.ge h; (try dsimp only at h5); omega) _, h4.far (fun h => by have h5 := h4.ge h; (try dsimp only at h5); omega) _⟩, q1, fun i hi => q2 i (by rwa [List.length_set] at hi), q3, e1, e2, e3⟩
theorem StOwn.back_ {w : World} {lo k : Nat} {x : StL} {A1 A2 A3 A4 : Option Addr} (h : StOwn w lo x A1 A2 A3 A4) (hk : k < x.back.length) (v : Bool) :
    ∃ b off, A3 = some ⟨b, off, none⟩ ∧ lo ≤ b ∧ b < w.heap.size ∧ w.cell? ⟨b, off + k, none⟩ = some (.bool (x.back.getD k false)) ∧ w.frozen? ⟨b, off + k, none⟩ = false ∧ StOwn (w.setCell ⟨b, off + k, none⟩ (.bool v)) lo { x with back := x.back.set k v } A1 A2 A3 A4 := by
  obtain ⟨s1, s2, s3, ⟨h1, h2, h3, h4⟩, q1, q2, q3, e1, e2, e3⟩ := h
  obtain ⟨b, off, rfl, hl, hb, hc, hf⟩ := h3.at_ hk
  have hbk : blk (some ⟨b, off, none⟩) x.back.length b := ⟨by omega, _, rfl, rfl⟩
  have hb2 := q3 b hbk
  have new : BRow (w.setCell ⟨b, off + k, none⟩ (.bool v)) s2 (some ⟨b, off, none⟩) (x.back.set k v).length (x.back.set k v) := by
    rw [List.length_set]
    exact h3.set_ hk v
  exact ⟨b, off, rfl, by omega, hb, hc, hf, s1, s2, s3, ⟨h1.far (fun h => by have h5 : _ := q1 b h; omega) _, h2.far (fun h => by have h5 : _ := q2 b h; omega) _, new, h4.far (fun h => by have h5 := h4.ge h; (try dsimp only at h5); omega) _⟩, q1, q2, fun i hi => q3 i (by rwa [List.length_set] at hi), e1, e2, e3⟩
set_option maxRecDepth 100000 in
set_option maxHeartbeats 8000000 in
theorem settle_any (c : ChM) (P : Option Addr) (k : Nat) (w : World) (h : c.st.At w) (h3 : c.st.x.sent.length ≤ 1000 ∧ c.st.x.live.length ≤ 1000 ∧ c.st.x.back.length ≤ 1000 ∧ c.st.x.got.length ≤ 1000) (hk : k < c.st.x.live.length) :
    Calls Tryz.prog 61 #[lkV c P, .int .i64 ((k : Int) + 1)] w fun e w' => ∃ t : StM, e = .returned (lkV { c with st := t } P) ∧ t.x = { c.st.x with live := c.st.x.live.set k false } ∧ t.Own w' w.heap.size ∧ Keeps noBlk w w' := by
  have HKL := Lib.hid hk
  have FC := Lib.hid (fun W (hk : Keeps noBlk w W) => implCopy_any c.st.x c.st.A1 c.st.A2 c.st.A3 c.st.A4 c.st.c1 c.st.c2 c.st.c3 c.st.c4 W (h.kept hk) (by omega) (by omega) (by omega) (by omega))
  unfold stV at FC
  have hw1 : IntKind.i64.wrap ((k : Int) + 1 - 1) = k := by rw [show (k : Int) + 1 - 1 = k by omega]; exact IntWalk.i64_in _ (by omega)
  have hw0 : IntKind.i64.wrap (k : Int) = k := IntWalk.i64_in _ (by omega)
  have hi0 : (0 : Int) ≤ k := by omega
  have HL9 := Lib.hid h3
  clear h hk h3
  have HBl := Lib.hid ((Box.new w _ rfl 78 #[.slice c.bk.A1 c.bk.b.own.length c.bk.c1, .slice c.bk.A2 c.bk.b.notes.length c.bk.c2, .int .i64 c.bk.b.locked, .int .i64 c.id, .int .i64 c.st.x.way, .int .i64 c.st.x.ver, .int .i64 c.st.x.want, .slice c.st.A1 c.st.x.sent.length c.st.c1, .slice c.st.A2 c.st.x.live.length c.st.c2, .slice c.st.A3 c.st.x.back.length c.st.c3, .slice c.st.A4 c.st.x.got.length c.st.c4, .pointer P, .slice c.kA c.knows.length c.kc]).alloc (.cells #[.slice none 0 0, .slice none 0 0, .int .i64 0, .int .i64 0, .int .i64 0, .int .i64 0, .int .i64 0, .slice none 0 0, .slice none 0 0, .slice none 0 0, .slice none 0 0, .pointer none, .slice none 0 0] 78))
  have HBr := Lib.hid (Box.new (w.alloc (.cells #[.slice c.bk.A1 c.bk.b.own.length c.bk.c1, .slice c.bk.A2 c.bk.b.notes.length c.bk.c2, .int .i64 c.bk.b.locked, .int .i64 c.id, .int .i64 c.st.x.way, .int .i64 c.st.x.ver, .int .i64 c.st.x.want, .slice c.st.A1 c.st.x.sent.length c.st.c1, .slice c.st.A2 c.st.x.live.length c.st.c2, .slice c.st.A3 c.st.x.back.length c.st.c3, .slice c.st.A4 c.st.x.got.length c.st.c4, .pointer P, .slice c.kA c.knows.length c.kc] 78)) (w.heap.size + 1) (by simp) 78 #[.slice none 0 0, .slice none 0 0, .int .i64 0, .int .i64 0, .int .i64 0, .int .i64 0, .int .i64 0, .slice none 0 0, .slice none 0 0, .slice none 0 0, .slice none 0 0, .pointer none, .slice none 0 0])
  have HK := Lib.hid (((Keeps.refl noBlk w).alloc (.cells #[.slice c.bk.A1 c.bk.b.own.length c.bk.c1, .slice c.bk.A2 c.bk.b.notes.length c.bk.c2, .int .i64 c.bk.b.locked, .int .i64 c.id, .int .i64 c.st.x.way, .int .i64 c.st.x.ver, .int .i64 c.st.x.want, .slice c.st.A1 c.st.x.sent.length c.st.c1, .slice c.st.A2 c.st.x.live.length c.st.c2, .slice c.st.A3 c.st.x.back.length c.st.c3, .slice c.st.A4 c.st.x.got.length c.st.c4, .pointer P, .slice c.kA c.knows.length c.kc] 78)).alloc (.cells #[.slice none 0 0, .slice none 0 0, .int .i64 0, .int .i64 0, .int .i64 0, .int .i64 0, .int .i64 0, .slice none 0 0, .slice none 0 0, .slice none 0 0, .slice none 0 0, .pointer none, .slice none 0 0] 78))
  unfold lkV
  go_enter Tryz.func61, Tryz.ntmps61
  have hb := HBl.out
  have l0 := hb.cell 0
  have l1 := hb.cell 1
  have l2 := hb.cell 2
  have l3 := hb.cell 3
  have l4 := hb.cell 4
  have l5 := hb.cell 5
  have l6 := hb.cell 6
  have l7 := hb.cell 7
  have l8 := hb.cell 8
  have l9 := hb.cell 9
  have l10 := hb.cell 10
  have l11 := hb.cell 11
  have l12 := hb.cell 12
  simp at l0 l1 l2 l3 l4 l5 l6 l7 l8 l9 l10 l11 l12
  have zl := hb.lt
  clear hb
  go_wp2_with fail
  refine (FC.out _ HK.out).mono ?_
  rintro e w1 ⟨⟨tx, T1, T2, T3, T4, u1, u2, u3, u4⟩, rfl, hx9, hk1, _, ho9⟩
  dsimp only [StM.val]
  dsimp only at hx9 ho9
  have HX := Lib.hid hx9
  have OW := Lib.hid ho9
  have OG := Lib.hid (fun b (hb : stBlk tx T1 T2 T3 T4 b) => ho9.ge hb)
  (try simp at OG)
  clear hx9 ho9
  clear l0 l1 l2 l3 l4 l5 l6 l7 l8 l9 l10 l11 l12 zl
  have hl := HBl.out.keeps hk1 (fun h => h)
  clear HBl
  have HBl := Lib.hid hl
  clear hl
  have hr := HBr.out.keeps hk1 (fun h => h)
  clear HBr
  have HBr := Lib.hid hr
  clear hr
  have hr := HK.out.trans hk1
  clear HK
  have HK := Lib.hid hr
  clear hr
  have sz1 := hk1.size
  (try simp at sz1)
  clear hk1
  have hb := HBl.out
  have l0 := hb.cell 0
  have l1 := hb.cell 1
  have l2 := hb.cell 2
  have l3 := hb.cell 3
  have l4 := hb.cell 4
  have l5 := hb.cell 5
  have l6 := hb.cell 6
  have l7 := hb.cell 7
  have l8 := hb.cell 8
  have l9 := hb.cell 9
  have l10 := hb.cell 10
  have l11 := hb.cell 11
  have l12 := hb.cell 12
  simp at l0 l1 l2 l3 l4 l5 l6 l7 l8 l9 l10 l11 l12
  have zl := hb.lt
  clear hb
  have hb := HBl.out
  have lf0 := hb.frozen 0
  have lf1 := hb.frozen 1
  have lf2 := hb.frozen 2
  have lf3 := hb.frozen 3
  have lf4 := hb.frozen 4
  have lf5 := hb.frozen 5
  have lf6 := hb.frozen 6
  have lf7 := hb.frozen 7
  have lf8 := hb.frozen 8
  have lf9 := hb.frozen 9
  have lf10 := hb.frozen 10
  have lf11 := hb.frozen 11
  have lf12 := hb.frozen 12
  clear hb
  have kt : Keeps (fun b => b = w.heap.size) w1 (((((((w1.setCell ⟨w.heap.size, 4, none⟩ (.int .i64 tx.way)).setCell ⟨w.heap.size, 5, none⟩ (.int .i64 tx.ver)).setCell ⟨w.heap.size, 6, none⟩ (.int .i64 tx.want)).setCell ⟨w.heap.size, 7, none⟩ (.slice T1 tx.sent.length u1)).setCell ⟨w.heap.size, 8, none⟩ (.slice T2 tx.live.length u2)).setCell ⟨w.heap.size, 9, none⟩ (.slice T3 tx.back.length u3)).setCell ⟨w.heap.size, 10, none⟩ (.slice T4 tx.got.length u4)) := ((((((((Keeps.refl (fun b => b = w.heap.size) w1).setCell (p := ⟨w.heap.size, 4, none⟩) (.inr rfl) (.int .i64 tx.way)).setCell (p := ⟨w.heap.size, 5, none⟩) (.inr rfl) (.int .i64 tx.ver)).setCell (p := ⟨w.heap.size, 6, none⟩) (.inr rfl) (.int .i64 tx.want)).setCell (p := ⟨w.heap.size, 7, none⟩) (.inr rfl) (.slice T1 tx.sent.length u1)).setCell (p := ⟨w.heap.size, 8, none⟩) (.inr rfl) (.slice T2 tx.live.length u2)).setCell (p := ⟨w.heap.size, 9, none⟩) (.inr rfl) (.slice T3 tx.back.length u3)).setCell (p := ⟨w.heap.size, 10, none⟩) (.inr rfl) (.slice T4 tx.got.length u4))
  have hb := (((((((HBl.out.set_ 4 (.int .i64 tx.way)).set_ 5 (.int .i64 tx.ver)).set_ 6 (.int .i64 tx.want)).set_ 7 (.slice T1 tx.sent.length u1)).set_ 8 (.slice T2 tx.live.length u2)).set_ 9 (.slice T3 tx.back.length u3)).set_ 10 (.slice T4 tx.got.length u4))
  simp only [List.setIfInBounds_toArray, List.set_cons_zero, List.set_cons_succ] at hb
  clear HBl
  have HBl := Lib.hid hb
  clear hb
  have hb := HBr.out.keeps kt fun h => by omega
  clear HBr
  have HBr := Lib.hid hb
  clear hb
  have hr := OW.out.keeps kt (fun b hb h => by have q := OG.out b hb; (try simp at q) <;> omega)
  clear OW
  have OW := Lib.hid hr
  clear hr
  have hr := HK.out.then kt fun i hi h => by omega
  clear HK
  have HK := Lib.hid hr
  clear hr
  have szk := kt.size
  (try simp at szk)
  clear kt
  go_upto_region 2 with fail
  clear l0 l1 l2 l3 l4 l5 l6 l7 l8 l9 l10 l11 l12 zl
  generalize (((((((w1.setCell ⟨w.heap.size, 4, none⟩ (.int .i64 tx.way)).setCell ⟨w.heap.size, 5, none⟩ (.int .i64 tx.ver)).setCell ⟨w.heap.size, 6, none⟩ (.int .i64 tx.want)).setCell ⟨w.heap.size, 7, none⟩ (.slice T1 tx.sent.length u1)).setCell ⟨w.heap.size, 8, none⟩ (.slice T2 tx.live.length u2)).setCell ⟨w.heap.size, 9, none⟩ (.slice T3 tx.back.length u3)).setCell ⟨w.heap.size, 10, none⟩ (.slice T4 tx.got.length u4)) = V2 at *
  clear lf0 lf1 lf2 lf3 lf4 lf5 lf6 lf7 lf8 lf9 lf10 lf11 lf12
  obtain ⟨b, off, rfl, hlo, hlt, hc9, hf9, ho9⟩ := StOwn.live_ OW.out (k := k) (by rw [HX.out]; exact HKL.out) false
  have hi1 : (k : Int) < (tx.live.length : Int) := by have := HKL.out; rw [HX.out]; omega
  have hge := OG.out b (.inr (.inl ⟨by omega, _, rfl, rfl⟩))
  (try simp at hge)
  have hn1 : ¬ b = w.heap.size := by omega
  have hn2 : ¬ w.heap.size = b := by omega
  have hn3 : ¬ b = w.heap.size + 1 := by omega
  have hn4 : ¬ w.heap.size + 1 = b := by omega
  have hb := HBl.out
  have l0 := hb.cell 0
  have l1 := hb.cell 1
  have l2 := hb.cell 2
  have l3 := hb.cell 3
  have l4 := hb.cell 4
  have l5 := hb.cell 5
  have l6 := hb.cell 6
  have l7 := hb.cell 7
  have l8 := hb.cell 8
  have l9 := hb.cell 9
  have l10 := hb.cell 10
  have l11 := hb.cell 11
  have l12 := hb.cell 12
  simp at l0 l1 l2 l3 l4 l5 l6 l7 l8 l9 l10 l11 l12
  have zl := hb.lt
  clear hb
  have HBl2 := Lib.hid (HBl.out.keeps ((Keeps.refl (fun x => x = b) V2).setCell (p := ⟨b, off + k, none⟩) (.inr rfl) (.bool false)) fun h => by omega)
  have HBr2 := Lib.hid (HBr.out.keeps ((Keeps.refl (fun x => x = b) V2).setCell (p := ⟨b, off + k, none⟩) (.inr rfl) (.bool false)) fun h => by omega)
  have HK2 := Lib.hid (HK.out.then ((Keeps.refl (fun x => x = b) V2).setCell (p := ⟨b, off + k, none⟩) (.inr rfl) (.bool false)) fun i hi h => by omega)
  go_upto_region 3 with fail
  clear l0 l1 l2 l3 l4 l5 l6 l7 l8 l9 l10 l11 l12 zl
  clear hc9 hf9 hlt OW HBl HBr HK
  generalize (V2.setCell ⟨b, off + k, none⟩ (.bool false)) = V3 at *
  have HBl := HBl2
  clear HBl2
  have HBr := HBr2
  clear HBr2
  have HK := HK2
  clear HK2
  have OW := Lib.hid ho9
  clear ho9
  have hb := HBl.out
  have l0 := hb.cell 0
  have l1 := hb.cell 1
  have l2 := hb.cell 2
  have l3 := hb.cell 3
  have l4 := hb.cell 4
  have l5 := hb.cell 5
  have l6 := hb.cell 6
  have l7 := hb.cell 7
  have l8 := hb.cell 8
  have l9 := hb.cell 9
  have l10 := hb.cell 10
  have l11 := hb.cell 11
  have l12 := hb.cell 12
  simp at l0 l1 l2 l3 l4 l5 l6 l7 l8 l9 l10 l11 l12
  have zl := hb.lt
  clear hb
  have hb := HBr.out
  have r0 := hb.cell 0
  have r1 := hb.cell 1
  have r2 := hb.cell 2
  have r3 := hb.cell 3
  have r4 := hb.cell 4
  have r5 := hb.cell 5
  have r6 := hb.cell 6
  have r7 := hb.cell 7
  have r8 := hb.cell 8
  have r9 := hb.cell 9
  have r10 := hb.cell 10
  have r11 := hb.cell 11
  have r12 := hb.cell 12
  simp at r0 r1 r2 r3 r4 r5 r6 r7 r8 r9 r10 r11 r12
  have zr := hb.lt
  clear hb
  have hb := HBr.out
  have rf0 := hb.frozen 0
  have rf1 := hb.frozen 1
  have rf2 := hb.frozen 2
  have rf3 := hb.frozen 3
  have rf4 := hb.frozen 4
  have rf5 := hb.frozen 5
  have rf6 := hb.frozen 6
  have rf7 := hb.frozen 7
  have rf8 := hb.frozen 8
  have rf9 := hb.frozen 9
  have rf10 := hb.frozen 10
  have rf11 := hb.frozen 11
  have rf12 := hb.frozen 12
  clear hb
  go_wp2
  have hbF := (((((((((((((HBr.out.set_ 0 (.slice c.bk.A1 c.bk.b.own.length c.bk.c1)).set_ 1 (.slice c.bk.A2 c.bk.b.notes.length c.bk.c2)).set_ 2 (.int .i64 c.bk.b.locked)).set_ 3 (.int .i64 c.id)).set_ 4 (.int .i64 tx.way)).set_ 5 (.int .i64 tx.ver)).set_ 6 (.int .i64 tx.want)).set_ 7 (.slice T1 tx.sent.length u1)).set_ 8 (.slice (some ⟨b, off, none⟩) tx.live.length u2)).set_ 9 (.slice T3 tx.back.length u3)).set_ 10 (.slice T4 tx.got.length u4)).set_ 11 (.pointer P)).set_ 12 (.slice c.kA c.knows.length c.kc))
  simp only [List.setIfInBounds_toArray, List.set_cons_zero, List.set_cons_succ] at hbF
  have s10 := hbF.cell 0
  have s11 := hbF.cell 1
  have s12 := hbF.cell 2
  have s13 := hbF.cell 3
  have s14 := hbF.cell 4
  have s15 := hbF.cell 5
  have s16 := hbF.cell 6
  have s17 := hbF.cell 7
  have s18 := hbF.cell 8
  have s19 := hbF.cell 9
  have s20 := hbF.cell 10
  have s21 := hbF.cell 11
  have s22 := hbF.cell 12
  simp at s10 s11 s12 s13 s14 s15 s16 s17 s18 s19 s20 s21 s22
  clear hbF
  have kS : Keeps (fun b => b = w.heap.size + 1) V3 (((((((((((((V3.setCell ⟨w.heap.size + 1, 0, none⟩ (.slice c.bk.A1 c.bk.b.own.length c.bk.c1)).setCell ⟨w.heap.size + 1, 1, none⟩ (.slice c.bk.A2 c.bk.b.notes.length c.bk.c2)).setCell ⟨w.heap.size + 1, 2, none⟩ (.int .i64 c.bk.b.locked)).setCell ⟨w.heap.size + 1, 3, none⟩ (.int .i64 c.id)).setCell ⟨w.heap.size + 1, 4, none⟩ (.int .i64 tx.way)).setCell ⟨w.heap.size + 1, 5, none⟩ (.int .i64 tx.ver)).setCell ⟨w.heap.size + 1, 6, none⟩ (.int .i64 tx.want)).setCell ⟨w.heap.size + 1, 7, none⟩ (.slice T1 tx.sent.length u1)).setCell ⟨w.heap.size + 1, 8, none⟩ (.slice (some ⟨b, off, none⟩) tx.live.length u2)).setCell ⟨w.heap.size + 1, 9, none⟩ (.slice T3 tx.back.length u3)).setCell ⟨w.heap.size + 1, 10, none⟩ (.slice T4 tx.got.length u4)).setCell ⟨w.heap.size + 1, 11, none⟩ (.pointer P)).setCell ⟨w.heap.size + 1, 12, none⟩ (.slice c.kA c.knows.length c.kc)) := ((((((((((((((Keeps.refl (fun b => b = w.heap.size + 1) V3).setCell (p := ⟨w.heap.size + 1, 0, none⟩) (.inr rfl) (.slice c.bk.A1 c.bk.b.own.length c.bk.c1)).setCell (p := ⟨w.heap.size + 1, 1, none⟩) (.inr rfl) (.slice c.bk.A2 c.bk.b.notes.length c.bk.c2)).setCell (p := ⟨w.heap.size + 1, 2, none⟩) (.inr rfl) (.int .i64 c.bk.b.locked)).setCell (p := ⟨w.heap.size + 1, 3, none⟩) (.inr rfl) (.int .i64 c.id)).setCell (p := ⟨w.heap.size + 1, 4, none⟩) (.inr rfl) (.int .i64 tx.way)).setCell (p := ⟨w.heap.size + 1, 5, none⟩) (.inr rfl) (.int .i64 tx.ver)).setCell (p := ⟨w.heap.size + 1, 6, none⟩) (.inr rfl) (.int .i64 tx.want)).setCell (p := ⟨w.heap.size + 1, 7, none⟩) (.inr rfl) (.slice T1 tx.sent.length u1)).setCell (p := ⟨w.heap.size + 1, 8, none⟩) (.inr rfl) (.slice (some ⟨b, off, none⟩) tx.live.length u2)).setCell (p := ⟨w.heap.size + 1, 9, none⟩) (.inr rfl) (.slice T3 tx.back.length u3)).setCell (p := ⟨w.heap.size + 1, 10, none⟩) (.inr rfl) (.slice T4 tx.got.length u4)).setCell (p := ⟨w.heap.size + 1, 11, none⟩) (.inr rfl) (.pointer P)).setCell (p := ⟨w.heap.size + 1, 12, none⟩) (.inr rfl) (.slice c.kA c.knows.length c.kc))
  generalize (((((((((((((V3.setCell ⟨w.heap.size + 1, 0, none⟩ (.slice c.bk.A1 c.bk.b.own.length c.bk.c1)).setCell ⟨w.heap.size + 1, 1, none⟩ (.slice c.bk.A2 c.bk.b.notes.length c.bk.c2)).setCell ⟨w.heap.size + 1, 2, none⟩ (.int .i64 c.bk.b.locked)).setCell ⟨w.heap.size + 1, 3, none⟩ (.int .i64 c.id)).setCell ⟨w.heap.size + 1, 4, none⟩ (.int .i64 tx.way)).setCell ⟨w.heap.size + 1, 5, none⟩ (.int .i64 tx.ver)).setCell ⟨w.heap.size + 1, 6, none⟩ (.int .i64 tx.want)).setCell ⟨w.heap.size + 1, 7, none⟩ (.slice T1 tx.sent.length u1)).setCell ⟨w.heap.size + 1, 8, none⟩ (.slice (some ⟨b, off, none⟩) tx.live.length u2)).setCell ⟨w.heap.size + 1, 9, none⟩ (.slice T3 tx.back.length u3)).setCell ⟨w.heap.size + 1, 10, none⟩ (.slice T4 tx.got.length u4)).setCell ⟨w.heap.size + 1, 11, none⟩ (.pointer P)).setCell ⟨w.heap.size + 1, 12, none⟩ (.slice c.kA c.knows.length c.kc)) = WF at kS s10 s11 s12 s13 s14 s15 s16 s17 s18 s19 s20 s21 s22 ⊢
  refine bodyPost_ret (v := lkV { c with st := ⟨{ tx with live := tx.live.set k false }, T1, some ⟨b, off, none⟩, T3, T4, u1, u2, u3, u4⟩ } P) (by simp [results, Tryz.results61, go_sem, lkV, s10, s11, s12, s13, s14, s15, s16, s17, s18, s19, s20, s21, s22]) rfl ?_
  exact ⟨⟨{ tx with live := tx.live.set k false }, T1, some ⟨b, off, none⟩, T3, T4, u1, u2, u3, u4⟩, rfl, by dsimp only; rw [HX.out], (StM.Own.keeps (s := ⟨{ tx with live := tx.live.set k false }, T1, some ⟨b, off, none⟩, T3, T4, u1, u2, u3, u4⟩) OW.out kS (fun b' hb' h => by have q := StOwn.ge OW.out hb'; (try simp at q) <;> omega)).less (by first | omega | (simp <;> omega)), HK.out.then kS fun i hi h => by omega⟩
end Go.Proofs.YtcnbephpadmboaaGreatDoor

/-! RyC -/
namespace Go.Proofs.YtcnbephpadmboaaGreatDoor
open Go.RowKit

def refB (b : BankL) (k f m : Int) : BankL := if backOk b k f m = true then backed b k f m else b
def RetRef (w : World) (c : ChM) (P : Option Addr) (b : BankL) (x : StL) (e : Ending) (w' : World) : Prop :=
  ∃ (s : BkM) (t : StM), e = .returned (lkV { c with bk := s, st := t } P) ∧ s.b = b ∧ t.x = x ∧ Ints w' s.A1 s.b.own.length s.b.own ∧ Ints w' s.A2 s.b.notes.length s.b.notes ∧ t.At w' ∧ (∀ b, (blk s.A1 s.b.own.length b ∨ blk s.A2 s.b.notes.length b) → w.heap.size ≤ b ∨ blk c.bk.A1 c.bk.b.own.length b ∨ blk c.bk.A2 c.bk.b.notes.length b) ∧ (∀ b, t.bl b → w.heap.size ≤ b) ∧ Keeps noBlk w w'
theorem retB2_no' {w w' : World} {b : BankL} {e : Ending} (h : RetB2 w false b e w') : e = .returned (.tuple #[noBank, .bool false]) ∧ Keeps noBlk w w' := by
  rcases h with ⟨h, _⟩ | ⟨_, h⟩
  · cases h
  · exact h
theorem retB2_yes' {w w' : World} {b : BankL} {e : Ending} (h : RetB2 w true b e w') :
    ∃ x1 y1 x2 y2, e = .returned (.tuple #[.agg #[.slice x1 b.own.length y1, .slice x2 b.notes.length y2, .int .i64 b.locked], .bool true]) ∧ Ints w' x1 b.own.length b.own ∧ Ints w' x2 b.notes.length b.notes ∧ (∀ i, (blk x1 b.own.length i ∨ blk x2 b.notes.length i) → w.heap.size ≤ i) ∧ Keeps noBlk w w' := by
  rcases h with ⟨_, h⟩ | ⟨h, _⟩
  · obtain ⟨v, rfl, ⟨x1, n1, y1, x2, n2, y2, rfl, h1, h2, _⟩, hk⟩ := h
    obtain rfl := h1.1.1
    obtain rfl := h2.1.1
    exact ⟨x1, y1, x2, y2, rfl, h1.1, h2.1, fun i hi => by rcases hi with hi | hi; exact h1.ge hi; exact h2.ge hi, hk⟩
  · cases h
set_option maxRecDepth 100000 in
set_option maxHeartbeats 8000000 in
theorem refund_no (c : ChM) (P : Option Addr) (k : Nat) (p : Pk) (w : World) (h : c.st.At w) (ho : Ints w c.bk.A1 c.bk.b.own.length c.bk.b.own) (hnt : Ints w c.bk.A2 c.bk.b.notes.length c.bk.b.notes) (hl1 : c.bk.b.own.length ≤ 1000) (hl2 : c.bk.b.notes.length ≤ 1000) (h3 : c.st.x.sent.length ≤ 1000 ∧ c.st.x.live.length ≤ 1000 ∧ c.st.x.back.length ≤ 1000 ∧ c.st.x.got.length ≤ 1000) (hk : k < c.st.x.back.length) (hk2 : k < c.st.x.sent.length) (hp : c.st.x.sent.getD k pk0 = p) (hf : M64 p.f) (hb : backOk c.bk.b p.k p.f p.m = false) :
    Calls Tryz.prog 63 #[lkV c P, .int .i64 ((k : Int) + 1)] w (RetRef w c P (refB c.bk.b p.k p.f p.m) { c.st.x with back := c.st.x.back.set k true }) := by
  have HKL := Lib.hid hk
  have HKS := Lib.hid hk2
  have HP := Lib.hid hp
  have FC := Lib.hid (fun W (hk : Keeps noBlk w W) => implCopy_any c.st.x c.st.A1 c.st.A2 c.st.A3 c.st.A4 c.st.c1 c.st.c2 c.st.c3 c.st.c4 W (h.kept hk) (by omega) (by omega) (by omega) (by omega))
  unfold stV at FC
  have F := Lib.hid (fun W (hk : Keeps noBlk w W) => implBack_any c.bk.A1 c.bk.A2 c.bk.b.own.length c.bk.b.notes.length c.bk.c1 c.bk.c2 c.bk.b.locked c.bk.b.own c.bk.b.notes W (ho.keeps hk fun _ _ h => h) (hnt.keeps hk fun _ _ h => h) (by unfold maxLen; omega) (by unfold maxLen; omega) p.k p.f p.m hf)
  have e1 : (⟨c.bk.b.own, c.bk.b.notes, c.bk.b.locked⟩ : BankL) = c.bk.b := rfl
  rw [e1] at F
  clear e1
  rw [hb] at F
  rw [show refB c.bk.b p.k p.f p.m = c.bk.b by unfold refB; rw [hb]; rfl]
  have hw1 : IntKind.i64.wrap ((k : Int) + 1 - 1) = k := by rw [show (k : Int) + 1 - 1 = k by omega]; exact IntWalk.i64_in _ (by omega)
  have hw0 : IntKind.i64.wrap (k : Int) = k := IntWalk.i64_in _ (by omega)
  have hi0 : (0 : Int) ≤ k := by omega
  have HO := Lib.hid ho
  have HN := Lib.hid hnt
  have HL9 := Lib.hid h3
  clear h hk hk2 hp h3 hb hf ho hnt hl1 hl2
  have HBl := Lib.hid ((Box.new w _ rfl 78 #[.slice c.bk.A1 c.bk.b.own.length c.bk.c1, .slice c.bk.A2 c.bk.b.notes.length c.bk.c2, .int .i64 c.bk.b.locked, .int .i64 c.id, .int .i64 c.st.x.way, .int .i64 c.st.x.ver, .int .i64 c.st.x.want, .slice c.st.A1 c.st.x.sent.length c.st.c1, .slice c.st.A2 c.st.x.live.length c.st.c2, .slice c.st.A3 c.st.x.back.length c.st.c3, .slice c.st.A4 c.st.x.got.length c.st.c4, .pointer P, .slice c.kA c.knows.length c.kc]).alloc (.cells #[.slice none 0 0, .slice none 0 0, .int .i64 0, .int .i64 0, .int .i64 0, .int .i64 0, .int .i64 0, .slice none 0 0, .slice none 0 0, .slice none 0 0, .slice none 0 0, .pointer none, .slice none 0 0] 78))
  have HBr := Lib.hid (Box.new (w.alloc (.cells #[.slice c.bk.A1 c.bk.b.own.length c.bk.c1, .slice c.bk.A2 c.bk.b.notes.length c.bk.c2, .int .i64 c.bk.b.locked, .int .i64 c.id, .int .i64 c.st.x.way, .int .i64 c.st.x.ver, .int .i64 c.st.x.want, .slice c.st.A1 c.st.x.sent.length c.st.c1, .slice c.st.A2 c.st.x.live.length c.st.c2, .slice c.st.A3 c.st.x.back.length c.st.c3, .slice c.st.A4 c.st.x.got.length c.st.c4, .pointer P, .slice c.kA c.knows.length c.kc] 78)) (w.heap.size + 1) (by simp) 78 #[.slice none 0 0, .slice none 0 0, .int .i64 0, .int .i64 0, .int .i64 0, .int .i64 0, .int .i64 0, .slice none 0 0, .slice none 0 0, .slice none 0 0, .slice none 0 0, .pointer none, .slice none 0 0])
  have HK := Lib.hid (((Keeps.refl noBlk w).alloc (.cells #[.slice c.bk.A1 c.bk.b.own.length c.bk.c1, .slice c.bk.A2 c.bk.b.notes.length c.bk.c2, .int .i64 c.bk.b.locked, .int .i64 c.id, .int .i64 c.st.x.way, .int .i64 c.st.x.ver, .int .i64 c.st.x.want, .slice c.st.A1 c.st.x.sent.length c.st.c1, .slice c.st.A2 c.st.x.live.length c.st.c2, .slice c.st.A3 c.st.x.back.length c.st.c3, .slice c.st.A4 c.st.x.got.length c.st.c4, .pointer P, .slice c.kA c.knows.length c.kc] 78)).alloc (.cells #[.slice none 0 0, .slice none 0 0, .int .i64 0, .int .i64 0, .int .i64 0, .int .i64 0, .int .i64 0, .slice none 0 0, .slice none 0 0, .slice none 0 0, .slice none 0 0, .pointer none, .slice none 0 0] 78))
  unfold lkV
  go_enter Tryz.func63, Tryz.ntmps63
  have hb := HBl.out
  have l0 := hb.cell 0
  have l1 := hb.cell 1
  have l2 := hb.cell 2
  have l3 := hb.cell 3
  have l4 := hb.cell 4
  have l5 := hb.cell 5
  have l6 := hb.cell 6
  have l7 := hb.cell 7
  have l8 := hb.cell 8
  have l9 := hb.cell 9
  have l10 := hb.cell 10
  have l11 := hb.cell 11
  have l12 := hb.cell 12
  simp at l0 l1 l2 l3 l4 l5 l6 l7 l8 l9 l10 l11 l12
  have zl := hb.lt
  clear hb
  go_wp2_with fail
  refine (FC.out _ HK.out).mono ?_
  rintro e w1 ⟨⟨tx, T1, T2, T3, T4, u1, u2, u3, u4⟩, rfl, hx9, hk1, _, ho9⟩
  dsimp only [StM.val]
  dsimp only at hx9 ho9
  have HX := Lib.hid hx9
  have OW := Lib.hid ho9
  have OG := Lib.hid (fun b (hb : stBlk tx T1 T2 T3 T4 b) => ho9.ge hb)
  (try simp at OG)
  clear hx9 ho9
  clear l0 l1 l2 l3 l4 l5 l6 l7 l8 l9 l10 l11 l12 zl
  have hl := HBl.out.keeps hk1 (fun h => h)
  clear HBl
  have HBl := Lib.hid hl
  clear hl
  have hr := HBr.out.keeps hk1 (fun h => h)
  clear HBr
  have HBr := Lib.hid hr
  clear hr
  have hr := HK.out.trans hk1
  clear HK
  have HK := Lib.hid hr
  clear hr
  have sz1 := hk1.size
  (try simp at sz1)
  clear hk1
  have hb := HBl.out
  have l0 := hb.cell 0
  have l1 := hb.cell 1
  have l2 := hb.cell 2
  have l3 := hb.cell 3
  have l4 := hb.cell 4
  have l5 := hb.cell 5
  have l6 := hb.cell 6
  have l7 := hb.cell 7
  have l8 := hb.cell 8
  have l9 := hb.cell 9
  have l10 := hb.cell 10
  have l11 := hb.cell 11
  have l12 := hb.cell 12
  simp at l0 l1 l2 l3 l4 l5 l6 l7 l8 l9 l10 l11 l12
  have zl := hb.lt
  clear hb
  have hb := HBl.out
  have lf0 := hb.frozen 0
  have lf1 := hb.frozen 1
  have lf2 := hb.frozen 2
  have lf3 := hb.frozen 3
  have lf4 := hb.frozen 4
  have lf5 := hb.frozen 5
  have lf6 := hb.frozen 6
  have lf7 := hb.frozen 7
  have lf8 := hb.frozen 8
  have lf9 := hb.frozen 9
  have lf10 := hb.frozen 10
  have lf11 := hb.frozen 11
  have lf12 := hb.frozen 12
  clear hb
  have kt : Keeps (fun b => b = w.heap.size) w1 (((((((w1.setCell ⟨w.heap.size, 4, none⟩ (.int .i64 tx.way)).setCell ⟨w.heap.size, 5, none⟩ (.int .i64 tx.ver)).setCell ⟨w.heap.size, 6, none⟩ (.int .i64 tx.want)).setCell ⟨w.heap.size, 7, none⟩ (.slice T1 tx.sent.length u1)).setCell ⟨w.heap.size, 8, none⟩ (.slice T2 tx.live.length u2)).setCell ⟨w.heap.size, 9, none⟩ (.slice T3 tx.back.length u3)).setCell ⟨w.heap.size, 10, none⟩ (.slice T4 tx.got.length u4)) := ((((((((Keeps.refl (fun b => b = w.heap.size) w1).setCell (p := ⟨w.heap.size, 4, none⟩) (.inr rfl) (.int .i64 tx.way)).setCell (p := ⟨w.heap.size, 5, none⟩) (.inr rfl) (.int .i64 tx.ver)).setCell (p := ⟨w.heap.size, 6, none⟩) (.inr rfl) (.int .i64 tx.want)).setCell (p := ⟨w.heap.size, 7, none⟩) (.inr rfl) (.slice T1 tx.sent.length u1)).setCell (p := ⟨w.heap.size, 8, none⟩) (.inr rfl) (.slice T2 tx.live.length u2)).setCell (p := ⟨w.heap.size, 9, none⟩) (.inr rfl) (.slice T3 tx.back.length u3)).setCell (p := ⟨w.heap.size, 10, none⟩) (.inr rfl) (.slice T4 tx.got.length u4))
  have hb := (((((((HBl.out.set_ 4 (.int .i64 tx.way)).set_ 5 (.int .i64 tx.ver)).set_ 6 (.int .i64 tx.want)).set_ 7 (.slice T1 tx.sent.length u1)).set_ 8 (.slice T2 tx.live.length u2)).set_ 9 (.slice T3 tx.back.length u3)).set_ 10 (.slice T4 tx.got.length u4))
  simp only [List.setIfInBounds_toArray, List.set_cons_zero, List.set_cons_succ] at hb
  clear HBl
  have HBl := Lib.hid hb
  clear hb
  have hb := HBr.out.keeps kt fun h => by omega
  clear HBr
  have HBr := Lib.hid hb
  clear hb
  have hr := OW.out.keeps kt (fun b hb h => by have q := OG.out b hb; (try simp at q) <;> omega)
  clear OW
  have OW := Lib.hid hr
  clear hr
  have hr := HK.out.then kt fun i hi h => by omega
  clear HK
  have HK := Lib.hid hr
  clear hr
  have szk := kt.size
  (try simp at szk)
  clear kt
  go_upto_region 2 with fail
  clear l0 l1 l2 l3 l4 l5 l6 l7 l8 l9 l10 l11 l12 zl
  generalize (((((((w1.setCell ⟨w.heap.size, 4, none⟩ (.int .i64 tx.way)).setCell ⟨w.heap.size, 5, none⟩ (.int .i64 tx.ver)).setCell ⟨w.heap.size, 6, none⟩ (.int .i64 tx.want)).setCell ⟨w.heap.size, 7, none⟩ (.slice T1 tx.sent.length u1)).setCell ⟨w.heap.size, 8, none⟩ (.slice T2 tx.live.length u2)).setCell ⟨w.heap.size, 9, none⟩ (.slice T3 tx.back.length u3)).setCell ⟨w.heap.size, 10, none⟩ (.slice T4 tx.got.length u4)) = V2 at *
  clear lf0 lf1 lf2 lf3 lf4 lf5 lf6 lf7 lf8 lf9 lf10 lf11 lf12
  obtain ⟨b, off, rfl, hlo, hlt, hc9, hf9, ho9⟩ := StOwn.back_ OW.out (k := k) (by rw [HX.out]; exact HKL.out) true
  have hi1 : (k : Int) < (tx.back.length : Int) := by have := HKL.out; rw [HX.out]; omega
  have hge := OG.out b (.inr (.inr (.inl ⟨by omega, _, rfl, rfl⟩)))
  (try simp at hge)
  have hn1 : ¬ b = w.heap.size := by omega
  have hn2 : ¬ w.heap.size = b := by omega
  have hn3 : ¬ b = w.heap.size + 1 := by omega
  have hn4 : ¬ w.heap.size + 1 = b := by omega
  have hb := HBl.out
  have l0 := hb.cell 0
  have l1 := hb.cell 1
  have l2 := hb.cell 2
  have l3 := hb.cell 3
  have l4 := hb.cell 4
  have l5 := hb.cell 5
  have l6 := hb.cell 6
  have l7 := hb.cell 7
  have l8 := hb.cell 8
  have l9 := hb.cell 9
  have l10 := hb.cell 10
  have l11 := hb.cell 11
  have l12 := hb.cell 12
  simp at l0 l1 l2 l3 l4 l5 l6 l7 l8 l9 l10 l11 l12
  have zl := hb.lt
  clear hb
  have HBl2 := Lib.hid (HBl.out.keeps ((Keeps.refl (fun x => x = b) V2).setCell (p := ⟨b, off + k, none⟩) (.inr rfl) (.bool true)) fun h => by omega)
  have HBr2 := Lib.hid (HBr.out.keeps ((Keeps.refl (fun x => x = b) V2).setCell (p := ⟨b, off + k, none⟩) (.inr rfl) (.bool true)) fun h => by omega)
  have HK2 := Lib.hid (HK.out.then ((Keeps.refl (fun x => x = b) V2).setCell (p := ⟨b, off + k, none⟩) (.inr rfl) (.bool true)) fun i hi h => by omega)
  go_upto_region 3 with fail
  clear l0 l1 l2 l3 l4 l5 l6 l7 l8 l9 l10 l11 l12 zl
  clear hc9 hf9 hlt OW HBl HBr HK
  generalize (V2.setCell ⟨b, off + k, none⟩ (.bool true)) = V3 at *
  have HBl := HBl2
  clear HBl2
  have HBr := HBr2
  clear HBr2
  have HK := HK2
  clear HK2
  have OW := Lib.hid ho9
  clear ho9
  have hps : k < tx.sent.length := by rw [HX.out]; exact HKS.out
  have hpe : tx.sent.getD k pk0 = p := by rw [HX.out]; exact HP.out
  obtain ⟨b1, off1, rfl, hb1, d0, d1, d2, d3, d4, d5, d6⟩ := (show Pks V3 T1 tx.sent.length tx.sent from by obtain ⟨s1, s2, s3, ⟨q1, q2, q3, q4⟩, _⟩ := OW.out; exact q1.1).at_ hps
  rw [hpe] at d0 d1 d2 d3 d4 d5 d6
  have hi2 : (k : Int) < (tx.sent.length : Int) := by omega
  have hb := HBl.out
  have l0 := hb.cell 0
  have l1 := hb.cell 1
  have l2 := hb.cell 2
  have l3 := hb.cell 3
  have l4 := hb.cell 4
  have l5 := hb.cell 5
  have l6 := hb.cell 6
  have l7 := hb.cell 7
  have l8 := hb.cell 8
  have l9 := hb.cell 9
  have l10 := hb.cell 10
  have l11 := hb.cell 11
  have l12 := hb.cell 12
  simp at l0 l1 l2 l3 l4 l5 l6 l7 l8 l9 l10 l11 l12
  have zl := hb.lt
  clear hb
  go_upto_region 4 with fail
  clear l0 l1 l2 l3 l4 l5 l6 l7 l8 l9 l10 l11 l12 zl
  clear d0 d1 d2 d3 d4 d5 d6
  have hb := HBl.out.alloc (.cells #[.int .i64 p.s, .int .i64 p.k, .int .i64 p.f, .int .i64 p.t, .int .i64 p.m, .int .i64 p.u, .int .i64 p.v] 47)
  clear HBl
  have HBl := Lib.hid hb
  clear hb
  have hb := HBr.out.alloc (.cells #[.int .i64 p.s, .int .i64 p.k, .int .i64 p.f, .int .i64 p.t, .int .i64 p.m, .int .i64 p.u, .int .i64 p.v] 47)
  clear HBr
  have HBr := Lib.hid hb
  clear hb
  have HBp := Lib.hid (Box.new V3 _ rfl 47 #[.int .i64 p.s, .int .i64 p.k, .int .i64 p.f, .int .i64 p.t, .int .i64 p.m, .int .i64 p.u, .int .i64 p.v])
  have hr := HK.out.alloc (.cells #[.int .i64 p.s, .int .i64 p.k, .int .i64 p.f, .int .i64 p.t, .int .i64 p.m, .int .i64 p.u, .int .i64 p.v] 47)
  clear HK
  have HK := Lib.hid hr
  clear hr
  have OW2 := Lib.hid (StM.Own.kept (s := ⟨{ tx with back := tx.back.set k true }, some ⟨b1, off1, none⟩, T2, some ⟨b, off, none⟩, T4, u1, u2, u3, u4⟩) OW.out ((Keeps.refl noBlk V3).alloc (.cells #[.int .i64 p.s, .int .i64 p.k, .int .i64 p.f, .int .i64 p.t, .int .i64 p.m, .int .i64 p.u, .int .i64 p.v] 47)))
  have szp : V3.heap.size + 1 = (V3.alloc (.cells #[.int .i64 p.s, .int .i64 p.k, .int .i64 p.f, .int .i64 p.t, .int .i64 p.m, .int .i64 p.u, .int .i64 p.v] 47)).heap.size := by simp
  generalize V3.alloc (.cells #[.int .i64 p.s, .int .i64 p.k, .int .i64 p.f, .int .i64 p.t, .int .i64 p.m, .int .i64 p.u, .int .i64 p.v] 47) = V4 at *
  clear OW
  have szv := HBr.out.lt
  have hb := HBl.out
  have l0 := hb.cell 0
  have l1 := hb.cell 1
  have l2 := hb.cell 2
  have l3 := hb.cell 3
  have l4 := hb.cell 4
  have l5 := hb.cell 5
  have l6 := hb.cell 6
  have l7 := hb.cell 7
  have l8 := hb.cell 8
  have l9 := hb.cell 9
  have l10 := hb.cell 10
  have l11 := hb.cell 11
  have l12 := hb.cell 12
  simp at l0 l1 l2 l3 l4 l5 l6 l7 l8 l9 l10 l11 l12
  have zl := hb.lt
  clear hb
  have hb := HBp.out
  have p0 := hb.cell 0
  have p1 := hb.cell 1
  have p2 := hb.cell 2
  have p3 := hb.cell 3
  have p4 := hb.cell 4
  have p5 := hb.cell 5
  have p6 := hb.cell 6
  simp at p0 p1 p2 p3 p4 p5 p6
  have zp := hb.lt
  clear hb
  go_wp2_with fail
  refine (F.out _ HK.out).mono ?_
  rintro e w5 hF9
  obtain ⟨rfl, hk5⟩ := retB2_no' hF9
  clear l0 l1 l2 l3 l4 l5 l6 l7 l8 l9 l10 l11 l12 p0 p1 p2 p3 p4 p5 p6 zl zp
  have hl := HBl.out.keeps hk5 (fun h => h)
  clear HBl
  have HBl := Lib.hid hl
  clear hl
  have hr := HBr.out.keeps hk5 (fun h => h)
  clear HBr
  have HBr := Lib.hid hr
  clear hr
  have hp := HBp.out.keeps hk5 (fun h => h)
  clear HBp
  have HBp := Lib.hid hp
  clear hp
  have hr := StM.Own.kept (OW2.out) hk5
  clear OW2
  have OW2 := Lib.hid hr
  clear hr
  have hr := HK.out.trans hk5
  clear HK
  have HK := Lib.hid hr
  clear hr
  have sz5 := hk5.size
  (try simp at sz5)
  clear hk5 hF9
  unfold noBank
  have hb := HBl.out
  have l0 := hb.cell 0
  have l1 := hb.cell 1
  have l2 := hb.cell 2
  have l3 := hb.cell 3
  have l4 := hb.cell 4
  have l5 := hb.cell 5
  have l6 := hb.cell 6
  have l7 := hb.cell 7
  have l8 := hb.cell 8
  have l9 := hb.cell 9
  have l10 := hb.cell 10
  have l11 := hb.cell 11
  have l12 := hb.cell 12
  simp at l0 l1 l2 l3 l4 l5 l6 l7 l8 l9 l10 l11 l12
  have zl := hb.lt
  clear hb
  have hb := HBr.out
  have r0 := hb.cell 0
  have r1 := hb.cell 1
  have r2 := hb.cell 2
  have r3 := hb.cell 3
  have r4 := hb.cell 4
  have r5 := hb.cell 5
  have r6 := hb.cell 6
  have r7 := hb.cell 7
  have r8 := hb.cell 8
  have r9 := hb.cell 9
  have r10 := hb.cell 10
  have r11 := hb.cell 11
  have r12 := hb.cell 12
  simp at r0 r1 r2 r3 r4 r5 r6 r7 r8 r9 r10 r11 r12
  have zr := hb.lt
  clear hb
  have hb := HBr.out
  have rf0 := hb.frozen 0
  have rf1 := hb.frozen 1
  have rf2 := hb.frozen 2
  have rf3 := hb.frozen 3
  have rf4 := hb.frozen 4
  have rf5 := hb.frozen 5
  have rf6 := hb.frozen 6
  have rf7 := hb.frozen 7
  have rf8 := hb.frozen 8
  have rf9 := hb.frozen 9
  have rf10 := hb.frozen 10
  have rf11 := hb.frozen 11
  have rf12 := hb.frozen 12
  clear hb
  go_wp2
  have hbF := ((((((((((((((HBr.out.set_ 0 (.slice c.bk.A1 c.bk.b.own.length c.bk.c1)).set_ 1 (.slice c.bk.A2 c.bk.b.notes.length c.bk.c2)).set_ 2 (.int .i64 c.bk.b.locked)).set_ 3 (.int .i64 c.id)).set_ 4 (.int .i64 tx.way)).set_ 5 (.int .i64 tx.ver)).set_ 6 (.int .i64 tx.want)).set_ 7 (.slice (some ⟨b1, off1, none⟩) tx.sent.length u1)).set_ 8 (.slice T2 tx.live.length u2)).set_ 9 (.slice (some ⟨b, off, none⟩) tx.back.length u3)).set_ 10 (.slice T4 tx.got.length u4)).set_ 11 (.pointer P)).set_ 12 (.slice c.kA c.knows.length c.kc)).alloc (.cells #[.slice none 0 0, .slice none 0 0, .int .i64 0] 36))
  simp only [List.setIfInBounds_toArray, List.set_cons_zero, List.set_cons_succ] at hbF
  have s10 := hbF.cell 0
  have s11 := hbF.cell 1
  have s12 := hbF.cell 2
  have s13 := hbF.cell 3
  have s14 := hbF.cell 4
  have s15 := hbF.cell 5
  have s16 := hbF.cell 6
  have s17 := hbF.cell 7
  have s18 := hbF.cell 8
  have s19 := hbF.cell 9
  have s20 := hbF.cell 10
  have s21 := hbF.cell 11
  have s22 := hbF.cell 12
  simp at s10 s11 s12 s13 s14 s15 s16 s17 s18 s19 s20 s21 s22
  clear hbF
  have kS : Keeps (fun b => b = w.heap.size + 1) w5 ((((((((((((((w5.setCell ⟨w.heap.size + 1, 0, none⟩ (.slice c.bk.A1 c.bk.b.own.length c.bk.c1)).setCell ⟨w.heap.size + 1, 1, none⟩ (.slice c.bk.A2 c.bk.b.notes.length c.bk.c2)).setCell ⟨w.heap.size + 1, 2, none⟩ (.int .i64 c.bk.b.locked)).setCell ⟨w.heap.size + 1, 3, none⟩ (.int .i64 c.id)).setCell ⟨w.heap.size + 1, 4, none⟩ (.int .i64 tx.way)).setCell ⟨w.heap.size + 1, 5, none⟩ (.int .i64 tx.ver)).setCell ⟨w.heap.size + 1, 6, none⟩ (.int .i64 tx.want)).setCell ⟨w.heap.size + 1, 7, none⟩ (.slice (some ⟨b1, off1, none⟩) tx.sent.length u1)).setCell ⟨w.heap.size + 1, 8, none⟩ (.slice T2 tx.live.length u2)).setCell ⟨w.heap.size + 1, 9, none⟩ (.slice (some ⟨b, off, none⟩) tx.back.length u3)).setCell ⟨w.heap.size + 1, 10, none⟩ (.slice T4 tx.got.length u4)).setCell ⟨w.heap.size + 1, 11, none⟩ (.pointer P)).setCell ⟨w.heap.size + 1, 12, none⟩ (.slice c.kA c.knows.length c.kc)).alloc (.cells #[.slice none 0 0, .slice none 0 0, .int .i64 0] 36)) := (((((((((((((((Keeps.refl (fun b => b = w.heap.size + 1) w5).setCell (p := ⟨w.heap.size + 1, 0, none⟩) (.inr rfl) (.slice c.bk.A1 c.bk.b.own.length c.bk.c1)).setCell (p := ⟨w.heap.size + 1, 1, none⟩) (.inr rfl) (.slice c.bk.A2 c.bk.b.notes.length c.bk.c2)).setCell (p := ⟨w.heap.size + 1, 2, none⟩) (.inr rfl) (.int .i64 c.bk.b.locked)).setCell (p := ⟨w.heap.size + 1, 3, none⟩) (.inr rfl) (.int .i64 c.id)).setCell (p := ⟨w.heap.size + 1, 4, none⟩) (.inr rfl) (.int .i64 tx.way)).setCell (p := ⟨w.heap.size + 1, 5, none⟩) (.inr rfl) (.int .i64 tx.ver)).setCell (p := ⟨w.heap.size + 1, 6, none⟩) (.inr rfl) (.int .i64 tx.want)).setCell (p := ⟨w.heap.size + 1, 7, none⟩) (.inr rfl) (.slice (some ⟨b1, off1, none⟩) tx.sent.length u1)).setCell (p := ⟨w.heap.size + 1, 8, none⟩) (.inr rfl) (.slice T2 tx.live.length u2)).setCell (p := ⟨w.heap.size + 1, 9, none⟩) (.inr rfl) (.slice (some ⟨b, off, none⟩) tx.back.length u3)).setCell (p := ⟨w.heap.size + 1, 10, none⟩) (.inr rfl) (.slice T4 tx.got.length u4)).setCell (p := ⟨w.heap.size + 1, 11, none⟩) (.inr rfl) (.pointer P)).setCell (p := ⟨w.heap.size + 1, 12, none⟩) (.inr rfl) (.slice c.kA c.knows.length c.kc)).alloc (.cells #[.slice none 0 0, .slice none 0 0, .int .i64 0] 36))
  generalize ((((((((((((((w5.setCell ⟨w.heap.size + 1, 0, none⟩ (.slice c.bk.A1 c.bk.b.own.length c.bk.c1)).setCell ⟨w.heap.size + 1, 1, none⟩ (.slice c.bk.A2 c.bk.b.notes.length c.bk.c2)).setCell ⟨w.heap.size + 1, 2, none⟩ (.int .i64 c.bk.b.locked)).setCell ⟨w.heap.size + 1, 3, none⟩ (.int .i64 c.id)).setCell ⟨w.heap.size + 1, 4, none⟩ (.int .i64 tx.way)).setCell ⟨w.heap.size + 1, 5, none⟩ (.int .i64 tx.ver)).setCell ⟨w.heap.size + 1, 6, none⟩ (.int .i64 tx.want)).setCell ⟨w.heap.size + 1, 7, none⟩ (.slice (some ⟨b1, off1, none⟩) tx.sent.length u1)).setCell ⟨w.heap.size + 1, 8, none⟩ (.slice T2 tx.live.length u2)).setCell ⟨w.heap.size + 1, 9, none⟩ (.slice (some ⟨b, off, none⟩) tx.back.length u3)).setCell ⟨w.heap.size + 1, 10, none⟩ (.slice T4 tx.got.length u4)).setCell ⟨w.heap.size + 1, 11, none⟩ (.pointer P)).setCell ⟨w.heap.size + 1, 12, none⟩ (.slice c.kA c.knows.length c.kc)).alloc (.cells #[.slice none 0 0, .slice none 0 0, .int .i64 0] 36)) = WF at kS s10 s11 s12 s13 s14 s15 s16 s17 s18 s19 s20 s21 s22 ⊢
  refine bodyPost_ret (v := lkV { c with st := (⟨{ tx with back := tx.back.set k true }, some ⟨b1, off1, none⟩, T2, some ⟨b, off, none⟩, T4, u1, u2, u3, u4⟩ : StM) } P) (by simp [results, Tryz.results63, go_sem, lkV, s10, s11, s12, s13, s14, s15, s16, s17, s18, s19, s20, s21, s22]) rfl ?_
  exact ⟨c.bk, (⟨{ tx with back := tx.back.set k true }, some ⟨b1, off1, none⟩, T2, some ⟨b, off, none⟩, T4, u1, u2, u3, u4⟩ : StM), rfl, rfl, by dsimp only; rw [HX.out], (HO.out.keeps (HK.out.then kS fun i hi h => by omega) fun _ _ h => h), (HN.out.keeps (HK.out.then kS fun i hi h => by omega) fun _ _ h => h), (StM.Own.keeps (s := (⟨{ tx with back := tx.back.set k true }, some ⟨b1, off1, none⟩, T2, some ⟨b, off, none⟩, T4, u1, u2, u3, u4⟩ : StM)) OW2.out kS (fun b' hb' h => by have q := StOwn.ge OW2.out hb'; (try simp at q) <;> omega)).at_ (by refine ⟨?_, ?_, ?_, ?_⟩ <;> (dsimp only; rw [HX.out]; (try rw [List.length_set]); have := HL9.out; unfold maxLen; omega)), fun b hb => .inr hb, fun b hb => by have q := StOwn.ge OW2.out hb; (try simp at q) <;> omega, HK.out.then kS fun i hi h => by omega⟩
set_option maxRecDepth 100000 in
set_option maxHeartbeats 8000000 in
theorem refund_yes (c : ChM) (P : Option Addr) (k : Nat) (p : Pk) (w : World) (h : c.st.At w) (ho : Ints w c.bk.A1 c.bk.b.own.length c.bk.b.own) (hnt : Ints w c.bk.A2 c.bk.b.notes.length c.bk.b.notes) (hl1 : c.bk.b.own.length ≤ 1000) (hl2 : c.bk.b.notes.length ≤ 1000) (h3 : c.st.x.sent.length ≤ 1000 ∧ c.st.x.live.length ≤ 1000 ∧ c.st.x.back.length ≤ 1000 ∧ c.st.x.got.length ≤ 1000) (hk : k < c.st.x.back.length) (hk2 : k < c.st.x.sent.length) (hp : c.st.x.sent.getD k pk0 = p) (hf : M64 p.f) (hb : backOk c.bk.b p.k p.f p.m = true) :
    Calls Tryz.prog 63 #[lkV c P, .int .i64 ((k : Int) + 1)] w (RetRef w c P (refB c.bk.b p.k p.f p.m) { c.st.x with back := c.st.x.back.set k true }) := by
  have HKL := Lib.hid hk
  have HKS := Lib.hid hk2
  have HP := Lib.hid hp
  have FC := Lib.hid (fun W (hk : Keeps noBlk w W) => implCopy_any c.st.x c.st.A1 c.st.A2 c.st.A3 c.st.A4 c.st.c1 c.st.c2 c.st.c3 c.st.c4 W (h.kept hk) (by omega) (by omega) (by omega) (by omega))
  unfold stV at FC
  have F := Lib.hid (fun W (hk : Keeps noBlk w W) => implBack_any c.bk.A1 c.bk.A2 c.bk.b.own.length c.bk.b.notes.length c.bk.c1 c.bk.c2 c.bk.b.locked c.bk.b.own c.bk.b.notes W (ho.keeps hk fun _ _ h => h) (hnt.keeps hk fun _ _ h => h) (by unfold maxLen; omega) (by unfold maxLen; omega) p.k p.f p.m hf)
  have e1 : (⟨c.bk.b.own, c.bk.b.notes, c.bk.b.locked⟩ : BankL) = c.bk.b := rfl
  rw [e1] at F
  clear e1
  rw [hb] at F
  rw [show refB c.bk.b p.k p.f p.m = (backed c.bk.b p.k p.f p.m) by unfold refB; rw [hb]; rfl]
  have hw1 : IntKind.i64.wrap ((k : Int) + 1 - 1) = k := by rw [show (k : Int) + 1 - 1 = k by omega]; exact IntWalk.i64_in _ (by omega)
  have hw0 : IntKind.i64.wrap (k : Int) = k := IntWalk.i64_in _ (by omega)
  have hi0 : (0 : Int) ≤ k := by omega
  have HL9 := Lib.hid h3
  clear h hk hk2 hp h3 hb hf ho hnt hl1 hl2
  have HBl := Lib.hid ((Box.new w _ rfl 78 #[.slice c.bk.A1 c.bk.b.own.length c.bk.c1, .slice c.bk.A2 c.bk.b.notes.length c.bk.c2, .int .i64 c.bk.b.locked, .int .i64 c.id, .int .i64 c.st.x.way, .int .i64 c.st.x.ver, .int .i64 c.st.x.want, .slice c.st.A1 c.st.x.sent.length c.st.c1, .slice c.st.A2 c.st.x.live.length c.st.c2, .slice c.st.A3 c.st.x.back.length c.st.c3, .slice c.st.A4 c.st.x.got.length c.st.c4, .pointer P, .slice c.kA c.knows.length c.kc]).alloc (.cells #[.slice none 0 0, .slice none 0 0, .int .i64 0, .int .i64 0, .int .i64 0, .int .i64 0, .int .i64 0, .slice none 0 0, .slice none 0 0, .slice none 0 0, .slice none 0 0, .pointer none, .slice none 0 0] 78))
  have HBr := Lib.hid (Box.new (w.alloc (.cells #[.slice c.bk.A1 c.bk.b.own.length c.bk.c1, .slice c.bk.A2 c.bk.b.notes.length c.bk.c2, .int .i64 c.bk.b.locked, .int .i64 c.id, .int .i64 c.st.x.way, .int .i64 c.st.x.ver, .int .i64 c.st.x.want, .slice c.st.A1 c.st.x.sent.length c.st.c1, .slice c.st.A2 c.st.x.live.length c.st.c2, .slice c.st.A3 c.st.x.back.length c.st.c3, .slice c.st.A4 c.st.x.got.length c.st.c4, .pointer P, .slice c.kA c.knows.length c.kc] 78)) (w.heap.size + 1) (by simp) 78 #[.slice none 0 0, .slice none 0 0, .int .i64 0, .int .i64 0, .int .i64 0, .int .i64 0, .int .i64 0, .slice none 0 0, .slice none 0 0, .slice none 0 0, .slice none 0 0, .pointer none, .slice none 0 0])
  have HK := Lib.hid (((Keeps.refl noBlk w).alloc (.cells #[.slice c.bk.A1 c.bk.b.own.length c.bk.c1, .slice c.bk.A2 c.bk.b.notes.length c.bk.c2, .int .i64 c.bk.b.locked, .int .i64 c.id, .int .i64 c.st.x.way, .int .i64 c.st.x.ver, .int .i64 c.st.x.want, .slice c.st.A1 c.st.x.sent.length c.st.c1, .slice c.st.A2 c.st.x.live.length c.st.c2, .slice c.st.A3 c.st.x.back.length c.st.c3, .slice c.st.A4 c.st.x.got.length c.st.c4, .pointer P, .slice c.kA c.knows.length c.kc] 78)).alloc (.cells #[.slice none 0 0, .slice none 0 0, .int .i64 0, .int .i64 0, .int .i64 0, .int .i64 0, .int .i64 0, .slice none 0 0, .slice none 0 0, .slice none 0 0, .slice none 0 0, .pointer none, .slice none 0 0] 78))
  unfold lkV
  go_enter Tryz.func63, Tryz.ntmps63
  have hb := HBl.out
  have l0 := hb.cell 0
  have l1 := hb.cell 1
  have l2 := hb.cell 2
  have l3 := hb.cell 3
  have l4 := hb.cell 4
  have l5 := hb.cell 5
  have l6 := hb.cell 6
  have l7 := hb.cell 7
  have l8 := hb.cell 8
  have l9 := hb.cell 9
  have l10 := hb.cell 10
  have l11 := hb.cell 11
  have l12 := hb.cell 12
  simp at l0 l1 l2 l3 l4 l5 l6 l7 l8 l9 l10 l11 l12
  have zl := hb.lt
  clear hb
  go_wp2_with fail
  refine (FC.out _ HK.out).mono ?_
  rintro e w1 ⟨⟨tx, T1, T2, T3, T4, u1, u2, u3, u4⟩, rfl, hx9, hk1, _, ho9⟩
  dsimp only [StM.val]
  dsimp only at hx9 ho9
  have HX := Lib.hid hx9
  have OW := Lib.hid ho9
  have OG := Lib.hid (fun b (hb : stBlk tx T1 T2 T3 T4 b) => ho9.ge hb)
  (try simp at OG)
  clear hx9 ho9
  clear l0 l1 l2 l3 l4 l5 l6 l7 l8 l9 l10 l11 l12 zl
  have hl := HBl.out.keeps hk1 (fun h => h)
  clear HBl
  have HBl := Lib.hid hl
  clear hl
  have hr := HBr.out.keeps hk1 (fun h => h)
  clear HBr
  have HBr := Lib.hid hr
  clear hr
  have hr := HK.out.trans hk1
  clear HK
  have HK := Lib.hid hr
  clear hr
  have sz1 := hk1.size
  (try simp at sz1)
  clear hk1
  have hb := HBl.out
  have l0 := hb.cell 0
  have l1 := hb.cell 1
  have l2 := hb.cell 2
  have l3 := hb.cell 3
  have l4 := hb.cell 4
  have l5 := hb.cell 5
  have l6 := hb.cell 6
  have l7 := hb.cell 7
  have l8 := hb.cell 8
  have l9 := hb.cell 9
  have l10 := hb.cell 10
  have l11 := hb.cell 11
  have l12 := hb.cell 12
  simp at l0 l1 l2 l3 l4 l5 l6 l7 l8 l9 l10 l11 l12
  have zl := hb.lt
  clear hb
  have hb := HBl.out
  have lf0 := hb.frozen 0
  have lf1 := hb.frozen 1
  have lf2 := hb.frozen 2
  have lf3 := hb.frozen 3
  have lf4 := hb.frozen 4
  have lf5 := hb.frozen 5
  have lf6 := hb.frozen 6
  have lf7 := hb.frozen 7
  have lf8 := hb.frozen 8
  have lf9 := hb.frozen 9
  have lf10 := hb.frozen 10
  have lf11 := hb.frozen 11
  have lf12 := hb.frozen 12
  clear hb
  have kt : Keeps (fun b => b = w.heap.size) w1 (((((((w1.setCell ⟨w.heap.size, 4, none⟩ (.int .i64 tx.way)).setCell ⟨w.heap.size, 5, none⟩ (.int .i64 tx.ver)).setCell ⟨w.heap.size, 6, none⟩ (.int .i64 tx.want)).setCell ⟨w.heap.size, 7, none⟩ (.slice T1 tx.sent.length u1)).setCell ⟨w.heap.size, 8, none⟩ (.slice T2 tx.live.length u2)).setCell ⟨w.heap.size, 9, none⟩ (.slice T3 tx.back.length u3)).setCell ⟨w.heap.size, 10, none⟩ (.slice T4 tx.got.length u4)) := ((((((((Keeps.refl (fun b => b = w.heap.size) w1).setCell (p := ⟨w.heap.size, 4, none⟩) (.inr rfl) (.int .i64 tx.way)).setCell (p := ⟨w.heap.size, 5, none⟩) (.inr rfl) (.int .i64 tx.ver)).setCell (p := ⟨w.heap.size, 6, none⟩) (.inr rfl) (.int .i64 tx.want)).setCell (p := ⟨w.heap.size, 7, none⟩) (.inr rfl) (.slice T1 tx.sent.length u1)).setCell (p := ⟨w.heap.size, 8, none⟩) (.inr rfl) (.slice T2 tx.live.length u2)).setCell (p := ⟨w.heap.size, 9, none⟩) (.inr rfl) (.slice T3 tx.back.length u3)).setCell (p := ⟨w.heap.size, 10, none⟩) (.inr rfl) (.slice T4 tx.got.length u4))
  have hb := (((((((HBl.out.set_ 4 (.int .i64 tx.way)).set_ 5 (.int .i64 tx.ver)).set_ 6 (.int .i64 tx.want)).set_ 7 (.slice T1 tx.sent.length u1)).set_ 8 (.slice T2 tx.live.length u2)).set_ 9 (.slice T3 tx.back.length u3)).set_ 10 (.slice T4 tx.got.length u4))
  simp only [List.setIfInBounds_toArray, List.set_cons_zero, List.set_cons_succ] at hb
  clear HBl
  have HBl := Lib.hid hb
  clear hb
  have hb := HBr.out.keeps kt fun h => by omega
  clear HBr
  have HBr := Lib.hid hb
  clear hb
  have hr := OW.out.keeps kt (fun b hb h => by have q := OG.out b hb; (try simp at q) <;> omega)
  clear OW
  have OW := Lib.hid hr
  clear hr
  have hr := HK.out.then kt fun i hi h => by omega
  clear HK
  have HK := Lib.hid hr
  clear hr
  have szk := kt.size
  (try simp at szk)
  clear kt
  go_upto_region 2 with fail
  clear l0 l1 l2 l3 l4 l5 l6 l7 l8 l9 l10 l11 l12 zl
  generalize (((((((w1.setCell ⟨w.heap.size, 4, none⟩ (.int .i64 tx.way)).setCell ⟨w.heap.size, 5, none⟩ (.int .i64 tx.ver)).setCell ⟨w.heap.size, 6, none⟩ (.int .i64 tx.want)).setCell ⟨w.heap.size, 7, none⟩ (.slice T1 tx.sent.length u1)).setCell ⟨w.heap.size, 8, none⟩ (.slice T2 tx.live.length u2)).setCell ⟨w.heap.size, 9, none⟩ (.slice T3 tx.back.length u3)).setCell ⟨w.heap.size, 10, none⟩ (.slice T4 tx.got.length u4)) = V2 at *
  clear lf0 lf1 lf2 lf3 lf4 lf5 lf6 lf7 lf8 lf9 lf10 lf11 lf12
  obtain ⟨b, off, rfl, hlo, hlt, hc9, hf9, ho9⟩ := StOwn.back_ OW.out (k := k) (by rw [HX.out]; exact HKL.out) true
  have hi1 : (k : Int) < (tx.back.length : Int) := by have := HKL.out; rw [HX.out]; omega
  have hge := OG.out b (.inr (.inr (.inl ⟨by omega, _, rfl, rfl⟩)))
  (try simp at hge)
  have hn1 : ¬ b = w.heap.size := by omega
  have hn2 : ¬ w.heap.size = b := by omega
  have hn3 : ¬ b = w.heap.size + 1 := by omega
  have hn4 : ¬ w.heap.size + 1 = b := by omega
  have hb := HBl.out
  have l0 := hb.cell 0
  have l1 := hb.cell 1
  have l2 := hb.cell 2
  have l3 := hb.cell 3
  have l4 := hb.cell 4
  have l5 := hb.cell 5
  have l6 := hb.cell 6
  have l7 := hb.cell 7
  have l8 := hb.cell 8
  have l9 := hb.cell 9
  have l10 := hb.cell 10
  have l11 := hb.cell 11
  have l12 := hb.cell 12
  simp at l0 l1 l2 l3 l4 l5 l6 l7 l8 l9 l10 l11 l12
  have zl := hb.lt
  clear hb
  have HBl2 := Lib.hid (HBl.out.keeps ((Keeps.refl (fun x => x = b) V2).setCell (p := ⟨b, off + k, none⟩) (.inr rfl) (.bool true)) fun h => by omega)
  have HBr2 := Lib.hid (HBr.out.keeps ((Keeps.refl (fun x => x = b) V2).setCell (p := ⟨b, off + k, none⟩) (.inr rfl) (.bool true)) fun h => by omega)
  have HK2 := Lib.hid (HK.out.then ((Keeps.refl (fun x => x = b) V2).setCell (p := ⟨b, off + k, none⟩) (.inr rfl) (.bool true)) fun i hi h => by omega)
  go_upto_region 3 with fail
  clear l0 l1 l2 l3 l4 l5 l6 l7 l8 l9 l10 l11 l12 zl
  clear hc9 hf9 hlt OW HBl HBr HK
  generalize (V2.setCell ⟨b, off + k, none⟩ (.bool true)) = V3 at *
  have HBl := HBl2
  clear HBl2
  have HBr := HBr2
  clear HBr2
  have HK := HK2
  clear HK2
  have OW := Lib.hid ho9
  clear ho9
  have hps : k < tx.sent.length := by rw [HX.out]; exact HKS.out
  have hpe : tx.sent.getD k pk0 = p := by rw [HX.out]; exact HP.out
  obtain ⟨b1, off1, rfl, hb1, d0, d1, d2, d3, d4, d5, d6⟩ := (show Pks V3 T1 tx.sent.length tx.sent from by obtain ⟨s1, s2, s3, ⟨q1, q2, q3, q4⟩, _⟩ := OW.out; exact q1.1).at_ hps
  rw [hpe] at d0 d1 d2 d3 d4 d5 d6
  have hi2 : (k : Int) < (tx.sent.length : Int) := by omega
  have hb := HBl.out
  have l0 := hb.cell 0
  have l1 := hb.cell 1
  have l2 := hb.cell 2
  have l3 := hb.cell 3
  have l4 := hb.cell 4
  have l5 := hb.cell 5
  have l6 := hb.cell 6
  have l7 := hb.cell 7
  have l8 := hb.cell 8
  have l9 := hb.cell 9
  have l10 := hb.cell 10
  have l11 := hb.cell 11
  have l12 := hb.cell 12
  simp at l0 l1 l2 l3 l4 l5 l6 l7 l8 l9 l10 l11 l12
  have zl := hb.lt
  clear hb
  go_upto_region 4 with fail
  clear l0 l1 l2 l3 l4 l5 l6 l7 l8 l9 l10 l11 l12 zl
  clear d0 d1 d2 d3 d4 d5 d6
  have hb := HBl.out.alloc (.cells #[.int .i64 p.s, .int .i64 p.k, .int .i64 p.f, .int .i64 p.t, .int .i64 p.m, .int .i64 p.u, .int .i64 p.v] 47)
  clear HBl
  have HBl := Lib.hid hb
  clear hb
  have hb := HBr.out.alloc (.cells #[.int .i64 p.s, .int .i64 p.k, .int .i64 p.f, .int .i64 p.t, .int .i64 p.m, .int .i64 p.u, .int .i64 p.v] 47)
  clear HBr
  have HBr := Lib.hid hb
  clear hb
  have HBp := Lib.hid (Box.new V3 _ rfl 47 #[.int .i64 p.s, .int .i64 p.k, .int .i64 p.f, .int .i64 p.t, .int .i64 p.m, .int .i64 p.u, .int .i64 p.v])
  have hr := HK.out.alloc (.cells #[.int .i64 p.s, .int .i64 p.k, .int .i64 p.f, .int .i64 p.t, .int .i64 p.m, .int .i64 p.u, .int .i64 p.v] 47)
  clear HK
  have HK := Lib.hid hr
  clear hr
  have OW2 := Lib.hid (StM.Own.kept (s := ⟨{ tx with back := tx.back.set k true }, some ⟨b1, off1, none⟩, T2, some ⟨b, off, none⟩, T4, u1, u2, u3, u4⟩) OW.out ((Keeps.refl noBlk V3).alloc (.cells #[.int .i64 p.s, .int .i64 p.k, .int .i64 p.f, .int .i64 p.t, .int .i64 p.m, .int .i64 p.u, .int .i64 p.v] 47)))
  have szp : V3.heap.size + 1 = (V3.alloc (.cells #[.int .i64 p.s, .int .i64 p.k, .int .i64 p.f, .int .i64 p.t, .int .i64 p.m, .int .i64 p.u, .int .i64 p.v] 47)).heap.size := by simp
  generalize V3.alloc (.cells #[.int .i64 p.s, .int .i64 p.k, .int .i64 p.f, .int .i64 p.t, .int .i64 p.m, .int .i64 p.u, .int .i64 p.v] 47) = V4 at *
  clear OW
  have szv := HBr.out.lt
  have hb := HBl.out
  have l0 := hb.cell 0
  have l1 := hb.cell 1
  have l2 := hb.cell 2
  have l3 := hb.cell 3
  have l4 := hb.cell 4
  have l5 := hb.cell 5
  have l6 := hb.cell 6
  have l7 := hb.cell 7
  have l8 := hb.cell 8
  have l9 := hb.cell 9
  have l10 := hb.cell 10
  have l11 := hb.cell 11
  have l12 := hb.cell 12
  simp at l0 l1 l2 l3 l4 l5 l6 l7 l8 l9 l10 l11 l12
  have zl := hb.lt
  clear hb
  have hb := HBp.out
  have p0 := hb.cell 0
  have p1 := hb.cell 1
  have p2 := hb.cell 2
  have p3 := hb.cell 3
  have p4 := hb.cell 4
  have p5 := hb.cell 5
  have p6 := hb.cell 6
  simp at p0 p1 p2 p3 p4 p5 p6
  have zp := hb.lt
  clear hb
  go_wp2_with fail
  refine (F.out _ HK.out).mono ?_
  rintro e w5 hF9
  obtain ⟨x1, y1, x2, y2, rfl, hi9, hj9, hg9, hk5⟩ := retB2_yes' hF9
  have I1 := Lib.hid hi9
  have I2 := Lib.hid hj9
  have HGE := Lib.hid hg9
  clear l0 l1 l2 l3 l4 l5 l6 l7 l8 l9 l10 l11 l12 p0 p1 p2 p3 p4 p5 p6 zl zp
  have hl := HBl.out.keeps hk5 (fun h => h)
  clear HBl
  have HBl := Lib.hid hl
  clear hl
  have hr := HBr.out.keeps hk5 (fun h => h)
  clear HBr
  have HBr := Lib.hid hr
  clear hr
  have hp := HBp.out.keeps hk5 (fun h => h)
  clear HBp
  have HBp := Lib.hid hp
  clear hp
  have hr := StM.Own.kept (OW2.out) hk5
  clear OW2
  have OW2 := Lib.hid hr
  clear hr
  have hr := HK.out.trans hk5
  clear HK
  have HK := Lib.hid hr
  clear hr
  have sz5 := hk5.size
  (try simp at sz5)
  clear hk5 hF9 hi9 hj9 hg9
  have hb := HBl.out
  have l0 := hb.cell 0
  have l1 := hb.cell 1
  have l2 := hb.cell 2
  have l3 := hb.cell 3
  have l4 := hb.cell 4
  have l5 := hb.cell 5
  have l6 := hb.cell 6
  have l7 := hb.cell 7
  have l8 := hb.cell 8
  have l9 := hb.cell 9
  have l10 := hb.cell 10
  have l11 := hb.cell 11
  have l12 := hb.cell 12
  simp at l0 l1 l2 l3 l4 l5 l6 l7 l8 l9 l10 l11 l12
  have zl := hb.lt
  clear hb
  have hb := HBl.out
  have lf0 := hb.frozen 0
  have lf1 := hb.frozen 1
  have lf2 := hb.frozen 2
  have lf3 := hb.frozen 3
  have lf4 := hb.frozen 4
  have lf5 := hb.frozen 5
  have lf6 := hb.frozen 6
  have lf7 := hb.frozen 7
  have lf8 := hb.frozen 8
  have lf9 := hb.frozen 9
  have lf10 := hb.frozen 10
  have lf11 := hb.frozen 11
  have lf12 := hb.frozen 12
  clear hb
  have kt : Keeps (fun b => b = w.heap.size) w5 ((((w5.setCell ⟨w.heap.size, 0, none⟩ (.slice x1 (backed c.bk.b p.k p.f p.m).own.length y1)).setCell ⟨w.heap.size, 1, none⟩ (.slice x2 (backed c.bk.b p.k p.f p.m).notes.length y2)).setCell ⟨w.heap.size, 2, none⟩ (.int .i64 (backed c.bk.b p.k p.f p.m).locked)).alloc (.cells #[.slice x1 (backed c.bk.b p.k p.f p.m).own.length y1, .slice x2 (backed c.bk.b p.k p.f p.m).notes.length y2, .int .i64 (backed c.bk.b p.k p.f p.m).locked] 36)) := (((((Keeps.refl (fun b => b = w.heap.size) w5).setCell (p := ⟨w.heap.size, 0, none⟩) (.inr rfl) (.slice x1 (backed c.bk.b p.k p.f p.m).own.length y1)).setCell (p := ⟨w.heap.size, 1, none⟩) (.inr rfl) (.slice x2 (backed c.bk.b p.k p.f p.m).notes.length y2)).setCell (p := ⟨w.heap.size, 2, none⟩) (.inr rfl) (.int .i64 (backed c.bk.b p.k p.f p.m).locked)).alloc (.cells #[.slice x1 (backed c.bk.b p.k p.f p.m).own.length y1, .slice x2 (backed c.bk.b p.k p.f p.m).notes.length y2, .int .i64 (backed c.bk.b p.k p.f p.m).locked] 36))
  have hb := ((((HBl.out.set_ 0 (.slice x1 (backed c.bk.b p.k p.f p.m).own.length y1)).set_ 1 (.slice x2 (backed c.bk.b p.k p.f p.m).notes.length y2)).set_ 2 (.int .i64 (backed c.bk.b p.k p.f p.m).locked)).alloc (.cells #[.slice x1 (backed c.bk.b p.k p.f p.m).own.length y1, .slice x2 (backed c.bk.b p.k p.f p.m).notes.length y2, .int .i64 (backed c.bk.b p.k p.f p.m).locked] 36))
  simp only [List.setIfInBounds_toArray, List.set_cons_zero, List.set_cons_succ] at hb
  clear HBl
  have HBl := Lib.hid hb
  clear hb
  have hb := HBr.out.keeps kt fun h => by omega
  clear HBr
  have HBr := Lib.hid hb
  clear hb HBp
  have hr := StM.Own.keeps (s := (⟨{ tx with back := tx.back.set k true }, some ⟨b1, off1, none⟩, T2, some ⟨b, off, none⟩, T4, u1, u2, u3, u4⟩ : StM)) OW2.out kt (fun b' hb' h => by have q := StOwn.ge OW2.out hb'; (try simp at q) <;> omega)
  clear OW2
  have OW2 := Lib.hid hr
  clear hr
  have hr := I1.out.keeps kt (fun b' hb' h => by have q := HGE.out b' (.inl hb'); (try simp at q) <;> omega)
  clear I1
  have I1 := Lib.hid hr
  clear hr
  have hr := I2.out.keeps kt (fun b' hb' h => by have q := HGE.out b' (.inr hb'); (try simp at q) <;> omega)
  clear I2
  have I2 := Lib.hid hr
  clear hr
  have hr := HK.out.then kt fun i hi h => by omega
  clear HK
  have HK := Lib.hid hr
  clear hr
  have szk := kt.size
  (try simp at szk)
  clear kt
  go_upto_region 7 with fail
  clear l0 l1 l2 l3 l4 l5 l6 l7 l8 l9 l10 l11 l12 zl
  clear lf0 lf1 lf2 lf3 lf4 lf5 lf6 lf7 lf8 lf9 lf10 lf11 lf12
  generalize ((((w5.setCell ⟨w.heap.size, 0, none⟩ (.slice x1 (backed c.bk.b p.k p.f p.m).own.length y1)).setCell ⟨w.heap.size, 1, none⟩ (.slice x2 (backed c.bk.b p.k p.f p.m).notes.length y2)).setCell ⟨w.heap.size, 2, none⟩ (.int .i64 (backed c.bk.b p.k p.f p.m).locked)).alloc (.cells #[.slice x1 (backed c.bk.b p.k p.f p.m).own.length y1, .slice x2 (backed c.bk.b p.k p.f p.m).notes.length y2, .int .i64 (backed c.bk.b p.k p.f p.m).locked] 36)) = V7 at *
  have hb := HBl.out
  have l0 := hb.cell 0
  have l1 := hb.cell 1
  have l2 := hb.cell 2
  have l3 := hb.cell 3
  have l4 := hb.cell 4
  have l5 := hb.cell 5
  have l6 := hb.cell 6
  have l7 := hb.cell 7
  have l8 := hb.cell 8
  have l9 := hb.cell 9
  have l10 := hb.cell 10
  have l11 := hb.cell 11
  have l12 := hb.cell 12
  simp at l0 l1 l2 l3 l4 l5 l6 l7 l8 l9 l10 l11 l12
  have zl := hb.lt
  clear hb
  have hb := HBr.out
  have r0 := hb.cell 0
  have r1 := hb.cell 1
  have r2 := hb.cell 2
  have r3 := hb.cell 3
  have r4 := hb.cell 4
  have r5 := hb.cell 5
  have r6 := hb.cell 6
  have r7 := hb.cell 7
  have r8 := hb.cell 8
  have r9 := hb.cell 9
  have r10 := hb.cell 10
  have r11 := hb.cell 11
  have r12 := hb.cell 12
  simp at r0 r1 r2 r3 r4 r5 r6 r7 r8 r9 r10 r11 r12
  have zr := hb.lt
  clear hb
  have hb := HBr.out
  have rf0 := hb.frozen 0
  have rf1 := hb.frozen 1
  have rf2 := hb.frozen 2
  have rf3 := hb.frozen 3
  have rf4 := hb.frozen 4
  have rf5 := hb.frozen 5
  have rf6 := hb.frozen 6
  have rf7 := hb.frozen 7
  have rf8 := hb.frozen 8
  have rf9 := hb.frozen 9
  have rf10 := hb.frozen 10
  have rf11 := hb.frozen 11
  have rf12 := hb.frozen 12
  clear hb
  go_wp2
  have hbF := (((((((((((((HBr.out.set_ 0 (.slice x1 (backed c.bk.b p.k p.f p.m).own.length y1)).set_ 1 (.slice x2 (backed c.bk.b p.k p.f p.m).notes.length y2)).set_ 2 (.int .i64 (backed c.bk.b p.k p.f p.m).locked)).set_ 3 (.int .i64 c.id)).set_ 4 (.int .i64 tx.way)).set_ 5 (.int .i64 tx.ver)).set_ 6 (.int .i64 tx.want)).set_ 7 (.slice (some ⟨b1, off1, none⟩) tx.sent.length u1)).set_ 8 (.slice T2 tx.live.length u2)).set_ 9 (.slice (some ⟨b, off, none⟩) tx.back.length u3)).set_ 10 (.slice T4 tx.got.length u4)).set_ 11 (.pointer P)).set_ 12 (.slice c.kA c.knows.length c.kc))
  simp only [List.setIfInBounds_toArray, List.set_cons_zero, List.set_cons_succ] at hbF
  have s10 := hbF.cell 0
  have s11 := hbF.cell 1
  have s12 := hbF.cell 2
  have s13 := hbF.cell 3
  have s14 := hbF.cell 4
  have s15 := hbF.cell 5
  have s16 := hbF.cell 6
  have s17 := hbF.cell 7
  have s18 := hbF.cell 8
  have s19 := hbF.cell 9
  have s20 := hbF.cell 10
  have s21 := hbF.cell 11
  have s22 := hbF.cell 12
  simp at s10 s11 s12 s13 s14 s15 s16 s17 s18 s19 s20 s21 s22
  clear hbF
  have kS : Keeps (fun b => b = w.heap.size + 1) V7 (((((((((((((V7.setCell ⟨w.heap.size + 1, 0, none⟩ (.slice x1 (backed c.bk.b p.k p.f p.m).own.length y1)).setCell ⟨w.heap.size + 1, 1, none⟩ (.slice x2 (backed c.bk.b p.k p.f p.m).notes.length y2)).setCell ⟨w.heap.size + 1, 2, none⟩ (.int .i64 (backed c.bk.b p.k p.f p.m).locked)).setCell ⟨w.heap.size + 1, 3, none⟩ (.int .i64 c.id)).setCell ⟨w.heap.size + 1, 4, none⟩ (.int .i64 tx.way)).setCell ⟨w.heap.size + 1, 5, none⟩ (.int .i64 tx.ver)).setCell ⟨w.heap.size + 1, 6, none⟩ (.int .i64 tx.want)).setCell ⟨w.heap.size + 1, 7, none⟩ (.slice (some ⟨b1, off1, none⟩) tx.sent.length u1)).setCell ⟨w.heap.size + 1, 8, none⟩ (.slice T2 tx.live.length u2)).setCell ⟨w.heap.size + 1, 9, none⟩ (.slice (some ⟨b, off, none⟩) tx.back.length u3)).setCell ⟨w.heap.size + 1, 10, none⟩ (.slice T4 tx.got.length u4)).setCell ⟨w.heap.size + 1, 11, none⟩ (.pointer P)).setCell ⟨w.heap.size + 1, 12, none⟩ (.slice c.kA c.knows.length c.kc)) := ((((((((((((((Keeps.refl (fun b => b = w.heap.size + 1) V7).setCell (p := ⟨w.heap.size + 1, 0, none⟩) (.inr rfl) (.slice x1 (backed c.bk.b p.k p.f p.m).own.length y1)).setCell (p := ⟨w.heap.size + 1, 1, none⟩) (.inr rfl) (.slice x2 (backed c.bk.b p.k p.f p.m).notes.length y2)).setCell (p := ⟨w.heap.size + 1, 2, none⟩) (.inr rfl) (.int .i64 (backed c.bk.b p.k p.f p.m).locked)).setCell (p := ⟨w.heap.size + 1, 3, none⟩) (.inr rfl) (.int .i64 c.id)).setCell (p := ⟨w.heap.size + 1, 4, none⟩) (.inr rfl) (.int .i64 tx.way)).setCell (p := ⟨w.heap.size + 1, 5, none⟩) (.inr rfl) (.int .i64 tx.ver)).setCell (p := ⟨w.heap.size + 1, 6, none⟩) (.inr rfl) (.int .i64 tx.want)).setCell (p := ⟨w.heap.size + 1, 7, none⟩) (.inr rfl) (.slice (some ⟨b1, off1, none⟩) tx.sent.length u1)).setCell (p := ⟨w.heap.size + 1, 8, none⟩) (.inr rfl) (.slice T2 tx.live.length u2)).setCell (p := ⟨w.heap.size + 1, 9, none⟩) (.inr rfl) (.slice (some ⟨b, off, none⟩) tx.back.length u3)).setCell (p := ⟨w.heap.size + 1, 10, none⟩) (.inr rfl) (.slice T4 tx.got.length u4)).setCell (p := ⟨w.heap.size + 1, 11, none⟩) (.inr rfl) (.pointer P)).setCell (p := ⟨w.heap.size + 1, 12, none⟩) (.inr rfl) (.slice c.kA c.knows.length c.kc))
  generalize (((((((((((((V7.setCell ⟨w.heap.size + 1, 0, none⟩ (.slice x1 (backed c.bk.b p.k p.f p.m).own.length y1)).setCell ⟨w.heap.size + 1, 1, none⟩ (.slice x2 (backed c.bk.b p.k p.f p.m).notes.length y2)).setCell ⟨w.heap.size + 1, 2, none⟩ (.int .i64 (backed c.bk.b p.k p.f p.m).locked)).setCell ⟨w.heap.size + 1, 3, none⟩ (.int .i64 c.id)).setCell ⟨w.heap.size + 1, 4, none⟩ (.int .i64 tx.way)).setCell ⟨w.heap.size + 1, 5, none⟩ (.int .i64 tx.ver)).setCell ⟨w.heap.size + 1, 6, none⟩ (.int .i64 tx.want)).setCell ⟨w.heap.size + 1, 7, none⟩ (.slice (some ⟨b1, off1, none⟩) tx.sent.length u1)).setCell ⟨w.heap.size + 1, 8, none⟩ (.slice T2 tx.live.length u2)).setCell ⟨w.heap.size + 1, 9, none⟩ (.slice (some ⟨b, off, none⟩) tx.back.length u3)).setCell ⟨w.heap.size + 1, 10, none⟩ (.slice T4 tx.got.length u4)).setCell ⟨w.heap.size + 1, 11, none⟩ (.pointer P)).setCell ⟨w.heap.size + 1, 12, none⟩ (.slice c.kA c.knows.length c.kc)) = WF at kS s10 s11 s12 s13 s14 s15 s16 s17 s18 s19 s20 s21 s22 ⊢
  refine bodyPost_ret (v := lkV { c with bk := (⟨(backed c.bk.b p.k p.f p.m), x1, x2, y1, y2⟩ : BkM), st := (⟨{ tx with back := tx.back.set k true }, some ⟨b1, off1, none⟩, T2, some ⟨b, off, none⟩, T4, u1, u2, u3, u4⟩ : StM) } P) (by simp [results, Tryz.results63, go_sem, lkV, s10, s11, s12, s13, s14, s15, s16, s17, s18, s19, s20, s21, s22]) rfl ?_
  exact ⟨(⟨(backed c.bk.b p.k p.f p.m), x1, x2, y1, y2⟩ : BkM), (⟨{ tx with back := tx.back.set k true }, some ⟨b1, off1, none⟩, T2, some ⟨b, off, none⟩, T4, u1, u2, u3, u4⟩ : StM), rfl, rfl, by dsimp only; rw [HX.out], (I1.out.keeps kS fun b' hb' h => by have q := HGE.out b' (.inl hb'); (try simp at q) <;> omega), (I2.out.keeps kS fun b' hb' h => by have q := HGE.out b' (.inr hb'); (try simp at q) <;> omega), (StM.Own.keeps (s := (⟨{ tx with back := tx.back.set k true }, some ⟨b1, off1, none⟩, T2, some ⟨b, off, none⟩, T4, u1, u2, u3, u4⟩ : StM)) OW2.out kS (fun b' hb' h => by have q := StOwn.ge OW2.out hb'; (try simp at q) <;> omega)).at_ (by refine ⟨?_, ?_, ?_, ?_⟩ <;> (dsimp only; rw [HX.out]; (try rw [List.length_set]); have := HL9.out; unfold maxLen; omega)), fun b hb => .inl (by have q := HGE.out b hb; (try simp at q) <;> omega), fun b hb => by have q := StOwn.ge OW2.out hb; (try simp at q) <;> omega, HK.out.then kS fun i hi h => by omega⟩
theorem refund_any (c : ChM) (P : Option Addr) (k : Nat) (p : Pk) (w : World) (h : c.st.At w) (ho : Ints w c.bk.A1 c.bk.b.own.length c.bk.b.own) (hnt : Ints w c.bk.A2 c.bk.b.notes.length c.bk.b.notes) (hl1 : c.bk.b.own.length ≤ 1000) (hl2 : c.bk.b.notes.length ≤ 1000) (h3 : c.st.x.sent.length ≤ 1000 ∧ c.st.x.live.length ≤ 1000 ∧ c.st.x.back.length ≤ 1000 ∧ c.st.x.got.length ≤ 1000) (hk : k < c.st.x.back.length) (hk2 : k < c.st.x.sent.length) (hp : c.st.x.sent.getD k pk0 = p) (hf : M64 p.f) :
    Calls Tryz.prog 63 #[lkV c P, .int .i64 ((k : Int) + 1)] w (RetRef w c P (refB c.bk.b p.k p.f p.m) { c.st.x with back := c.st.x.back.set k true }) := by
  rcases Bool.eq_false_or_eq_true (backOk c.bk.b p.k p.f p.m) with hb | hb
  · exact refund_yes c P k p w h ho hnt hl1 hl2 h3 hk hk2 hp hf hb
  · exact refund_no c P k p w h ho hnt hl1 hl2 h3 hk hk2 hp hf hb
end Go.Proofs.YtcnbephpadmboaaGreatDoor
