/- receive() of the program. -/
import Derived.Test.YtcnbephpadmboaaGreatDoorURyB
import Derived.Test.YtcnbephpadmboaaGreatDoorUHas
import Derived.Deep.RegionHeld3
import Derived.Deep.CutRange
set_option linter.unusedVariables false
set_option linter.unusedSimpArgs false
namespace Go.Proofs.YtcnbephpadmboaaGreatDoor
open Go.RowKit

def pkd (k : Int) : Int := if k = 1 then 2 else 1
theorem paidKind_any (k : Int) (w : World) : Calls Tryz.prog 85 #[.int .i64 k] w fun e w' => e = .returned (.int .i64 (pkd k)) ∧ Keeps noBlk w w' := by
  unfold pkd
  by_cases h : k = 1
  · have hn : (k == 1) = true := by simp [h]
    rw [if_pos h]
    clear h
    go_enter Tryz.func85, Tryz.ntmps85
    go_wp2
    go_ret
    exact ⟨rfl, Keeps.refl _ _⟩
  · have hn : (k == 1) = false := by simpa using h
    rw [if_neg h]
    clear h
    go_enter Tryz.func85, Tryz.ntmps85
    go_wp2
    go_ret
    exact ⟨rfl, Keeps.refl _ _⟩
set_option maxRecDepth 100000 in
set_option maxHeartbeats 8000000 in
theorem receive_no (c : ChM) (P : Option Addr) (k : Nat) (kd pf pt pm pu pv : Int) (w : World) (h : c.st.At w) (ho : Ints w c.bk.A1 c.bk.b.own.length c.bk.b.own) (hnt : Ints w c.bk.A2 c.bk.b.notes.length c.bk.b.notes) (hl1 : c.bk.b.own.length ≤ 1000) (hl2 : c.bk.b.notes.length ≤ 1000) (h3 : c.st.x.sent.length ≤ 1000 ∧ c.st.x.live.length ≤ 1000 ∧ c.st.x.back.length ≤ 1000 ∧ c.st.x.got.length ≤ 1000) (hk : k < c.st.x.got.length) (hf : M64 pt) (hb : backOk c.bk.b (pkd kd) pt pm = false) :
    Calls Tryz.prog 44 #[lkV c P, .agg #[.int .i64 ((k : Int) + 1), .int .i64 kd, .int .i64 pf, .int .i64 pt, .int .i64 pm, .int .i64 pu, .int .i64 pv]] w (RetRef w c P (refB c.bk.b (pkd kd) pt pm) { c.st.x with got := c.st.x.got.set k 2 }) := by
  have HKL := Lib.hid hk
  have FC := Lib.hid (fun W (hk : Keeps noBlk w W) => implCopy_any c.st.x c.st.A1 c.st.A2 c.st.A3 c.st.A4 c.st.c1 c.st.c2 c.st.c3 c.st.c4 W (h.kept hk) (by omega) (by omega) (by omega) (by omega))
  unfold stV at FC
  have F := Lib.hid (fun W (hk : Keeps noBlk w W) => implBack_any c.bk.A1 c.bk.A2 c.bk.b.own.length c.bk.b.notes.length c.bk.c1 c.bk.c2 c.bk.b.locked c.bk.b.own c.bk.b.notes W (ho.keeps hk fun _ _ h => h) (hnt.keeps hk fun _ _ h => h) (by unfold maxLen; omega) (by unfold maxLen; omega) (pkd kd) pt pm hf)
  have e1 : (⟨c.bk.b.own, c.bk.b.notes, c.bk.b.locked⟩ : BankL) = c.bk.b := rfl
  rw [e1] at F
  clear e1
  rw [hb] at F
  rw [show refB c.bk.b (pkd kd) pt pm = c.bk.b by unfold refB; rw [hb]; rfl]
  have FP := Lib.hid (fun W => paidKind_any kd W)
  generalize pkd kd = k9 at F FP hb
  have hw1 : IntKind.i64.wrap ((k : Int) + 1 - 1) = k := by rw [show (k : Int) + 1 - 1 = k by omega]; exact IntWalk.i64_in _ (by omega)
  have hw0 : IntKind.i64.wrap (k : Int) = k := IntWalk.i64_in _ (by omega)
  have hi0 : (0 : Int) ≤ k := by omega
  have HO := Lib.hid ho
  have HN := Lib.hid hnt
  have HL9 := Lib.hid h3
  clear h hk h3 hb hf ho hnt hl1 hl2
  have HBl := Lib.hid (((Box.new w (w.heap.size) (by simp) 78 #[.slice c.bk.A1 c.bk.b.own.length c.bk.c1, .slice c.bk.A2 c.bk.b.notes.length c.bk.c2, .int .i64 c.bk.b.locked, .int .i64 c.id, .int .i64 c.st.x.way, .int .i64 c.st.x.ver, .int .i64 c.st.x.want, .slice c.st.A1 c.st.x.sent.length c.st.c1, .slice c.st.A2 c.st.x.live.length c.st.c2, .slice c.st.A3 c.st.x.back.length c.st.c3, .slice c.st.A4 c.st.x.got.length c.st.c4, .pointer P, .slice c.kA c.knows.length c.kc]).alloc (.cells #[.int .i64 ((k : Int) + 1), .int .i64 kd, .int .i64 pf, .int .i64 pt, .int .i64 pm, .int .i64 pu, .int .i64 pv] 47)).alloc (.cells #[.slice none 0 0, .slice none 0 0, .int .i64 0, .int .i64 0, .int .i64 0, .int .i64 0, .int .i64 0, .slice none 0 0, .slice none 0 0, .slice none 0 0, .slice none 0 0, .pointer none, .slice none 0 0] 78))
  have HBp := Lib.hid ((Box.new (w.alloc (.cells #[.slice c.bk.A1 c.bk.b.own.length c.bk.c1, .slice c.bk.A2 c.bk.b.notes.length c.bk.c2, .int .i64 c.bk.b.locked, .int .i64 c.id, .int .i64 c.st.x.way, .int .i64 c.st.x.ver, .int .i64 c.st.x.want, .slice c.st.A1 c.st.x.sent.length c.st.c1, .slice c.st.A2 c.st.x.live.length c.st.c2, .slice c.st.A3 c.st.x.back.length c.st.c3, .slice c.st.A4 c.st.x.got.length c.st.c4, .pointer P, .slice c.kA c.knows.length c.kc] 78)) (w.heap.size + 1) (by simp) 47 #[.int .i64 ((k : Int) + 1), .int .i64 kd, .int .i64 pf, .int .i64 pt, .int .i64 pm, .int .i64 pu, .int .i64 pv]).alloc (.cells #[.slice none 0 0, .slice none 0 0, .int .i64 0, .int .i64 0, .int .i64 0, .int .i64 0, .int .i64 0, .slice none 0 0, .slice none 0 0, .slice none 0 0, .slice none 0 0, .pointer none, .slice none 0 0] 78))
  have HBr := Lib.hid (Box.new ((w.alloc (.cells #[.slice c.bk.A1 c.bk.b.own.length c.bk.c1, .slice c.bk.A2 c.bk.b.notes.length c.bk.c2, .int .i64 c.bk.b.locked, .int .i64 c.id, .int .i64 c.st.x.way, .int .i64 c.st.x.ver, .int .i64 c.st.x.want, .slice c.st.A1 c.st.x.sent.length c.st.c1, .slice c.st.A2 c.st.x.live.length c.st.c2, .slice c.st.A3 c.st.x.back.length c.st.c3, .slice c.st.A4 c.st.x.got.length c.st.c4, .pointer P, .slice c.kA c.knows.length c.kc] 78)).alloc (.cells #[.int .i64 ((k : Int) + 1), .int .i64 kd, .int .i64 pf, .int .i64 pt, .int .i64 pm, .int .i64 pu, .int .i64 pv] 47)) (w.heap.size + 1 + 1) (by simp) 78 #[.slice none 0 0, .slice none 0 0, .int .i64 0, .int .i64 0, .int .i64 0, .int .i64 0, .int .i64 0, .slice none 0 0, .slice none 0 0, .slice none 0 0, .slice none 0 0, .pointer none, .slice none 0 0])
  have HK := Lib.hid ((((Keeps.refl noBlk w).alloc (.cells #[.slice c.bk.A1 c.bk.b.own.length c.bk.c1, .slice c.bk.A2 c.bk.b.notes.length c.bk.c2, .int .i64 c.bk.b.locked, .int .i64 c.id, .int .i64 c.st.x.way, .int .i64 c.st.x.ver, .int .i64 c.st.x.want, .slice c.st.A1 c.st.x.sent.length c.st.c1, .slice c.st.A2 c.st.x.live.length c.st.c2, .slice c.st.A3 c.st.x.back.length c.st.c3, .slice c.st.A4 c.st.x.got.length c.st.c4, .pointer P, .slice c.kA c.knows.length c.kc] 78)).alloc (.cells #[.int .i64 ((k : Int) + 1), .int .i64 kd, .int .i64 pf, .int .i64 pt, .int .i64 pm, .int .i64 pu, .int .i64 pv] 47)).alloc (.cells #[.slice none 0 0, .slice none 0 0, .int .i64 0, .int .i64 0, .int .i64 0, .int .i64 0, .int .i64 0, .slice none 0 0, .slice none 0 0, .slice none 0 0, .slice none 0 0, .pointer none, .slice none 0 0] 78))
  unfold lkV
  go_enter Tryz.func44, Tryz.ntmps44
  have hb := HBl.out
  have l0 := hb.cell 0
  have l1 := hb.cell 1
  have l2 := hb.cell 2
  have l3 := hb.cell 3
  have l4 := hb.cell 4
  have l5 := hb.cell 5
  have l6 := hb.cell 6
  have l7 := hb.cell 7
  have l8 := hb.cell 8
  have l9 := hb.cell 9
  have l10 := hb.cell 10
  have l11 := hb.cell 11
  have l12 := hb.cell 12
  simp at l0 l1 l2 l3 l4 l5 l6 l7 l8 l9 l10 l11 l12
  have zl := hb.lt
  clear hb
  go_wp2_with fail
  refine (FC.out _ HK.out).mono ?_
  rintro e w1 ⟨⟨tx, T1, T2, T3, T4, u1, u2, u3, u4⟩, rfl, hx9, hk1, _, ho9⟩
  dsimp only [StM.val]
  dsimp only at hx9 ho9
  have HX := Lib.hid hx9
  have OW := Lib.hid ho9
  have OG := Lib.hid (fun b (hb : stBlk tx T1 T2 T3 T4 b) => ho9.ge hb)
  (try simp at OG)
  clear hx9 ho9
  clear l0 l1 l2 l3 l4 l5 l6 l7 l8 l9 l10 l11 l12 zl
  have hl := HBl.out.keeps hk1 (fun h => h)
  clear HBl
  have HBl := Lib.hid hl
  clear hl
  have hp := HBp.out.keeps hk1 (fun h => h)
  clear HBp
  have HBp := Lib.hid hp
  clear hp
  have hr := HBr.out.keeps hk1 (fun h => h)
  clear HBr
  have HBr := Lib.hid hr
  clear hr
  have hr := HK.out.trans hk1
  clear HK
  have HK := Lib.hid hr
  clear hr
  have sz1 := hk1.size
  (try simp at sz1)
  clear hk1
  have hb := HBl.out
  have l0 := hb.cell 0
  have l1 := hb.cell 1
  have l2 := hb.cell 2
  have l3 := hb.cell 3
  have l4 := hb.cell 4
  have l5 := hb.cell 5
  have l6 := hb.cell 6
  have l7 := hb.cell 7
  have l8 := hb.cell 8
  have l9 := hb.cell 9
  have l10 := hb.cell 10
  have l11 := hb.cell 11
  have l12 := hb.cell 12
  simp at l0 l1 l2 l3 l4 l5 l6 l7 l8 l9 l10 l11 l12
  have zl := hb.lt
  clear hb
  have hb := HBl.out
  have lf0 := hb.frozen 0
  have lf1 := hb.frozen 1
  have lf2 := hb.frozen 2
  have lf3 := hb.frozen 3
  have lf4 := hb.frozen 4
  have lf5 := hb.frozen 5
  have lf6 := hb.frozen 6
  have lf7 := hb.frozen 7
  have lf8 := hb.frozen 8
  have lf9 := hb.frozen 9
  have lf10 := hb.frozen 10
  have lf11 := hb.frozen 11
  have lf12 := hb.frozen 12
  clear hb
  have kt : Keeps (fun b => b = w.heap.size) w1 (((((((w1.setCell ⟨w.heap.size, 4, none⟩ (.int .i64 tx.way)).setCell ⟨w.heap.size, 5, none⟩ (.int .i64 tx.ver)).setCell ⟨w.heap.size, 6, none⟩ (.int .i64 tx.want)).setCell ⟨w.heap.size, 7, none⟩ (.slice T1 tx.sent.length u1)).setCell ⟨w.heap.size, 8, none⟩ (.slice T2 tx.live.length u2)).setCell ⟨w.heap.size, 9, none⟩ (.slice T3 tx.back.length u3)).setCell ⟨w.heap.size, 10, none⟩ (.slice T4 tx.got.length u4)) := ((((((((Keeps.refl (fun b => b = w.heap.size) w1).setCell (p := ⟨w.heap.size, 4, none⟩) (.inr rfl) (.int .i64 tx.way)).setCell (p := ⟨w.heap.size, 5, none⟩) (.inr rfl) (.int .i64 tx.ver)).setCell (p := ⟨w.heap.size, 6, none⟩) (.inr rfl) (.int .i64 tx.want)).setCell (p := ⟨w.heap.size, 7, none⟩) (.inr rfl) (.slice T1 tx.sent.length u1)).setCell (p := ⟨w.heap.size, 8, none⟩) (.inr rfl) (.slice T2 tx.live.length u2)).setCell (p := ⟨w.heap.size, 9, none⟩) (.inr rfl) (.slice T3 tx.back.length u3)).setCell (p := ⟨w.heap.size, 10, none⟩) (.inr rfl) (.slice T4 tx.got.length u4))
  have hb := (((((((HBl.out.set_ 4 (.int .i64 tx.way)).set_ 5 (.int .i64 tx.ver)).set_ 6 (.int .i64 tx.want)).set_ 7 (.slice T1 tx.sent.length u1)).set_ 8 (.slice T2 tx.live.length u2)).set_ 9 (.slice T3 tx.back.length u3)).set_ 10 (.slice T4 tx.got.length u4))
  simp only [List.setIfInBounds_toArray, List.set_cons_zero, List.set_cons_succ] at hb
  clear HBl
  have HBl := Lib.hid hb
  clear hb
  have hb := HBp.out.keeps kt fun h => by omega
  clear HBp
  have HBp := Lib.hid hb
  clear hb
  have hb := HBr.out.keeps kt fun h => by omega
  clear HBr
  have HBr := Lib.hid hb
  clear hb
  have hr := OW.out.keeps kt (fun b hb h => by have q := OG.out b hb; (try simp at q) <;> omega)
  clear OW
  have OW := Lib.hid hr
  clear hr
  have hr := HK.out.then kt fun i hi h => by omega
  clear HK
  have HK := Lib.hid hr
  clear hr
  have szk := kt.size
  (try simp at szk)
  clear kt
  go_upto_region 2 with fail
  clear l0 l1 l2 l3 l4 l5 l6 l7 l8 l9 l10 l11 l12 zl
  generalize (((((((w1.setCell ⟨w.heap.size, 4, none⟩ (.int .i64 tx.way)).setCell ⟨w.heap.size, 5, none⟩ (.int .i64 tx.ver)).setCell ⟨w.heap.size, 6, none⟩ (.int .i64 tx.want)).setCell ⟨w.heap.size, 7, none⟩ (.slice T1 tx.sent.length u1)).setCell ⟨w.heap.size, 8, none⟩ (.slice T2 tx.live.length u2)).setCell ⟨w.heap.size, 9, none⟩ (.slice T3 tx.back.length u3)).setCell ⟨w.heap.size, 10, none⟩ (.slice T4 tx.got.length u4)) = V2 at *
  clear lf0 lf1 lf2 lf3 lf4 lf5 lf6 lf7 lf8 lf9 lf10 lf11 lf12
  have OL := Lib.hid (fun b (hb : stBlk tx T1 T2 T3 T4 b) => StOwn.lt OW.out hb)
  have zv2 := HBr.out.lt
  have hb := HBl.out
  have l0 := hb.cell 0
  have l1 := hb.cell 1
  have l2 := hb.cell 2
  have l3 := hb.cell 3
  have l4 := hb.cell 4
  have l5 := hb.cell 5
  have l6 := hb.cell 6
  have l7 := hb.cell 7
  have l8 := hb.cell 8
  have l9 := hb.cell 9
  have l10 := hb.cell 10
  have l11 := hb.cell 11
  have l12 := hb.cell 12
  simp at l0 l1 l2 l3 l4 l5 l6 l7 l8 l9 l10 l11 l12
  have zl := hb.lt
  clear hb
  have hb := HBp.out
  have p0 := hb.cell 0
  have p1 := hb.cell 1
  have p2 := hb.cell 2
  have p3 := hb.cell 3
  have p4 := hb.cell 4
  have p5 := hb.cell 5
  have p6 := hb.cell 6
  simp at p0 p1 p2 p3 p4 p5 p6
  have zp := hb.lt
  clear hb
  go_cut [5, 6] from 11 to 23 (fun sp so wx => ∃ gn : Nat, sp = .pointer (some ⟨gn, 0, none⟩) ∧ so = .bool false ∧ V2.heap.size ≤ gn ∧ Keeps noBlk V2 wx)
  case first =>
    have TKv : True := trivial
    go_region_held3 (fun w' => w'.cell? ⟨w.heap.size, 0, none⟩ = some (.slice c.bk.A1 c.bk.b.own.length c.bk.c1) ∧ w'.cell? ⟨w.heap.size, 1, none⟩ = some (.slice c.bk.A2 c.bk.b.notes.length c.bk.c2) ∧ w'.cell? ⟨w.heap.size, 2, none⟩ = some (.int .i64 c.bk.b.locked) ∧ w'.cell? ⟨w.heap.size, 3, none⟩ = some (.int .i64 c.id) ∧ w'.cell? ⟨w.heap.size, 4, none⟩ = some (.int .i64 tx.way) ∧ w'.cell? ⟨w.heap.size, 5, none⟩ = some (.int .i64 tx.ver) ∧ w'.cell? ⟨w.heap.size, 6, none⟩ = some (.int .i64 tx.want) ∧ w'.cell? ⟨w.heap.size, 7, none⟩ = some (.slice T1 tx.sent.length u1) ∧ w'.cell? ⟨w.heap.size, 8, none⟩ = some (.slice T2 tx.live.length u2) ∧ w'.cell? ⟨w.heap.size, 9, none⟩ = some (.slice T3 tx.back.length u3) ∧ w'.cell? ⟨w.heap.size, 10, none⟩ = some (.slice T4 tx.got.length u4) ∧ w'.cell? ⟨w.heap.size, 11, none⟩ = some (.pointer P) ∧ w'.cell? ⟨w.heap.size, 12, none⟩ = some (.slice c.kA c.knows.length c.kc) ∧ w'.cell? ⟨w.heap.size + 1, 0, none⟩ = some (.int .i64 ((k : Int) + 1)) ∧ w'.cell? ⟨w.heap.size + 1, 1, none⟩ = some (.int .i64 kd) ∧ w'.cell? ⟨w.heap.size + 1, 2, none⟩ = some (.int .i64 pf) ∧ w'.cell? ⟨w.heap.size + 1, 3, none⟩ = some (.int .i64 pt) ∧ w'.cell? ⟨w.heap.size + 1, 4, none⟩ = some (.int .i64 pm) ∧ w'.cell? ⟨w.heap.size + 1, 5, none⟩ = some (.int .i64 pu) ∧ w'.cell? ⟨w.heap.size + 1, 6, none⟩ = some (.int .i64 pv))
      (((try dsimp only); (repeat' apply And.intro) <;> (first | with_reducible assumption | (go_keep; done))))
      (first | (have _t := HBv9; clear _t; go_at_call 84; refine (F.out _ HK.out).mono ?_; rintro e u2 hF9; obtain ⟨rfl, hk2⟩ := retB2_no' hF9; unfold noBank; have hq := hk2; clear hk2; clear hF9; have hv := HBv9.out.keeps hq (fun h => h); clear HBv9; have HBv9 := Lib.hid hv; clear hv; have hl := HBl.out.keeps hq (fun h => h); clear HBl; have HBl := Lib.hid hl; clear l0 l1 l2 l3 l4 l5 l6 l7 l8 l9 l10 l11 l12 zl; have l0 := hl.cell 0; have l1 := hl.cell 1; have l2 := hl.cell 2; have l3 := hl.cell 3; have l4 := hl.cell 4; have l5 := hl.cell 5; have l6 := hl.cell 6; have l7 := hl.cell 7; have l8 := hl.cell 8; have l9 := hl.cell 9; have l10 := hl.cell 10; have l11 := hl.cell 11; have l12 := hl.cell 12; simp at l0 l1 l2 l3 l4 l5 l6 l7 l8 l9 l10 l11 l12; have zl := hl.lt; clear hl; have hp := HBp.out.keeps hq (fun h => h); clear HBp; have HBp := Lib.hid hp; clear p0 p1 p2 p3 p4 p5 p6 zp; have p0 := hp.cell 0; have p1 := hp.cell 1; have p2 := hp.cell 2; have p3 := hp.cell 3; have p4 := hp.cell 4; have p5 := hp.cell 5; have p6 := hp.cell 6; simp at p0 p1 p2 p3 p4 p5 p6; have zp := hp.lt; clear hp; have hb := HBv9.out; have v90 := hb.cell 0; have v91 := hb.cell 1; have v92 := hb.cell 2; have f90 := hb.frozen 0; have f91 := hb.frozen 1; have f92 := hb.frozen 2; simp at v90 v91 v92; have z9 := hb.lt; clear hb; have hq9 := HQ9.out.trans hq; clear HQ9; have HQ9 := Lib.hid hq9; clear hq9; have hh9 := HK.out.trans hq; clear HK; have HK := Lib.hid hh9; clear hh9; have sz2 := hq.size; (try simp at sz2); clear hq) | (have _t := TKv; clear _t; go_at_call 84; refine (F.out _ HK.out).mono ?_; rintro e u2 hF9; obtain ⟨rfl, hk2⟩ := retB2_no' hF9; unfold noBank; have hq := hk2; clear hk2; clear hF9; have hl := HBl.out.keeps hq (fun h => h); clear HBl; have HBl := Lib.hid hl; clear l0 l1 l2 l3 l4 l5 l6 l7 l8 l9 l10 l11 l12 zl; have l0 := hl.cell 0; have l1 := hl.cell 1; have l2 := hl.cell 2; have l3 := hl.cell 3; have l4 := hl.cell 4; have l5 := hl.cell 5; have l6 := hl.cell 6; have l7 := hl.cell 7; have l8 := hl.cell 8; have l9 := hl.cell 9; have l10 := hl.cell 10; have l11 := hl.cell 11; have l12 := hl.cell 12; simp at l0 l1 l2 l3 l4 l5 l6 l7 l8 l9 l10 l11 l12; have zl := hl.lt; clear hl; have hp := HBp.out.keeps hq (fun h => h); clear HBp; have HBp := Lib.hid hp; clear p0 p1 p2 p3 p4 p5 p6 zp; have p0 := hp.cell 0; have p1 := hp.cell 1; have p2 := hp.cell 2; have p3 := hp.cell 3; have p4 := hp.cell 4; have p5 := hp.cell 5; have p6 := hp.cell 6; simp at p0 p1 p2 p3 p4 p5 p6; have zp := hp.lt; clear hp; have hq9 := HQ9.out.trans hq; clear HQ9; have HQ9 := Lib.hid hq9; clear hq9; have hh9 := HK.out.trans hq; clear HK; have HK := Lib.hid hh9; clear hh9; have sz2 := hq.size; (try simp at sz2); clear hq) | (clear TKv; have TKh0 : True := trivial; go_at_call 85; refine (FP.out ((V2.alloc (.cells #[.slice none 0 0, .slice none 0 0, .int .i64 0] 36)).drewN 1)).mono ?_; rintro e u1 ⟨rfl, hk1⟩; have hraw := ((Keeps.refl noBlk (V2.alloc (.cells #[.slice none 0 0, .slice none 0 0, .int .i64 0] 36))).drewN 1).trans hk1; have HBv9 := Lib.hid ((Box.new V2 _ rfl 36 #[.slice none 0 0, .slice none 0 0, .int .i64 0]).keeps hraw (fun h => h)); have hq := ((Keeps.refl noBlk V2).alloc (.cells #[.slice none 0 0, .slice none 0 0, .int .i64 0] 36)).trans hraw; clear hraw; clear hk1; have hl := HBl.out.keeps hq (fun h => h); clear HBl; have HBl := Lib.hid hl; clear l0 l1 l2 l3 l4 l5 l6 l7 l8 l9 l10 l11 l12 zl; have l0 := hl.cell 0; have l1 := hl.cell 1; have l2 := hl.cell 2; have l3 := hl.cell 3; have l4 := hl.cell 4; have l5 := hl.cell 5; have l6 := hl.cell 6; have l7 := hl.cell 7; have l8 := hl.cell 8; have l9 := hl.cell 9; have l10 := hl.cell 10; have l11 := hl.cell 11; have l12 := hl.cell 12; simp at l0 l1 l2 l3 l4 l5 l6 l7 l8 l9 l10 l11 l12; have zl := hl.lt; clear hl; have hp := HBp.out.keeps hq (fun h => h); clear HBp; have HBp := Lib.hid hp; clear p0 p1 p2 p3 p4 p5 p6 zp; have p0 := hp.cell 0; have p1 := hp.cell 1; have p2 := hp.cell 2; have p3 := hp.cell 3; have p4 := hp.cell 4; have p5 := hp.cell 5; have p6 := hp.cell 6; simp at p0 p1 p2 p3 p4 p5 p6; have zp := hp.lt; clear hp; have hb := HBv9.out; have v90 := hb.cell 0; have v91 := hb.cell 1; have v92 := hb.cell 2; have f90 := hb.frozen 0; have f91 := hb.frozen 1; have f92 := hb.frozen 2; simp at v90 v91 v92; have z9 := hb.lt; clear hb; have HQ9 := Lib.hid hq; have hh9 := HK.out.trans hq; clear HK; have HK := Lib.hid hh9; clear hh9; have sz1 := hq.size; (try simp at sz1); clear hq; have : ¬ w.heap.size = V2.heap.size := (by omega); have : ¬ V2.heap.size = w.heap.size := (by omega); have : ¬ w.heap.size + 1 = V2.heap.size := (by omega); have : ¬ V2.heap.size = w.heap.size + 1 := (by omega)) | (go_at_call 85; refine (FP.out (V2.drewN 1)).mono ?_; rintro e u1 ⟨rfl, hk1⟩; have hq := ((Keeps.refl noBlk V2).drewN 1).trans hk1; clear hk1; have hl := HBl.out.keeps hq (fun h => h); clear HBl; have HBl := Lib.hid hl; clear l0 l1 l2 l3 l4 l5 l6 l7 l8 l9 l10 l11 l12 zl; have l0 := hl.cell 0; have l1 := hl.cell 1; have l2 := hl.cell 2; have l3 := hl.cell 3; have l4 := hl.cell 4; have l5 := hl.cell 5; have l6 := hl.cell 6; have l7 := hl.cell 7; have l8 := hl.cell 8; have l9 := hl.cell 9; have l10 := hl.cell 10; have l11 := hl.cell 11; have l12 := hl.cell 12; simp at l0 l1 l2 l3 l4 l5 l6 l7 l8 l9 l10 l11 l12; have zl := hl.lt; clear hl; have hp := HBp.out.keeps hq (fun h => h); clear HBp; have HBp := Lib.hid hp; clear p0 p1 p2 p3 p4 p5 p6 zp; have p0 := hp.cell 0; have p1 := hp.cell 1; have p2 := hp.cell 2; have p3 := hp.cell 3; have p4 := hp.cell 4; have p5 := hp.cell 5; have p6 := hp.cell 6; simp at p0 p1 p2 p3 p4 p5 p6; have zp := hp.lt; clear hp; have HQ9 := Lib.hid hq; have hh9 := HK.out.trans hq; clear HK; have HK := Lib.hid hh9; clear hh9; have sz1 := hq.size; (try simp at sz1); clear hq) | (clear TKv; have TKh1 : True := trivial; go_at_call 84; refine (F.out _ (HK.out.alloc (.cells #[.slice none 0 0, .slice none 0 0, .int .i64 0] 36))).mono ?_; rintro e u2 hF9; obtain ⟨rfl, hk2⟩ := retB2_no' hF9; unfold noBank; have hraw := hk2; have HBv9 := Lib.hid ((Box.new u1 _ rfl 36 #[.slice none 0 0, .slice none 0 0, .int .i64 0]).keeps hraw (fun h => h)); have hq := ((Keeps.refl noBlk u1).alloc (.cells #[.slice none 0 0, .slice none 0 0, .int .i64 0] 36)).trans hraw; clear hraw; clear hk2; clear hF9; have hl := HBl.out.keeps hq (fun h => h); clear HBl; have HBl := Lib.hid hl; clear l0 l1 l2 l3 l4 l5 l6 l7 l8 l9 l10 l11 l12 zl; have l0 := hl.cell 0; have l1 := hl.cell 1; have l2 := hl.cell 2; have l3 := hl.cell 3; have l4 := hl.cell 4; have l5 := hl.cell 5; have l6 := hl.cell 6; have l7 := hl.cell 7; have l8 := hl.cell 8; have l9 := hl.cell 9; have l10 := hl.cell 10; have l11 := hl.cell 11; have l12 := hl.cell 12; simp at l0 l1 l2 l3 l4 l5 l6 l7 l8 l9 l10 l11 l12; have zl := hl.lt; clear hl; have hp := HBp.out.keeps hq (fun h => h); clear HBp; have HBp := Lib.hid hp; clear p0 p1 p2 p3 p4 p5 p6 zp; have p0 := hp.cell 0; have p1 := hp.cell 1; have p2 := hp.cell 2; have p3 := hp.cell 3; have p4 := hp.cell 4; have p5 := hp.cell 5; have p6 := hp.cell 6; simp at p0 p1 p2 p3 p4 p5 p6; have zp := hp.lt; clear hp; have hb := HBv9.out; have v90 := hb.cell 0; have v91 := hb.cell 1; have v92 := hb.cell 2; have f90 := hb.frozen 0; have f91 := hb.frozen 1; have f92 := hb.frozen 2; simp at v90 v91 v92; have z9 := hb.lt; clear hb; have hq9 := HQ9.out.trans hq; clear HQ9; have HQ9 := Lib.hid hq9; clear hq9; have hh9 := HK.out.trans hq; clear HK; have HK := Lib.hid hh9; clear hh9; have sz2 := hq.size; (try simp at sz2); clear hq; have : ¬ w.heap.size = u1.heap.size := (by omega); have : ¬ u1.heap.size = w.heap.size := (by omega); have : ¬ w.heap.size + 1 = u1.heap.size := (by omega); have : ¬ u1.heap.size = w.heap.size + 1 := (by omega)))
    all_goals go_wp2_with fail
    all_goals go_meet
    all_goals first | (have _t := TKv; have KA := (Keeps.refl noBlk u2).alloc (.cells #[.slice none 0 0, .slice none 0 0, .int .i64 0] 36); exact ⟨u2.heap.size, rfl, rfl, by omega, HQ9.out.trans KA⟩) | (have _t := TKh0; exact ⟨V2.heap.size, rfl, rfl, by omega, (((HQ9.out.new (g := V2.heap.size) (by omega) _ _).new (g := V2.heap.size) (by omega) _ _).new (g := V2.heap.size) (by omega) _ _)⟩) | (have _t := TKh1; exact ⟨u1.heap.size, rfl, rfl, by omega, (((HQ9.out.new (g := u1.heap.size) (by omega) _ _).new (g := u1.heap.size) (by omega) _ _).new (g := u1.heap.size) (by omega) _ _)⟩)
  case rest =>
  obtain ⟨gb, rfl, rfl, hgb, hq9⟩ := hcut
  have hb := HBl.out.keeps hq9 (fun h => h)
  clear HBl
  have HBl := Lib.hid hb
  clear hb
  have hb := HBp.out.keeps hq9 (fun h => h)
  clear HBp
  have HBp := Lib.hid hb
  clear hb
  have hb := HBr.out.keeps hq9 (fun h => h)
  clear HBr
  have HBr := Lib.hid hb
  clear hb
  have hr := HK.out.trans hq9
  clear HK
  have HK := Lib.hid hr
  clear hr
  have hr := OW.out.kept hq9
  clear OW
  have OW := Lib.hid hr
  clear hr
  have sq9 := hq9.size
  clear hq9
  obtain ⟨b, off, rfl, hlo, hlt, hc9, hf9, ho9⟩ := StOwn.got_ OW.out (k := k) (by rw [HX.out]; exact HKL.out) 2
  have hi1 : (k : Int) < (tx.got.length : Int) := by have := HKL.out; rw [HX.out]; omega
  have HBW := Lib.hid (OL.out b (.inr (.inr (.inr ⟨by omega, _, rfl, rfl⟩))))
  have hge := OG.out b (.inr (.inr (.inr ⟨by omega, _, rfl, rfl⟩)))
  (try simp at hge)
  have : ¬ b = w.heap.size := by omega
  have : ¬ w.heap.size = b := by omega
  have : ¬ b = w.heap.size + 1 := by omega
  have : ¬ w.heap.size + 1 = b := by omega
  have : ¬ b = w.heap.size + 1 + 1 := by omega
  have : ¬ w.heap.size + 1 + 1 = b := by omega
  have zbr := HBr.out.lt
  have hgl : V2.heap.size ≤ gb := hgb
  have hb := HBl.out
  have l0 := hb.cell 0
  have l1 := hb.cell 1
  have l2 := hb.cell 2
  have l3 := hb.cell 3
  have l4 := hb.cell 4
  have l5 := hb.cell 5
  have l6 := hb.cell 6
  have l7 := hb.cell 7
  have l8 := hb.cell 8
  have l9 := hb.cell 9
  have l10 := hb.cell 10
  have l11 := hb.cell 11
  have l12 := hb.cell 12
  simp at l0 l1 l2 l3 l4 l5 l6 l7 l8 l9 l10 l11 l12
  have zl := hb.lt
  clear hb
  have hb := HBp.out
  have p0 := hb.cell 0
  have p1 := hb.cell 1
  have p2 := hb.cell 2
  have p3 := hb.cell 3
  have p4 := hb.cell 4
  have p5 := hb.cell 5
  have p6 := hb.cell 6
  simp at p0 p1 p2 p3 p4 p5 p6
  have zp := hb.lt
  clear hb
  have HBl2 := Lib.hid (HBl.out.keeps ((Keeps.refl (fun x => x = b) wc).setCell (p := ⟨b, off + k, none⟩) (.inr rfl) (.int .i64 2)) fun h => by omega)
  have HBr2 := Lib.hid (HBr.out.keeps ((Keeps.refl (fun x => x = b) wc).setCell (p := ⟨b, off + k, none⟩) (.inr rfl) (.int .i64 2)) fun h => by omega)
  have HK2 := Lib.hid (HK.out.then ((Keeps.refl (fun x => x = b) wc).setCell (p := ⟨b, off + k, none⟩) (.inr rfl) (.int .i64 2)) fun i hi h => by omega)
  go_upto_region 5 with fail
  clear l0 l1 l2 l3 l4 l5 l6 l7 l8 l9 l10 l11 l12 p0 p1 p2 p3 p4 p5 p6 zl zp
  clear hc9 hf9 hlt OW HBl HBr HK HBp
  generalize (wc.setCell ⟨b, off + k, none⟩ (.int .i64 2)) = V5 at *
  have HBl := HBl2
  clear HBl2
  have HBr := HBr2
  clear HBr2
  have HK := HK2
  clear HK2
  have OW := Lib.hid ho9
  clear ho9
  have hb := HBl.out
  have l0 := hb.cell 0
  have l1 := hb.cell 1
  have l2 := hb.cell 2
  have l3 := hb.cell 3
  have l4 := hb.cell 4
  have l5 := hb.cell 5
  have l6 := hb.cell 6
  have l7 := hb.cell 7
  have l8 := hb.cell 8
  have l9 := hb.cell 9
  have l10 := hb.cell 10
  have l11 := hb.cell 11
  have l12 := hb.cell 12
  simp at l0 l1 l2 l3 l4 l5 l6 l7 l8 l9 l10 l11 l12
  have zl := hb.lt
  clear hb
  have hb := HBr.out
  have r0 := hb.cell 0
  have r1 := hb.cell 1
  have r2 := hb.cell 2
  have r3 := hb.cell 3
  have r4 := hb.cell 4
  have r5 := hb.cell 5
  have r6 := hb.cell 6
  have r7 := hb.cell 7
  have r8 := hb.cell 8
  have r9 := hb.cell 9
  have r10 := hb.cell 10
  have r11 := hb.cell 11
  have r12 := hb.cell 12
  simp at r0 r1 r2 r3 r4 r5 r6 r7 r8 r9 r10 r11 r12
  have zr := hb.lt
  clear hb
  have hb := HBr.out
  have rf0 := hb.frozen 0
  have rf1 := hb.frozen 1
  have rf2 := hb.frozen 2
  have rf3 := hb.frozen 3
  have rf4 := hb.frozen 4
  have rf5 := hb.frozen 5
  have rf6 := hb.frozen 6
  have rf7 := hb.frozen 7
  have rf8 := hb.frozen 8
  have rf9 := hb.frozen 9
  have rf10 := hb.frozen 10
  have rf11 := hb.frozen 11
  have rf12 := hb.frozen 12
  clear hb
  go_wp2
  have hbF := (((((((((((((HBr.out.set_ 0 (.slice c.bk.A1 c.bk.b.own.length c.bk.c1)).set_ 1 (.slice c.bk.A2 c.bk.b.notes.length c.bk.c2)).set_ 2 (.int .i64 c.bk.b.locked)).set_ 3 (.int .i64 c.id)).set_ 4 (.int .i64 tx.way)).set_ 5 (.int .i64 tx.ver)).set_ 6 (.int .i64 tx.want)).set_ 7 (.slice T1 tx.sent.length u1)).set_ 8 (.slice T2 tx.live.length u2)).set_ 9 (.slice T3 tx.back.length u3)).set_ 10 (.slice (some ⟨b, off, none⟩) tx.got.length u4)).set_ 11 (.pointer P)).set_ 12 (.slice c.kA c.knows.length c.kc))
  simp only [List.setIfInBounds_toArray, List.set_cons_zero, List.set_cons_succ] at hbF
  have s10 := hbF.cell 0
  have s11 := hbF.cell 1
  have s12 := hbF.cell 2
  have s13 := hbF.cell 3
  have s14 := hbF.cell 4
  have s15 := hbF.cell 5
  have s16 := hbF.cell 6
  have s17 := hbF.cell 7
  have s18 := hbF.cell 8
  have s19 := hbF.cell 9
  have s20 := hbF.cell 10
  have s21 := hbF.cell 11
  have s22 := hbF.cell 12
  simp at s10 s11 s12 s13 s14 s15 s16 s17 s18 s19 s20 s21 s22
  clear hbF
  have kS : Keeps (fun b => b = w.heap.size + 1 + 1) V5 (((((((((((((V5.setCell ⟨w.heap.size + 1 + 1, 0, none⟩ (.slice c.bk.A1 c.bk.b.own.length c.bk.c1)).setCell ⟨w.heap.size + 1 + 1, 1, none⟩ (.slice c.bk.A2 c.bk.b.notes.length c.bk.c2)).setCell ⟨w.heap.size + 1 + 1, 2, none⟩ (.int .i64 c.bk.b.locked)).setCell ⟨w.heap.size + 1 + 1, 3, none⟩ (.int .i64 c.id)).setCell ⟨w.heap.size + 1 + 1, 4, none⟩ (.int .i64 tx.way)).setCell ⟨w.heap.size + 1 + 1, 5, none⟩ (.int .i64 tx.ver)).setCell ⟨w.heap.size + 1 + 1, 6, none⟩ (.int .i64 tx.want)).setCell ⟨w.heap.size + 1 + 1, 7, none⟩ (.slice T1 tx.sent.length u1)).setCell ⟨w.heap.size + 1 + 1, 8, none⟩ (.slice T2 tx.live.length u2)).setCell ⟨w.heap.size + 1 + 1, 9, none⟩ (.slice T3 tx.back.length u3)).setCell ⟨w.heap.size + 1 + 1, 10, none⟩ (.slice (some ⟨b, off, none⟩) tx.got.length u4)).setCell ⟨w.heap.size + 1 + 1, 11, none⟩ (.pointer P)).setCell ⟨w.heap.size + 1 + 1, 12, none⟩ (.slice c.kA c.knows.length c.kc)) := ((((((((((((((Keeps.refl (fun b => b = w.heap.size + 1 + 1) V5).setCell (p := ⟨w.heap.size + 1 + 1, 0, none⟩) (.inr rfl) (.slice c.bk.A1 c.bk.b.own.length c.bk.c1)).setCell (p := ⟨w.heap.size + 1 + 1, 1, none⟩) (.inr rfl) (.slice c.bk.A2 c.bk.b.notes.length c.bk.c2)).setCell (p := ⟨w.heap.size + 1 + 1, 2, none⟩) (.inr rfl) (.int .i64 c.bk.b.locked)).setCell (p := ⟨w.heap.size + 1 + 1, 3, none⟩) (.inr rfl) (.int .i64 c.id)).setCell (p := ⟨w.heap.size + 1 + 1, 4, none⟩) (.inr rfl) (.int .i64 tx.way)).setCell (p := ⟨w.heap.size + 1 + 1, 5, none⟩) (.inr rfl) (.int .i64 tx.ver)).setCell (p := ⟨w.heap.size + 1 + 1, 6, none⟩) (.inr rfl) (.int .i64 tx.want)).setCell (p := ⟨w.heap.size + 1 + 1, 7, none⟩) (.inr rfl) (.slice T1 tx.sent.length u1)).setCell (p := ⟨w.heap.size + 1 + 1, 8, none⟩) (.inr rfl) (.slice T2 tx.live.length u2)).setCell (p := ⟨w.heap.size + 1 + 1, 9, none⟩) (.inr rfl) (.slice T3 tx.back.length u3)).setCell (p := ⟨w.heap.size + 1 + 1, 10, none⟩) (.inr rfl) (.slice (some ⟨b, off, none⟩) tx.got.length u4)).setCell (p := ⟨w.heap.size + 1 + 1, 11, none⟩) (.inr rfl) (.pointer P)).setCell (p := ⟨w.heap.size + 1 + 1, 12, none⟩) (.inr rfl) (.slice c.kA c.knows.length c.kc))
  generalize (((((((((((((V5.setCell ⟨w.heap.size + 1 + 1, 0, none⟩ (.slice c.bk.A1 c.bk.b.own.length c.bk.c1)).setCell ⟨w.heap.size + 1 + 1, 1, none⟩ (.slice c.bk.A2 c.bk.b.notes.length c.bk.c2)).setCell ⟨w.heap.size + 1 + 1, 2, none⟩ (.int .i64 c.bk.b.locked)).setCell ⟨w.heap.size + 1 + 1, 3, none⟩ (.int .i64 c.id)).setCell ⟨w.heap.size + 1 + 1, 4, none⟩ (.int .i64 tx.way)).setCell ⟨w.heap.size + 1 + 1, 5, none⟩ (.int .i64 tx.ver)).setCell ⟨w.heap.size + 1 + 1, 6, none⟩ (.int .i64 tx.want)).setCell ⟨w.heap.size + 1 + 1, 7, none⟩ (.slice T1 tx.sent.length u1)).setCell ⟨w.heap.size + 1 + 1, 8, none⟩ (.slice T2 tx.live.length u2)).setCell ⟨w.heap.size + 1 + 1, 9, none⟩ (.slice T3 tx.back.length u3)).setCell ⟨w.heap.size + 1 + 1, 10, none⟩ (.slice (some ⟨b, off, none⟩) tx.got.length u4)).setCell ⟨w.heap.size + 1 + 1, 11, none⟩ (.pointer P)).setCell ⟨w.heap.size + 1 + 1, 12, none⟩ (.slice c.kA c.knows.length c.kc)) = WF at kS s10 s11 s12 s13 s14 s15 s16 s17 s18 s19 s20 s21 s22 ⊢
  refine bodyPost_ret (v := lkV { c with st := (⟨{ tx with got := tx.got.set k 2 }, T1, T2, T3, some ⟨b, off, none⟩, u1, u2, u3, u4⟩ : StM) } P) (by simp [results, Tryz.results44, go_sem, lkV, s10, s11, s12, s13, s14, s15, s16, s17, s18, s19, s20, s21, s22]) rfl ?_
  exact ⟨c.bk, (⟨{ tx with got := tx.got.set k 2 }, T1, T2, T3, some ⟨b, off, none⟩, u1, u2, u3, u4⟩ : StM), rfl, rfl, by dsimp only; rw [HX.out], (HO.out.keeps (HK.out.then kS fun i hi h => by omega) fun _ _ h => h), (HN.out.keeps (HK.out.then kS fun i hi h => by omega) fun _ _ h => h), (StM.Own.keeps (s := (⟨{ tx with got := tx.got.set k 2 }, T1, T2, T3, some ⟨b, off, none⟩, u1, u2, u3, u4⟩ : StM)) OW.out kS (fun b' hb' h => by have q := StOwn.ge OW.out hb'; (try simp at q) <;> omega)).at_ (by refine ⟨?_, ?_, ?_, ?_⟩ <;> (dsimp only; rw [HX.out]; (try rw [List.length_set]); have := HL9.out; unfold maxLen; omega)), fun b hb => .inr hb, fun b hb => by have q := StOwn.ge OW.out hb; (try simp at q) <;> omega, HK.out.then kS fun i hi h => by omega⟩
set_option maxRecDepth 100000 in
set_option maxHeartbeats 8000000 in
theorem receive_yes (c : ChM) (P : Option Addr) (k : Nat) (kd pf pt pm pu pv : Int) (w : World) (h : c.st.At w) (ho : Ints w c.bk.A1 c.bk.b.own.length c.bk.b.own) (hnt : Ints w c.bk.A2 c.bk.b.notes.length c.bk.b.notes) (hl1 : c.bk.b.own.length ≤ 1000) (hl2 : c.bk.b.notes.length ≤ 1000) (h3 : c.st.x.sent.length ≤ 1000 ∧ c.st.x.live.length ≤ 1000 ∧ c.st.x.back.length ≤ 1000 ∧ c.st.x.got.length ≤ 1000) (hk : k < c.st.x.got.length) (hf : M64 pt) (hb : backOk c.bk.b (pkd kd) pt pm = true) :
    Calls Tryz.prog 44 #[lkV c P, .agg #[.int .i64 ((k : Int) + 1), .int .i64 kd, .int .i64 pf, .int .i64 pt, .int .i64 pm, .int .i64 pu, .int .i64 pv]] w (RetRef w c P (refB c.bk.b (pkd kd) pt pm) { c.st.x with got := c.st.x.got.set k 1 }) := by
  have HKL := Lib.hid hk
  have FC := Lib.hid (fun W (hk : Keeps noBlk w W) => implCopy_any c.st.x c.st.A1 c.st.A2 c.st.A3 c.st.A4 c.st.c1 c.st.c2 c.st.c3 c.st.c4 W (h.kept hk) (by omega) (by omega) (by omega) (by omega))
  unfold stV at FC
  have F := Lib.hid (fun W (hk : Keeps noBlk w W) => implBack_any c.bk.A1 c.bk.A2 c.bk.b.own.length c.bk.b.notes.length c.bk.c1 c.bk.c2 c.bk.b.locked c.bk.b.own c.bk.b.notes W (ho.keeps hk fun _ _ h => h) (hnt.keeps hk fun _ _ h => h) (by unfold maxLen; omega) (by unfold maxLen; omega) (pkd kd) pt pm hf)
  have e1 : (⟨c.bk.b.own, c.bk.b.notes, c.bk.b.locked⟩ : BankL) = c.bk.b := rfl
  rw [e1] at F
  clear e1
  rw [hb] at F
  rw [show refB c.bk.b (pkd kd) pt pm = (backed c.bk.b (pkd kd) pt pm) by unfold refB; rw [hb]; rfl]
  have FP := Lib.hid (fun W => paidKind_any kd W)
  generalize pkd kd = k9 at F FP hb ⊢
  have hw1 : IntKind.i64.wrap ((k : Int) + 1 - 1) = k := by rw [show (k : Int) + 1 - 1 = k by omega]; exact IntWalk.i64_in _ (by omega)
  have hw0 : IntKind.i64.wrap (k : Int) = k := IntWalk.i64_in _ (by omega)
  have hi0 : (0 : Int) ≤ k := by omega
  have HL9 := Lib.hid h3
  clear h hk h3 hb hf ho hnt hl1 hl2
  have HBl := Lib.hid (((Box.new w (w.heap.size) (by simp) 78 #[.slice c.bk.A1 c.bk.b.own.length c.bk.c1, .slice c.bk.A2 c.bk.b.notes.length c.bk.c2, .int .i64 c.bk.b.locked, .int .i64 c.id, .int .i64 c.st.x.way, .int .i64 c.st.x.ver, .int .i64 c.st.x.want, .slice c.st.A1 c.st.x.sent.length c.st.c1, .slice c.st.A2 c.st.x.live.length c.st.c2, .slice c.st.A3 c.st.x.back.length c.st.c3, .slice c.st.A4 c.st.x.got.length c.st.c4, .pointer P, .slice c.kA c.knows.length c.kc]).alloc (.cells #[.int .i64 ((k : Int) + 1), .int .i64 kd, .int .i64 pf, .int .i64 pt, .int .i64 pm, .int .i64 pu, .int .i64 pv] 47)).alloc (.cells #[.slice none 0 0, .slice none 0 0, .int .i64 0, .int .i64 0, .int .i64 0, .int .i64 0, .int .i64 0, .slice none 0 0, .slice none 0 0, .slice none 0 0, .slice none 0 0, .pointer none, .slice none 0 0] 78))
  have HBp := Lib.hid ((Box.new (w.alloc (.cells #[.slice c.bk.A1 c.bk.b.own.length c.bk.c1, .slice c.bk.A2 c.bk.b.notes.length c.bk.c2, .int .i64 c.bk.b.locked, .int .i64 c.id, .int .i64 c.st.x.way, .int .i64 c.st.x.ver, .int .i64 c.st.x.want, .slice c.st.A1 c.st.x.sent.length c.st.c1, .slice c.st.A2 c.st.x.live.length c.st.c2, .slice c.st.A3 c.st.x.back.length c.st.c3, .slice c.st.A4 c.st.x.got.length c.st.c4, .pointer P, .slice c.kA c.knows.length c.kc] 78)) (w.heap.size + 1) (by simp) 47 #[.int .i64 ((k : Int) + 1), .int .i64 kd, .int .i64 pf, .int .i64 pt, .int .i64 pm, .int .i64 pu, .int .i64 pv]).alloc (.cells #[.slice none 0 0, .slice none 0 0, .int .i64 0, .int .i64 0, .int .i64 0, .int .i64 0, .int .i64 0, .slice none 0 0, .slice none 0 0, .slice none 0 0, .slice none 0 0, .pointer none, .slice none 0 0] 78))
  have HBr := Lib.hid (Box.new ((w.alloc (.cells #[.slice c.bk.A1 c.bk.b.own.length c.bk.c1, .slice c.bk.A2 c.bk.b.notes.length c.bk.c2, .int .i64 c.bk.b.locked, .int .i64 c.id, .int .i64 c.st.x.way, .int .i64 c.st.x.ver, .int .i64 c.st.x.want, .slice c.st.A1 c.st.x.sent.length c.st.c1, .slice c.st.A2 c.st.x.live.length c.st.c2, .slice c.st.A3 c.st.x.back.length c.st.c3, .slice c.st.A4 c.st.x.got.length c.st.c4, .pointer P, .slice c.kA c.knows.length c.kc] 78)).alloc (.cells #[.int .i64 ((k : Int) + 1), .int .i64 kd, .int .i64 pf, .int .i64 pt, .int .i64 pm, .int .i64 pu, .int .i64 pv] 47)) (w.heap.size + 1 + 1) (by simp) 78 #[.slice none 0 0, .slice none 0 0, .int .i64 0, .int .i64 0, .int .i64 0, .int .i64 0, .int .i64 0, .slice none 0 0, .slice none 0 0, .slice none 0 0, .slice none 0 0, .pointer none, .slice none 0 0])
  have HK := Lib.hid ((((Keeps.refl noBlk w).alloc (.cells #[.slice c.bk.A1 c.bk.b.own.length c.bk.c1, .slice c.bk.A2 c.bk.b.notes.length c.bk.c2, .int .i64 c.bk.b.locked, .int .i64 c.id, .int .i64 c.st.x.way, .int .i64 c.st.x.ver, .int .i64 c.st.x.want, .slice c.st.A1 c.st.x.sent.length c.st.c1, .slice c.st.A2 c.st.x.live.length c.st.c2, .slice c.st.A3 c.st.x.back.length c.st.c3, .slice c.st.A4 c.st.x.got.length c.st.c4, .pointer P, .slice c.kA c.knows.length c.kc] 78)).alloc (.cells #[.int .i64 ((k : Int) + 1), .int .i64 kd, .int .i64 pf, .int .i64 pt, .int .i64 pm, .int .i64 pu, .int .i64 pv] 47)).alloc (.cells #[.slice none 0 0, .slice none 0 0, .int .i64 0, .int .i64 0, .int .i64 0, .int .i64 0, .int .i64 0, .slice none 0 0, .slice none 0 0, .slice none 0 0, .slice none 0 0, .pointer none, .slice none 0 0] 78))
  unfold lkV
  go_enter Tryz.func44, Tryz.ntmps44
  have hb := HBl.out
  have l0 := hb.cell 0
  have l1 := hb.cell 1
  have l2 := hb.cell 2
  have l3 := hb.cell 3
  have l4 := hb.cell 4
  have l5 := hb.cell 5
  have l6 := hb.cell 6
  have l7 := hb.cell 7
  have l8 := hb.cell 8
  have l9 := hb.cell 9
  have l10 := hb.cell 10
  have l11 := hb.cell 11
  have l12 := hb.cell 12
  simp at l0 l1 l2 l3 l4 l5 l6 l7 l8 l9 l10 l11 l12
  have zl := hb.lt
  clear hb
  go_wp2_with fail
  refine (FC.out _ HK.out).mono ?_
  rintro e w1 ⟨⟨tx, T1, T2, T3, T4, u1, u2, u3, u4⟩, rfl, hx9, hk1, _, ho9⟩
  dsimp only [StM.val]
  dsimp only at hx9 ho9
  have HX := Lib.hid hx9
  have OW := Lib.hid ho9
  have OG := Lib.hid (fun b (hb : stBlk tx T1 T2 T3 T4 b) => ho9.ge hb)
  (try simp at OG)
  clear hx9 ho9
  clear l0 l1 l2 l3 l4 l5 l6 l7 l8 l9 l10 l11 l12 zl
  have hl := HBl.out.keeps hk1 (fun h => h)
  clear HBl
  have HBl := Lib.hid hl
  clear hl
  have hp := HBp.out.keeps hk1 (fun h => h)
  clear HBp
  have HBp := Lib.hid hp
  clear hp
  have hr := HBr.out.keeps hk1 (fun h => h)
  clear HBr
  have HBr := Lib.hid hr
  clear hr
  have hr := HK.out.trans hk1
  clear HK
  have HK := Lib.hid hr
  clear hr
  have sz1 := hk1.size
  (try simp at sz1)
  clear hk1
  have hb := HBl.out
  have l0 := hb.cell 0
  have l1 := hb.cell 1
  have l2 := hb.cell 2
  have l3 := hb.cell 3
  have l4 := hb.cell 4
  have l5 := hb.cell 5
  have l6 := hb.cell 6
  have l7 := hb.cell 7
  have l8 := hb.cell 8
  have l9 := hb.cell 9
  have l10 := hb.cell 10
  have l11 := hb.cell 11
  have l12 := hb.cell 12
  simp at l0 l1 l2 l3 l4 l5 l6 l7 l8 l9 l10 l11 l12
  have zl := hb.lt
  clear hb
  have hb := HBl.out
  have lf0 := hb.frozen 0
  have lf1 := hb.frozen 1
  have lf2 := hb.frozen 2
  have lf3 := hb.frozen 3
  have lf4 := hb.frozen 4
  have lf5 := hb.frozen 5
  have lf6 := hb.frozen 6
  have lf7 := hb.frozen 7
  have lf8 := hb.frozen 8
  have lf9 := hb.frozen 9
  have lf10 := hb.frozen 10
  have lf11 := hb.frozen 11
  have lf12 := hb.frozen 12
  clear hb
  have kt : Keeps (fun b => b = w.heap.size) w1 (((((((w1.setCell ⟨w.heap.size, 4, none⟩ (.int .i64 tx.way)).setCell ⟨w.heap.size, 5, none⟩ (.int .i64 tx.ver)).setCell ⟨w.heap.size, 6, none⟩ (.int .i64 tx.want)).setCell ⟨w.heap.size, 7, none⟩ (.slice T1 tx.sent.length u1)).setCell ⟨w.heap.size, 8, none⟩ (.slice T2 tx.live.length u2)).setCell ⟨w.heap.size, 9, none⟩ (.slice T3 tx.back.length u3)).setCell ⟨w.heap.size, 10, none⟩ (.slice T4 tx.got.length u4)) := ((((((((Keeps.refl (fun b => b = w.heap.size) w1).setCell (p := ⟨w.heap.size, 4, none⟩) (.inr rfl) (.int .i64 tx.way)).setCell (p := ⟨w.heap.size, 5, none⟩) (.inr rfl) (.int .i64 tx.ver)).setCell (p := ⟨w.heap.size, 6, none⟩) (.inr rfl) (.int .i64 tx.want)).setCell (p := ⟨w.heap.size, 7, none⟩) (.inr rfl) (.slice T1 tx.sent.length u1)).setCell (p := ⟨w.heap.size, 8, none⟩) (.inr rfl) (.slice T2 tx.live.length u2)).setCell (p := ⟨w.heap.size, 9, none⟩) (.inr rfl) (.slice T3 tx.back.length u3)).setCell (p := ⟨w.heap.size, 10, none⟩) (.inr rfl) (.slice T4 tx.got.length u4))
  have hb := (((((((HBl.out.set_ 4 (.int .i64 tx.way)).set_ 5 (.int .i64 tx.ver)).set_ 6 (.int .i64 tx.want)).set_ 7 (.slice T1 tx.sent.length u1)).set_ 8 (.slice T2 tx.live.length u2)).set_ 9 (.slice T3 tx.back.length u3)).set_ 10 (.slice T4 tx.got.length u4))
  simp only [List.setIfInBounds_toArray, List.set_cons_zero, List.set_cons_succ] at hb
  clear HBl
  have HBl := Lib.hid hb
  clear hb
  have hb := HBp.out.keeps kt fun h => by omega
  clear HBp
  have HBp := Lib.hid hb
  clear hb
  have hb := HBr.out.keeps kt fun h => by omega
  clear HBr
  have HBr := Lib.hid hb
  clear hb
  have hr := OW.out.keeps kt (fun b hb h => by have q := OG.out b hb; (try simp at q) <;> omega)
  clear OW
  have OW := Lib.hid hr
  clear hr
  have hr := HK.out.then kt fun i hi h => by omega
  clear HK
  have HK := Lib.hid hr
  clear hr
  have szk := kt.size
  (try simp at szk)
  clear kt
  go_upto_region 2 with fail
  clear l0 l1 l2 l3 l4 l5 l6 l7 l8 l9 l10 l11 l12 zl
  generalize (((((((w1.setCell ⟨w.heap.size, 4, none⟩ (.int .i64 tx.way)).setCell ⟨w.heap.size, 5, none⟩ (.int .i64 tx.ver)).setCell ⟨w.heap.size, 6, none⟩ (.int .i64 tx.want)).setCell ⟨w.heap.size, 7, none⟩ (.slice T1 tx.sent.length u1)).setCell ⟨w.heap.size, 8, none⟩ (.slice T2 tx.live.length u2)).setCell ⟨w.heap.size, 9, none⟩ (.slice T3 tx.back.length u3)).setCell ⟨w.heap.size, 10, none⟩ (.slice T4 tx.got.length u4)) = V2 at *
  clear lf0 lf1 lf2 lf3 lf4 lf5 lf6 lf7 lf8 lf9 lf10 lf11 lf12
  have OL := Lib.hid (fun b (hb : stBlk tx T1 T2 T3 T4 b) => StOwn.lt OW.out hb)
  have zv2 := HBr.out.lt
  have hb := HBl.out
  have l0 := hb.cell 0
  have l1 := hb.cell 1
  have l2 := hb.cell 2
  have l3 := hb.cell 3
  have l4 := hb.cell 4
  have l5 := hb.cell 5
  have l6 := hb.cell 6
  have l7 := hb.cell 7
  have l8 := hb.cell 8
  have l9 := hb.cell 9
  have l10 := hb.cell 10
  have l11 := hb.cell 11
  have l12 := hb.cell 12
  simp at l0 l1 l2 l3 l4 l5 l6 l7 l8 l9 l10 l11 l12
  have zl := hb.lt
  clear hb
  have hb := HBp.out
  have p0 := hb.cell 0
  have p1 := hb.cell 1
  have p2 := hb.cell 2
  have p3 := hb.cell 3
  have p4 := hb.cell 4
  have p5 := hb.cell 5
  have p6 := hb.cell 6
  simp at p0 p1 p2 p3 p4 p5 p6
  have zp := hb.lt
  clear hb
  go_cut [5, 6] from 11 to 23 (fun sp so wx => ∃ (gn : Nat) (x1 x2 : Option Addr) (y1 y2 : Nat), sp = .pointer (some ⟨gn, 0, none⟩) ∧ so = .bool true ∧ Box wx gn 36 #[.slice x1 (backed c.bk.b k9 pt pm).own.length y1, .slice x2 (backed c.bk.b k9 pt pm).notes.length y2, .int .i64 (backed c.bk.b k9 pt pm).locked] ∧ Ints wx x1 (backed c.bk.b k9 pt pm).own.length (backed c.bk.b k9 pt pm).own ∧ Ints wx x2 (backed c.bk.b k9 pt pm).notes.length (backed c.bk.b k9 pt pm).notes ∧ (∀ i, (blk x1 (backed c.bk.b k9 pt pm).own.length i ∨ blk x2 (backed c.bk.b k9 pt pm).notes.length i) → V2.heap.size ≤ i) ∧ V2.heap.size ≤ gn ∧ Keeps noBlk V2 wx)
  case first =>
    have TKv : True := trivial
    go_region_held3 (fun w' => w'.cell? ⟨w.heap.size, 0, none⟩ = some (.slice c.bk.A1 c.bk.b.own.length c.bk.c1) ∧ w'.cell? ⟨w.heap.size, 1, none⟩ = some (.slice c.bk.A2 c.bk.b.notes.length c.bk.c2) ∧ w'.cell? ⟨w.heap.size, 2, none⟩ = some (.int .i64 c.bk.b.locked) ∧ w'.cell? ⟨w.heap.size, 3, none⟩ = some (.int .i64 c.id) ∧ w'.cell? ⟨w.heap.size, 4, none⟩ = some (.int .i64 tx.way) ∧ w'.cell? ⟨w.heap.size, 5, none⟩ = some (.int .i64 tx.ver) ∧ w'.cell? ⟨w.heap.size, 6, none⟩ = some (.int .i64 tx.want) ∧ w'.cell? ⟨w.heap.size, 7, none⟩ = some (.slice T1 tx.sent.length u1) ∧ w'.cell? ⟨w.heap.size, 8, none⟩ = some (.slice T2 tx.live.length u2) ∧ w'.cell? ⟨w.heap.size, 9, none⟩ = some (.slice T3 tx.back.length u3) ∧ w'.cell? ⟨w.heap.size, 10, none⟩ = some (.slice T4 tx.got.length u4) ∧ w'.cell? ⟨w.heap.size, 11, none⟩ = some (.pointer P) ∧ w'.cell? ⟨w.heap.size, 12, none⟩ = some (.slice c.kA c.knows.length c.kc) ∧ w'.cell? ⟨w.heap.size + 1, 0, none⟩ = some (.int .i64 ((k : Int) + 1)) ∧ w'.cell? ⟨w.heap.size + 1, 1, none⟩ = some (.int .i64 kd) ∧ w'.cell? ⟨w.heap.size + 1, 2, none⟩ = some (.int .i64 pf) ∧ w'.cell? ⟨w.heap.size + 1, 3, none⟩ = some (.int .i64 pt) ∧ w'.cell? ⟨w.heap.size + 1, 4, none⟩ = some (.int .i64 pm) ∧ w'.cell? ⟨w.heap.size + 1, 5, none⟩ = some (.int .i64 pu) ∧ w'.cell? ⟨w.heap.size + 1, 6, none⟩ = some (.int .i64 pv))
      (((try dsimp only); (repeat' apply And.intro) <;> (first | with_reducible assumption | (go_keep; done))))
      (first | (have _t := HBv9; clear _t; go_at_call 84; refine (F.out _ HK.out).mono ?_; rintro e u2 hF9; obtain ⟨x1, y1, x2, y2, rfl, hi9, hj9, hg9, hk2⟩ := retB2_yes' hF9; have hq := hk2; have HVG := Lib.hid (fun b h => (show u1.heap.size ≤ b by have := hg9 b h; (first | omega | (simp at this; omega)))); have HI1 := Lib.hid hi9; have HI2 := Lib.hid hj9; clear hg9 hi9 hj9; clear hk2; clear hF9; have hv := HBv9.out.keeps hq (fun h => h); clear HBv9; have HBv9 := Lib.hid hv; clear hv; have hl := HBl.out.keeps hq (fun h => h); clear HBl; have HBl := Lib.hid hl; clear l0 l1 l2 l3 l4 l5 l6 l7 l8 l9 l10 l11 l12 zl; have l0 := hl.cell 0; have l1 := hl.cell 1; have l2 := hl.cell 2; have l3 := hl.cell 3; have l4 := hl.cell 4; have l5 := hl.cell 5; have l6 := hl.cell 6; have l7 := hl.cell 7; have l8 := hl.cell 8; have l9 := hl.cell 9; have l10 := hl.cell 10; have l11 := hl.cell 11; have l12 := hl.cell 12; simp at l0 l1 l2 l3 l4 l5 l6 l7 l8 l9 l10 l11 l12; have zl := hl.lt; clear hl; have hp := HBp.out.keeps hq (fun h => h); clear HBp; have HBp := Lib.hid hp; clear p0 p1 p2 p3 p4 p5 p6 zp; have p0 := hp.cell 0; have p1 := hp.cell 1; have p2 := hp.cell 2; have p3 := hp.cell 3; have p4 := hp.cell 4; have p5 := hp.cell 5; have p6 := hp.cell 6; simp at p0 p1 p2 p3 p4 p5 p6; have zp := hp.lt; clear hp; have hb := HBv9.out; have v90 := hb.cell 0; have v91 := hb.cell 1; have v92 := hb.cell 2; have f90 := hb.frozen 0; have f91 := hb.frozen 1; have f92 := hb.frozen 2; simp at v90 v91 v92; have z9 := hb.lt; clear hb; have hq9 := HQ9.out.trans hq; clear HQ9; have HQ9 := Lib.hid hq9; clear hq9; have hh9 := HK.out.trans hq; clear HK; have HK := Lib.hid hh9; clear hh9; have sz2 := hq.size; (try simp at sz2); clear hq) | (have _t := TKv; clear _t; go_at_call 84; refine (F.out _ HK.out).mono ?_; rintro e u2 hF9; obtain ⟨x1, y1, x2, y2, rfl, hi9, hj9, hg9, hk2⟩ := retB2_yes' hF9; have hq := hk2; have HVG := Lib.hid (fun b h => (show u1.heap.size ≤ b by have := hg9 b h; (first | omega | (simp at this; omega)))); have HI1 := Lib.hid hi9; have HI2 := Lib.hid hj9; clear hg9 hi9 hj9; clear hk2; clear hF9; have hl := HBl.out.keeps hq (fun h => h); clear HBl; have HBl := Lib.hid hl; clear l0 l1 l2 l3 l4 l5 l6 l7 l8 l9 l10 l11 l12 zl; have l0 := hl.cell 0; have l1 := hl.cell 1; have l2 := hl.cell 2; have l3 := hl.cell 3; have l4 := hl.cell 4; have l5 := hl.cell 5; have l6 := hl.cell 6; have l7 := hl.cell 7; have l8 := hl.cell 8; have l9 := hl.cell 9; have l10 := hl.cell 10; have l11 := hl.cell 11; have l12 := hl.cell 12; simp at l0 l1 l2 l3 l4 l5 l6 l7 l8 l9 l10 l11 l12; have zl := hl.lt; clear hl; have hp := HBp.out.keeps hq (fun h => h); clear HBp; have HBp := Lib.hid hp; clear p0 p1 p2 p3 p4 p5 p6 zp; have p0 := hp.cell 0; have p1 := hp.cell 1; have p2 := hp.cell 2; have p3 := hp.cell 3; have p4 := hp.cell 4; have p5 := hp.cell 5; have p6 := hp.cell 6; simp at p0 p1 p2 p3 p4 p5 p6; have zp := hp.lt; clear hp; have hq9 := HQ9.out.trans hq; clear HQ9; have HQ9 := Lib.hid hq9; clear hq9; have hh9 := HK.out.trans hq; clear HK; have HK := Lib.hid hh9; clear hh9; have sz2 := hq.size; (try simp at sz2); clear hq) | (clear TKv; have TKh0 : True := trivial; go_at_call 85; refine (FP.out ((V2.alloc (.cells #[.slice none 0 0, .slice none 0 0, .int .i64 0] 36)).drewN 1)).mono ?_; rintro e u1 ⟨rfl, hk1⟩; have hraw := ((Keeps.refl noBlk (V2.alloc (.cells #[.slice none 0 0, .slice none 0 0, .int .i64 0] 36))).drewN 1).trans hk1; have HBv9 := Lib.hid ((Box.new V2 _ rfl 36 #[.slice none 0 0, .slice none 0 0, .int .i64 0]).keeps hraw (fun h => h)); have hq := ((Keeps.refl noBlk V2).alloc (.cells #[.slice none 0 0, .slice none 0 0, .int .i64 0] 36)).trans hraw; clear hraw; clear hk1; have hl := HBl.out.keeps hq (fun h => h); clear HBl; have HBl := Lib.hid hl; clear l0 l1 l2 l3 l4 l5 l6 l7 l8 l9 l10 l11 l12 zl; have l0 := hl.cell 0; have l1 := hl.cell 1; have l2 := hl.cell 2; have l3 := hl.cell 3; have l4 := hl.cell 4; have l5 := hl.cell 5; have l6 := hl.cell 6; have l7 := hl.cell 7; have l8 := hl.cell 8; have l9 := hl.cell 9; have l10 := hl.cell 10; have l11 := hl.cell 11; have l12 := hl.cell 12; simp at l0 l1 l2 l3 l4 l5 l6 l7 l8 l9 l10 l11 l12; have zl := hl.lt; clear hl; have hp := HBp.out.keeps hq (fun h => h); clear HBp; have HBp := Lib.hid hp; clear p0 p1 p2 p3 p4 p5 p6 zp; have p0 := hp.cell 0; have p1 := hp.cell 1; have p2 := hp.cell 2; have p3 := hp.cell 3; have p4 := hp.cell 4; have p5 := hp.cell 5; have p6 := hp.cell 6; simp at p0 p1 p2 p3 p4 p5 p6; have zp := hp.lt; clear hp; have hb := HBv9.out; have v90 := hb.cell 0; have v91 := hb.cell 1; have v92 := hb.cell 2; have f90 := hb.frozen 0; have f91 := hb.frozen 1; have f92 := hb.frozen 2; simp at v90 v91 v92; have z9 := hb.lt; clear hb; have HQ9 := Lib.hid hq; have hh9 := HK.out.trans hq; clear HK; have HK := Lib.hid hh9; clear hh9; have sz1 := hq.size; (try simp at sz1); clear hq; have : ¬ w.heap.size = V2.heap.size := (by omega); have : ¬ V2.heap.size = w.heap.size := (by omega); have : ¬ w.heap.size + 1 = V2.heap.size := (by omega); have : ¬ V2.heap.size = w.heap.size + 1 := (by omega)) | (go_at_call 85; refine (FP.out (V2.drewN 1)).mono ?_; rintro e u1 ⟨rfl, hk1⟩; have hq := ((Keeps.refl noBlk V2).drewN 1).trans hk1; clear hk1; have hl := HBl.out.keeps hq (fun h => h); clear HBl; have HBl := Lib.hid hl; clear l0 l1 l2 l3 l4 l5 l6 l7 l8 l9 l10 l11 l12 zl; have l0 := hl.cell 0; have l1 := hl.cell 1; have l2 := hl.cell 2; have l3 := hl.cell 3; have l4 := hl.cell 4; have l5 := hl.cell 5; have l6 := hl.cell 6; have l7 := hl.cell 7; have l8 := hl.cell 8; have l9 := hl.cell 9; have l10 := hl.cell 10; have l11 := hl.cell 11; have l12 := hl.cell 12; simp at l0 l1 l2 l3 l4 l5 l6 l7 l8 l9 l10 l11 l12; have zl := hl.lt; clear hl; have hp := HBp.out.keeps hq (fun h => h); clear HBp; have HBp := Lib.hid hp; clear p0 p1 p2 p3 p4 p5 p6 zp; have p0 := hp.cell 0; have p1 := hp.cell 1; have p2 := hp.cell 2; have p3 := hp.cell 3; have p4 := hp.cell 4; have p5 := hp.cell 5; have p6 := hp.cell 6; simp at p0 p1 p2 p3 p4 p5 p6; have zp := hp.lt; clear hp; have HQ9 := Lib.hid hq; have hh9 := HK.out.trans hq; clear HK; have HK := Lib.hid hh9; clear hh9; have sz1 := hq.size; (try simp at sz1); clear hq) | (clear TKv; have TKh1 : True := trivial; go_at_call 84; refine (F.out _ (HK.out.alloc (.cells #[.slice none 0 0, .slice none 0 0, .int .i64 0] 36))).mono ?_; rintro e u2 hF9; obtain ⟨x1, y1, x2, y2, rfl, hi9, hj9, hg9, hk2⟩ := retB2_yes' hF9; have hraw := hk2; have HBv9 := Lib.hid ((Box.new u1 _ rfl 36 #[.slice none 0 0, .slice none 0 0, .int .i64 0]).keeps hraw (fun h => h)); have hq := ((Keeps.refl noBlk u1).alloc (.cells #[.slice none 0 0, .slice none 0 0, .int .i64 0] 36)).trans hraw; clear hraw; have HVG := Lib.hid (fun b h => (show u1.heap.size + 1 ≤ b by have := hg9 b h; (first | omega | (simp at this; omega)))); have HI1 := Lib.hid hi9; have HI2 := Lib.hid hj9; clear hg9 hi9 hj9; clear hk2; clear hF9; have hl := HBl.out.keeps hq (fun h => h); clear HBl; have HBl := Lib.hid hl; clear l0 l1 l2 l3 l4 l5 l6 l7 l8 l9 l10 l11 l12 zl; have l0 := hl.cell 0; have l1 := hl.cell 1; have l2 := hl.cell 2; have l3 := hl.cell 3; have l4 := hl.cell 4; have l5 := hl.cell 5; have l6 := hl.cell 6; have l7 := hl.cell 7; have l8 := hl.cell 8; have l9 := hl.cell 9; have l10 := hl.cell 10; have l11 := hl.cell 11; have l12 := hl.cell 12; simp at l0 l1 l2 l3 l4 l5 l6 l7 l8 l9 l10 l11 l12; have zl := hl.lt; clear hl; have hp := HBp.out.keeps hq (fun h => h); clear HBp; have HBp := Lib.hid hp; clear p0 p1 p2 p3 p4 p5 p6 zp; have p0 := hp.cell 0; have p1 := hp.cell 1; have p2 := hp.cell 2; have p3 := hp.cell 3; have p4 := hp.cell 4; have p5 := hp.cell 5; have p6 := hp.cell 6; simp at p0 p1 p2 p3 p4 p5 p6; have zp := hp.lt; clear hp; have hb := HBv9.out; have v90 := hb.cell 0; have v91 := hb.cell 1; have v92 := hb.cell 2; have f90 := hb.frozen 0; have f91 := hb.frozen 1; have f92 := hb.frozen 2; simp at v90 v91 v92; have z9 := hb.lt; clear hb; have hq9 := HQ9.out.trans hq; clear HQ9; have HQ9 := Lib.hid hq9; clear hq9; have hh9 := HK.out.trans hq; clear HK; have HK := Lib.hid hh9; clear hh9; have sz2 := hq.size; (try simp at sz2); clear hq; have : ¬ w.heap.size = u1.heap.size := (by omega); have : ¬ u1.heap.size = w.heap.size := (by omega); have : ¬ w.heap.size + 1 = u1.heap.size := (by omega); have : ¬ u1.heap.size = w.heap.size + 1 := (by omega)))
    all_goals go_wp2_with fail
    all_goals go_meet
    all_goals first | (have _t := TKv; have KA := (Keeps.refl noBlk u2).alloc (.cells #[.slice x1 (backed c.bk.b k9 pt pm).own.length y1, .slice x2 (backed c.bk.b k9 pt pm).notes.length y2, .int .i64 (backed c.bk.b k9 pt pm).locked] 36); exact ⟨u2.heap.size, _, _, _, _, rfl, rfl, Box.new u2 _ rfl 36 #[.slice x1 (backed c.bk.b k9 pt pm).own.length y1, .slice x2 (backed c.bk.b k9 pt pm).notes.length y2, .int .i64 (backed c.bk.b k9 pt pm).locked], HI1.out.keeps KA (fun _ _ h => h), HI2.out.keeps KA (fun _ _ h => h), fun i hi => by have := HVG.out i hi; omega, by omega, HQ9.out.trans KA⟩) | (have _t := TKh0; have hb9 := (((HBv9.out.set_ 0 (.slice x1 (backed c.bk.b k9 pt pm).own.length y1)).set_ 1 (.slice x2 (backed c.bk.b k9 pt pm).notes.length y2)).set_ 2 (.int .i64 (backed c.bk.b k9 pt pm).locked)); simp at hb9; have KA := ((((Keeps.refl (one V2.heap.size) u2).set1 0 (.slice x1 (backed c.bk.b k9 pt pm).own.length y1)).set1 1 (.slice x2 (backed c.bk.b k9 pt pm).notes.length y2)).set1 2 (.int .i64 (backed c.bk.b k9 pt pm).locked)); exact ⟨V2.heap.size, _, _, _, _, rfl, rfl, hb9, HI1.out.keeps KA (fun b hb e => by have e' : b = V2.heap.size := e; have := HVG.out b (.inl hb); omega), HI2.out.keeps KA (fun b hb e => by have e' : b = V2.heap.size := e; have := HVG.out b (.inr hb); omega), fun i hi => by have := HVG.out i hi; omega, by omega, (((HQ9.out.new (g := V2.heap.size) (by omega) _ _).new (g := V2.heap.size) (by omega) _ _).new (g := V2.heap.size) (by omega) _ _)⟩) | (have _t := TKh1; have hb9 := (((HBv9.out.set_ 0 (.slice x1 (backed c.bk.b k9 pt pm).own.length y1)).set_ 1 (.slice x2 (backed c.bk.b k9 pt pm).notes.length y2)).set_ 2 (.int .i64 (backed c.bk.b k9 pt pm).locked)); simp at hb9; have KA := ((((Keeps.refl (one u1.heap.size) u2).set1 0 (.slice x1 (backed c.bk.b k9 pt pm).own.length y1)).set1 1 (.slice x2 (backed c.bk.b k9 pt pm).notes.length y2)).set1 2 (.int .i64 (backed c.bk.b k9 pt pm).locked)); exact ⟨u1.heap.size, _, _, _, _, rfl, rfl, hb9, HI1.out.keeps KA (fun b hb e => by have e' : b = u1.heap.size := e; have := HVG.out b (.inl hb); omega), HI2.out.keeps KA (fun b hb e => by have e' : b = u1.heap.size := e; have := HVG.out b (.inr hb); omega), fun i hi => by have := HVG.out i hi; omega, by omega, (((HQ9.out.new (g := u1.heap.size) (by omega) _ _).new (g := u1.heap.size) (by omega) _ _).new (g := u1.heap.size) (by omega) _ _)⟩)
  case rest =>
  obtain ⟨gb, x1, x2, y1, y2, rfl, rfl, hbb, hi9, hj9, hg9, hgb, hq9⟩ := hcut
  have hb := HBl.out.keeps hq9 (fun h => h)
  clear HBl
  have HBl := Lib.hid hb
  clear hb
  have hb := HBp.out.keeps hq9 (fun h => h)
  clear HBp
  have HBp := Lib.hid hb
  clear hb
  have hb := HBr.out.keeps hq9 (fun h => h)
  clear HBr
  have HBr := Lib.hid hb
  clear hb
  have hr := HK.out.trans hq9
  clear HK
  have HK := Lib.hid hr
  clear hr
  have hr := OW.out.kept hq9
  clear OW
  have OW := Lib.hid hr
  clear hr
  have sq9 := hq9.size
  clear hq9
  have HBb := Lib.hid hbb
  have I1 := Lib.hid hi9
  have I2 := Lib.hid hj9
  have HGE := Lib.hid hg9
  clear hbb hi9 hj9 hg9
  obtain ⟨b, off, rfl, hlo, hlt, hc9, hf9, ho9⟩ := StOwn.got_ OW.out (k := k) (by rw [HX.out]; exact HKL.out) 1
  have hi1 : (k : Int) < (tx.got.length : Int) := by have := HKL.out; rw [HX.out]; omega
  have HBW := Lib.hid (OL.out b (.inr (.inr (.inr ⟨by omega, _, rfl, rfl⟩))))
  have hge := OG.out b (.inr (.inr (.inr ⟨by omega, _, rfl, rfl⟩)))
  (try simp at hge)
  have : ¬ b = w.heap.size := by omega
  have : ¬ w.heap.size = b := by omega
  have : ¬ b = w.heap.size + 1 := by omega
  have : ¬ w.heap.size + 1 = b := by omega
  have : ¬ b = w.heap.size + 1 + 1 := by omega
  have : ¬ w.heap.size + 1 + 1 = b := by omega
  have zbr := HBr.out.lt
  have hgl : V2.heap.size ≤ gb := hgb
  have hb := HBl.out
  have l0 := hb.cell 0
  have l1 := hb.cell 1
  have l2 := hb.cell 2
  have l3 := hb.cell 3
  have l4 := hb.cell 4
  have l5 := hb.cell 5
  have l6 := hb.cell 6
  have l7 := hb.cell 7
  have l8 := hb.cell 8
  have l9 := hb.cell 9
  have l10 := hb.cell 10
  have l11 := hb.cell 11
  have l12 := hb.cell 12
  simp at l0 l1 l2 l3 l4 l5 l6 l7 l8 l9 l10 l11 l12
  have zl := hb.lt
  clear hb
  have hb := HBp.out
  have p0 := hb.cell 0
  have p1 := hb.cell 1
  have p2 := hb.cell 2
  have p3 := hb.cell 3
  have p4 := hb.cell 4
  have p5 := hb.cell 5
  have p6 := hb.cell 6
  simp at p0 p1 p2 p3 p4 p5 p6
  have zp := hb.lt
  clear hb
  have hb := HBb.out
  have b0 := hb.cell 0
  have b1 := hb.cell 1
  have b2 := hb.cell 2
  simp at b0 b1 b2
  have zb := hb.lt
  clear hb
  have hb := HBl.out
  have lf0 := hb.frozen 0
  have lf1 := hb.frozen 1
  have lf2 := hb.frozen 2
  have lf3 := hb.frozen 3
  have lf4 := hb.frozen 4
  have lf5 := hb.frozen 5
  have lf6 := hb.frozen 6
  have lf7 := hb.frozen 7
  have lf8 := hb.frozen 8
  have lf9 := hb.frozen 9
  have lf10 := hb.frozen 10
  have lf11 := hb.frozen 11
  have lf12 := hb.frozen 12
  clear hb
  have kt : Keeps (fun b => b = w.heap.size) wc (((wc.setCell ⟨w.heap.size, 0, none⟩ (.slice x1 (backed c.bk.b k9 pt pm).own.length y1)).setCell ⟨w.heap.size, 1, none⟩ (.slice x2 (backed c.bk.b k9 pt pm).notes.length y2)).setCell ⟨w.heap.size, 2, none⟩ (.int .i64 (backed c.bk.b k9 pt pm).locked)) := ((((Keeps.refl (fun b => b = w.heap.size) wc).setCell (p := ⟨w.heap.size, 0, none⟩) (.inr rfl) (.slice x1 (backed c.bk.b k9 pt pm).own.length y1)).setCell (p := ⟨w.heap.size, 1, none⟩) (.inr rfl) (.slice x2 (backed c.bk.b k9 pt pm).notes.length y2)).setCell (p := ⟨w.heap.size, 2, none⟩) (.inr rfl) (.int .i64 (backed c.bk.b k9 pt pm).locked))
  have hb := (((HBl.out.set_ 0 (.slice x1 (backed c.bk.b k9 pt pm).own.length y1)).set_ 1 (.slice x2 (backed c.bk.b k9 pt pm).notes.length y2)).set_ 2 (.int .i64 (backed c.bk.b k9 pt pm).locked))
  simp only [List.setIfInBounds_toArray, List.set_cons_zero, List.set_cons_succ] at hb
  have HBl1 := Lib.hid hb
  clear hb
  have HBr1 := Lib.hid (HBr.out.keeps kt fun h => by omega)
  have OW1 := Lib.hid (OW.out.keeps kt fun b' hb' h => by have q := OG.out b' hb'; (try simp at q) <;> omega)
  have I11 := Lib.hid (I1.out.keeps kt fun b' hb' h => by have q := HGE.out b' (.inl hb'); omega)
  have I21 := Lib.hid (I2.out.keeps kt fun b' hb' h => by have q := HGE.out b' (.inr hb'); omega)
  have HK1 := Lib.hid (HK.out.then kt fun i hi h => by omega)
  obtain ⟨b9, off9, e9, _, _, hc8, hf8, ho8⟩ := StOwn.got_ OW1.out (k := k) (by rw [HX.out]; exact HKL.out) 1
  injection e9 with e9
  injection e9 with e91 e92
  subst e91 e92
  have HBl2 := Lib.hid (HBl1.out.keeps ((Keeps.refl (fun x => x = b) (((wc.setCell ⟨w.heap.size, 0, none⟩ (.slice x1 (backed c.bk.b k9 pt pm).own.length y1)).setCell ⟨w.heap.size, 1, none⟩ (.slice x2 (backed c.bk.b k9 pt pm).notes.length y2)).setCell ⟨w.heap.size, 2, none⟩ (.int .i64 (backed c.bk.b k9 pt pm).locked))).setCell (p := ⟨b, off + k, none⟩) (.inr rfl) (.int .i64 1)) fun h => by omega)
  have HBr2 := Lib.hid (HBr1.out.keeps ((Keeps.refl (fun x => x = b) (((wc.setCell ⟨w.heap.size, 0, none⟩ (.slice x1 (backed c.bk.b k9 pt pm).own.length y1)).setCell ⟨w.heap.size, 1, none⟩ (.slice x2 (backed c.bk.b k9 pt pm).notes.length y2)).setCell ⟨w.heap.size, 2, none⟩ (.int .i64 (backed c.bk.b k9 pt pm).locked))).setCell (p := ⟨b, off + k, none⟩) (.inr rfl) (.int .i64 1)) fun h => by omega)
  have HK2 := Lib.hid (HK1.out.then ((Keeps.refl (fun x => x = b) (((wc.setCell ⟨w.heap.size, 0, none⟩ (.slice x1 (backed c.bk.b k9 pt pm).own.length y1)).setCell ⟨w.heap.size, 1, none⟩ (.slice x2 (backed c.bk.b k9 pt pm).notes.length y2)).setCell ⟨w.heap.size, 2, none⟩ (.int .i64 (backed c.bk.b k9 pt pm).locked))).setCell (p := ⟨b, off + k, none⟩) (.inr rfl) (.int .i64 1)) fun i hi h => by omega)
  have I12 := Lib.hid (I11.out.keeps ((Keeps.refl (fun x => x = b) (((wc.setCell ⟨w.heap.size, 0, none⟩ (.slice x1 (backed c.bk.b k9 pt pm).own.length y1)).setCell ⟨w.heap.size, 1, none⟩ (.slice x2 (backed c.bk.b k9 pt pm).notes.length y2)).setCell ⟨w.heap.size, 2, none⟩ (.int .i64 (backed c.bk.b k9 pt pm).locked))).setCell (p := ⟨b, off + k, none⟩) (.inr rfl) (.int .i64 1)) fun b' hb' h => by have q := HGE.out b' (.inl hb'); have q2 := HBW.out; omega)
  have I22 := Lib.hid (I21.out.keeps ((Keeps.refl (fun x => x = b) (((wc.setCell ⟨w.heap.size, 0, none⟩ (.slice x1 (backed c.bk.b k9 pt pm).own.length y1)).setCell ⟨w.heap.size, 1, none⟩ (.slice x2 (backed c.bk.b k9 pt pm).notes.length y2)).setCell ⟨w.heap.size, 2, none⟩ (.int .i64 (backed c.bk.b k9 pt pm).locked))).setCell (p := ⟨b, off + k, none⟩) (.inr rfl) (.int .i64 1)) fun b' hb' h => by have q := HGE.out b' (.inr hb'); have q2 := HBW.out; omega)
  have : ¬ gb = w.heap.size := by omega
  have : ¬ w.heap.size = gb := by omega
  go_upto_region 6 with fail
  go_region
  all_goals go_upto_region 7 with fail
  all_goals
    clear l0 l1 l2 l3 l4 l5 l6 l7 l8 l9 l10 l11 l12 p0 p1 p2 p3 p4 p5 p6 b0 b1 b2 zl zp zb
    clear lf0 lf1 lf2 lf3 lf4 lf5 lf6 lf7 lf8 lf9 lf10 lf11 lf12
    clear hc9 hf9 hc8 hf8 hlt OW OW1 HBl HBl1 HBr HBr1 HK HK1 HBp HBb I1 I2 I11 I21 kt ho9
    generalize ((((wc.setCell ⟨w.heap.size, 0, none⟩ (.slice x1 (backed c.bk.b k9 pt pm).own.length y1)).setCell ⟨w.heap.size, 1, none⟩ (.slice x2 (backed c.bk.b k9 pt pm).notes.length y2)).setCell ⟨w.heap.size, 2, none⟩ (.int .i64 (backed c.bk.b k9 pt pm).locked)).setCell ⟨b, off + k, none⟩ (.int .i64 1)) = V7 at *
    have HBl := HBl2
    clear HBl2
    have HBr := HBr2
    clear HBr2
    have HK := HK2
    clear HK2
    have OW := Lib.hid ho8
    clear ho8
    have hb := HBl.out
    have l0 := hb.cell 0
    have l1 := hb.cell 1
    have l2 := hb.cell 2
    have l3 := hb.cell 3
    have l4 := hb.cell 4
    have l5 := hb.cell 5
    have l6 := hb.cell 6
    have l7 := hb.cell 7
    have l8 := hb.cell 8
    have l9 := hb.cell 9
    have l10 := hb.cell 10
    have l11 := hb.cell 11
    have l12 := hb.cell 12
    simp at l0 l1 l2 l3 l4 l5 l6 l7 l8 l9 l10 l11 l12
    have zl := hb.lt
    clear hb
    have hb := HBr.out
    have r0 := hb.cell 0
    have r1 := hb.cell 1
    have r2 := hb.cell 2
    have r3 := hb.cell 3
    have r4 := hb.cell 4
    have r5 := hb.cell 5
    have r6 := hb.cell 6
    have r7 := hb.cell 7
    have r8 := hb.cell 8
    have r9 := hb.cell 9
    have r10 := hb.cell 10
    have r11 := hb.cell 11
    have r12 := hb.cell 12
    simp at r0 r1 r2 r3 r4 r5 r6 r7 r8 r9 r10 r11 r12
    have zr := hb.lt
    clear hb
    have hb := HBr.out
    have rf0 := hb.frozen 0
    have rf1 := hb.frozen 1
    have rf2 := hb.frozen 2
    have rf3 := hb.frozen 3
    have rf4 := hb.frozen 4
    have rf5 := hb.frozen 5
    have rf6 := hb.frozen 6
    have rf7 := hb.frozen 7
    have rf8 := hb.frozen 8
    have rf9 := hb.frozen 9
    have rf10 := hb.frozen 10
    have rf11 := hb.frozen 11
    have rf12 := hb.frozen 12
    clear hb
    go_wp2
    have hbF := (((((((((((((HBr.out.set_ 0 (.slice x1 (backed c.bk.b k9 pt pm).own.length y1)).set_ 1 (.slice x2 (backed c.bk.b k9 pt pm).notes.length y2)).set_ 2 (.int .i64 (backed c.bk.b k9 pt pm).locked)).set_ 3 (.int .i64 c.id)).set_ 4 (.int .i64 tx.way)).set_ 5 (.int .i64 tx.ver)).set_ 6 (.int .i64 tx.want)).set_ 7 (.slice T1 tx.sent.length u1)).set_ 8 (.slice T2 tx.live.length u2)).set_ 9 (.slice T3 tx.back.length u3)).set_ 10 (.slice (some ⟨b, off, none⟩) tx.got.length u4)).set_ 11 (.pointer P)).set_ 12 (.slice c.kA c.knows.length c.kc))
    simp only [List.setIfInBounds_toArray, List.set_cons_zero, List.set_cons_succ] at hbF
    have s10 := hbF.cell 0
    have s11 := hbF.cell 1
    have s12 := hbF.cell 2
    have s13 := hbF.cell 3
    have s14 := hbF.cell 4
    have s15 := hbF.cell 5
    have s16 := hbF.cell 6
    have s17 := hbF.cell 7
    have s18 := hbF.cell 8
    have s19 := hbF.cell 9
    have s20 := hbF.cell 10
    have s21 := hbF.cell 11
    have s22 := hbF.cell 12
    simp at s10 s11 s12 s13 s14 s15 s16 s17 s18 s19 s20 s21 s22
    clear hbF
    have kS : Keeps (fun b => b = w.heap.size + 1 + 1) V7 (((((((((((((V7.setCell ⟨w.heap.size + 1 + 1, 0, none⟩ (.slice x1 (backed c.bk.b k9 pt pm).own.length y1)).setCell ⟨w.heap.size + 1 + 1, 1, none⟩ (.slice x2 (backed c.bk.b k9 pt pm).notes.length y2)).setCell ⟨w.heap.size + 1 + 1, 2, none⟩ (.int .i64 (backed c.bk.b k9 pt pm).locked)).setCell ⟨w.heap.size + 1 + 1, 3, none⟩ (.int .i64 c.id)).setCell ⟨w.heap.size + 1 + 1, 4, none⟩ (.int .i64 tx.way)).setCell ⟨w.heap.size + 1 + 1, 5, none⟩ (.int .i64 tx.ver)).setCell ⟨w.heap.size + 1 + 1, 6, none⟩ (.int .i64 tx.want)).setCell ⟨w.heap.size + 1 + 1, 7, none⟩ (.slice T1 tx.sent.length u1)).setCell ⟨w.heap.size + 1 + 1, 8, none⟩ (.slice T2 tx.live.length u2)).setCell ⟨w.heap.size + 1 + 1, 9, none⟩ (.slice T3 tx.back.length u3)).setCell ⟨w.heap.size + 1 + 1, 10, none⟩ (.slice (some ⟨b, off, none⟩) tx.got.length u4)).setCell ⟨w.heap.size + 1 + 1, 11, none⟩ (.pointer P)).setCell ⟨w.heap.size + 1 + 1, 12, none⟩ (.slice c.kA c.knows.length c.kc)) := ((((((((((((((Keeps.refl (fun b => b = w.heap.size + 1 + 1) V7).setCell (p := ⟨w.heap.size + 1 + 1, 0, none⟩) (.inr rfl) (.slice x1 (backed c.bk.b k9 pt pm).own.length y1)).setCell (p := ⟨w.heap.size + 1 + 1, 1, none⟩) (.inr rfl) (.slice x2 (backed c.bk.b k9 pt pm).notes.length y2)).setCell (p := ⟨w.heap.size + 1 + 1, 2, none⟩) (.inr rfl) (.int .i64 (backed c.bk.b k9 pt pm).locked)).setCell (p := ⟨w.heap.size + 1 + 1, 3, none⟩) (.inr rfl) (.int .i64 c.id)).setCell (p := ⟨w.heap.size + 1 + 1, 4, none⟩) (.inr rfl) (.int .i64 tx.way)).setCell (p := ⟨w.heap.size + 1 + 1, 5, none⟩) (.inr rfl) (.int .i64 tx.ver)).setCell (p := ⟨w.heap.size + 1 + 1, 6, none⟩) (.inr rfl) (.int .i64 tx.want)).setCell (p := ⟨w.heap.size + 1 + 1, 7, none⟩) (.inr rfl) (.slice T1 tx.sent.length u1)).setCell (p := ⟨w.heap.size + 1 + 1, 8, none⟩) (.inr rfl) (.slice T2 tx.live.length u2)).setCell (p := ⟨w.heap.size + 1 + 1, 9, none⟩) (.inr rfl) (.slice T3 tx.back.length u3)).setCell (p := ⟨w.heap.size + 1 + 1, 10, none⟩) (.inr rfl) (.slice (some ⟨b, off, none⟩) tx.got.length u4)).setCell (p := ⟨w.heap.size + 1 + 1, 11, none⟩) (.inr rfl) (.pointer P)).setCell (p := ⟨w.heap.size + 1 + 1, 12, none⟩) (.inr rfl) (.slice c.kA c.knows.length c.kc))
    generalize (((((((((((((V7.setCell ⟨w.heap.size + 1 + 1, 0, none⟩ (.slice x1 (backed c.bk.b k9 pt pm).own.length y1)).setCell ⟨w.heap.size + 1 + 1, 1, none⟩ (.slice x2 (backed c.bk.b k9 pt pm).notes.length y2)).setCell ⟨w.heap.size + 1 + 1, 2, none⟩ (.int .i64 (backed c.bk.b k9 pt pm).locked)).setCell ⟨w.heap.size + 1 + 1, 3, none⟩ (.int .i64 c.id)).setCell ⟨w.heap.size + 1 + 1, 4, none⟩ (.int .i64 tx.way)).setCell ⟨w.heap.size + 1 + 1, 5, none⟩ (.int .i64 tx.ver)).setCell ⟨w.heap.size + 1 + 1, 6, none⟩ (.int .i64 tx.want)).setCell ⟨w.heap.size + 1 + 1, 7, none⟩ (.slice T1 tx.sent.length u1)).setCell ⟨w.heap.size + 1 + 1, 8, none⟩ (.slice T2 tx.live.length u2)).setCell ⟨w.heap.size + 1 + 1, 9, none⟩ (.slice T3 tx.back.length u3)).setCell ⟨w.heap.size + 1 + 1, 10, none⟩ (.slice (some ⟨b, off, none⟩) tx.got.length u4)).setCell ⟨w.heap.size + 1 + 1, 11, none⟩ (.pointer P)).setCell ⟨w.heap.size + 1 + 1, 12, none⟩ (.slice c.kA c.knows.length c.kc)) = WF at kS s10 s11 s12 s13 s14 s15 s16 s17 s18 s19 s20 s21 s22 ⊢
    refine bodyPost_ret (v := lkV { c with bk := (⟨(backed c.bk.b k9 pt pm), x1, x2, y1, y2⟩ : BkM), st := (⟨{ tx with got := tx.got.set k 1 }, T1, T2, T3, some ⟨b, off, none⟩, u1, u2, u3, u4⟩ : StM) } P) (by simp [results, Tryz.results44, go_sem, lkV, s10, s11, s12, s13, s14, s15, s16, s17, s18, s19, s20, s21, s22]) rfl ?_
    have kS := kS.drew
    generalize WF.drew = WG at kS ⊢
    exact ⟨(⟨(backed c.bk.b k9 pt pm), x1, x2, y1, y2⟩ : BkM), (⟨{ tx with got := tx.got.set k 1 }, T1, T2, T3, some ⟨b, off, none⟩, u1, u2, u3, u4⟩ : StM), rfl, rfl, by dsimp only; rw [HX.out], (I12.out.keeps kS fun b' hb' h => by have q := HGE.out b' (.inl hb'); omega), (I22.out.keeps kS fun b' hb' h => by have q := HGE.out b' (.inr hb'); omega), (StM.Own.keeps (s := (⟨{ tx with got := tx.got.set k 1 }, T1, T2, T3, some ⟨b, off, none⟩, u1, u2, u3, u4⟩ : StM)) OW.out kS (fun b' hb' h => by have q := StOwn.ge OW.out hb'; (try simp at q) <;> omega)).at_ (by refine ⟨?_, ?_, ?_, ?_⟩ <;> (dsimp only; rw [HX.out]; (try rw [List.length_set]); have := HL9.out; unfold maxLen; omega)), fun b hb => .inl (by have q := HGE.out b hb; omega), fun b hb => by have q := StOwn.ge OW.out hb; (try simp at q) <;> omega, HK.out.then kS fun i hi h => by omega⟩
theorem receive_any (c : ChM) (P : Option Addr) (k : Nat) (kd pf pt pm pu pv : Int) (w : World) (h : c.st.At w) (ho : Ints w c.bk.A1 c.bk.b.own.length c.bk.b.own) (hnt : Ints w c.bk.A2 c.bk.b.notes.length c.bk.b.notes) (hl1 : c.bk.b.own.length ≤ 1000) (hl2 : c.bk.b.notes.length ≤ 1000) (h3 : c.st.x.sent.length ≤ 1000 ∧ c.st.x.live.length ≤ 1000 ∧ c.st.x.back.length ≤ 1000 ∧ c.st.x.got.length ≤ 1000) (hk : k < c.st.x.got.length) (hf : M64 pt) :
    Calls Tryz.prog 44 #[lkV c P, .agg #[.int .i64 ((k : Int) + 1), .int .i64 kd, .int .i64 pf, .int .i64 pt, .int .i64 pm, .int .i64 pu, .int .i64 pv]] w (RetRef w c P (refB c.bk.b (pkd kd) pt pm) { c.st.x with got := c.st.x.got.set k (if backOk c.bk.b (pkd kd) pt pm = true then 1 else 2) }) := by
  rcases Bool.eq_false_or_eq_true (backOk c.bk.b (pkd kd) pt pm) with hb | hb
  · have q := receive_yes c P k kd pf pt pm pu pv w h ho hnt hl1 hl2 h3 hk hf hb
    rw [hb, if_pos rfl]
    exact q
  · have q := receive_no c P k kd pf pt pm pu pv w h ho hnt hl1 hl2 h3 hk hf hb
    rw [hb, if_neg (by decide)]
    exact q
end Go.Proofs.YtcnbephpadmboaaGreatDoor
