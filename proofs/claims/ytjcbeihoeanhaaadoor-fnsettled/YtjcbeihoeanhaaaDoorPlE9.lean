/- l71Event of the model: a way of its switch. -/
import Derived.Test.YtjcbeihoeanhaaaDoorUPlE
set_option maxHeartbeats 64000000
set_option maxRecDepth 1000000
set_option linter.unusedVariables false
set_option linter.unusedSimpArgs false
namespace Go.Proofs.YtjcbeihoeanhaaaDoor
open Go.RowKit

theorem evc9 {G : Nat → Nat} {m : WdM} {g : Nat} {lim : Int} {q n0 : Nat} {w w1 w4 : World} {ch hv p4 : Int} {me ot : ChM} (u14 u15 u16 u17 u18 u19 u20 u21 u22 u23 u24 u25 u26 u27 u28 u29 u30 u31 u32 u33 u34 u35 u36 u37 u38 u39 u40 u41 u42 u43 u44 u45 u46 u47 u48 u49 u50 u51 u52 u53 u54 u55 : Value) {J K' : Act → World → Prop}
  (hl : lim ≤ 1000000) (hq : q ≤ 1000) (hgn : g < w.heap.size) (hng : ¬ m.g = g) (hnz : ∀ b, w.heap.size ≤ b → G b = 0) (hlg : m.g < w.heap.size) (hch : ch = 1 ∨ ch = 2) (lka : me.knows.length ≤ q) (hpo : ot.past.length ≤ 90) (hse : ot.st.x.sent.length ≤ 8)
  (hat : ∀ W l, Pl G W m g l q n0 → ChAt W me ∧ ChAt W ot) (hw9 : w.heap.size + 2 ≤ w1.heap.size) (szc : w1.heap.size + 2 ≤ w4.heap.size) (a4 : 0 ≤ p4) (b4 : p4 < 12)
  (hbv : Box w4 (w.heap.size) 87 #[.slice (some ⟨m.g, 0, none⟩) 2 2]) (hbr : Box w4 (w.heap.size + 1) 102 zC11) (hbc : Box w4 (w1.heap.size) 94 (chC me)) (hbo : Box w4 (w1.heap.size + 1) 94 (chC ot)) (hk : Keeps (one g) w w4) (hpl : Pl G w4 m g (lim + 4) q n0)
  (hJ : ∀ a' w', EvR G m g lim q n0 w w1 ch me ot  a' w' → J a' w') (hK : ∀ a' w', Met J a' w' → K' a' w') (hp : p4 = 9) :
  Code.wp Tryd.prog evSw (Exit.then K' (bodyPost Tryd.prog Tryd.f80 (RetEv w g lim))) ⟨#[.pointer (some ⟨g, 0, none⟩), .agg #[.slice (some ⟨m.g, 0, none⟩) 2 2], undef, .pointer (some ⟨w.heap.size, 0, none⟩), .pointer (some ⟨w.heap.size + 1, 0, none⟩), .int .i64 ch, .pointer (some ⟨w1.heap.size, 0, none⟩), .pointer (some ⟨w1.heap.size + 1, 0, none⟩), .int .i64 hv, undef, undef, undef, undef, undef, u14, u15, u16, u17, u18, u19, u20, u21, u22, u23, u24, u25, u26, u27, u28, u29, u30, u31, u32, u33, u34, u35, u36, u37, u38, u39, u40, u41, u42, u43, u44, u45, u46, u47, u48, u49, u50, u51, u52, u53, u54, u55, .pointer (some ⟨g, 0, none⟩), .int .i64 p4, undef, undef, undef, undef, undef, undef, undef, undef, undef, undef, undef, undef, undef, undef, undef, undef, undef, undef, undef, undef, undef, undef, undef, undef, undef, undef, undef, undef, undef, undef, undef, undef, undef, undef, undef, undef, undef, undef, undef, undef, undef, undef, undef, undef, undef, undef, undef, undef, undef, undef, undef, undef, undef, undef, undef, undef, undef, undef, undef, undef, undef, undef, undef, undef, undef, undef, undef, undef, undef, undef, undef, undef, undef, undef, undef, undef, undef, undef, undef, undef, undef, undef, undef, undef, undef, undef, undef, undef, undef, undef, undef, undef, undef, undef, undef, undef, undef, undef, undef, undef, undef, undef, undef, undef, undef, undef, undef, undef, undef, undef, undef, undef, undef, undef, undef, undef, undef, undef, undef, undef, undef, undef, undef, undef, undef, undef, undef, undef, undef, undef, undef, undef, undef, undef, undef, undef, undef, undef, undef, undef, undef, undef, undef, undef, undef, undef, undef, undef, undef, undef, undef, undef, undef, undef, undef, undef, undef, undef, undef, undef, undef, undef, undef, undef, undef, undef, undef, undef, undef, undef, undef, undef, undef, undef, undef, undef], []⟩ w4 := by
 have HNZ := hH hnz
 have HAT := hH hat
 have HBv := hH hbv
 have HBr := hH hbr
 have HBc := hH hbc
 have HBo := hH hbo
 have HK := hH hk
 have HPL := hH hpl
 clear hnz hat hbv hbr hbc hbo hk hpl
 unfold EvR at hJ
 have e0 : (p4 == 0) = false := by simp; omega
 have e1 : (p4 == 1) = false := by simp; omega
 have e2 : (p4 == 2) = false := by simp; omega
 have e3 : (p4 == 3) = false := by simp; omega
 have e4 : (p4 == 4) = false := by simp; omega
 have e5 : (p4 == 5) = false := by simp; omega
 have e6 : (p4 == 6) = false := by simp; omega
 have e7 : (p4 == 7) = false := by simp; omega
 have e8 : (p4 == 8) = false := by simp; omega
 have e9 : (p4 == 9) = true := by simp; omega
 clear hp
 conv => arg 2; whnf
 go_wp2_with fail
 refine (pick_any g (lim + 4) 3 _ HPL.out.rd (by omega) (by omega) (by omega)).mono ?_
 rintro e w5 ⟨p5, rfl, a5, b5, hrd, hk⟩
 replace HBv := hH (HBv.out.keeps hk (nq (by omega)))
 replace HBr := hH (HBr.out.keeps hk (nq (by omega)))
 replace HBc := hH (HBc.out.keeps hk (nq (by omega)))
 replace HBo := hH (HBo.out.keeps hk (nq (by omega)))
 replace HK := hH (HK.out.trans hk)
 replace HPL := hH (HPL.out.one hk (hrd.more (lim' := lim + 5) (by omega)))
 have sz5 := hk.size
 (try simp at sz5)
 clear hrd hk
 by_cases h3 : p5 = 0
 ·have e3b : (p5 == 0) = true := by simp [h3]
  go_wp2_with fail
  refine (pick_any g (lim + 5) 2 _ HPL.out.rd (by omega) (by omega) (by omega)).mono ?_
  rintro e w6 ⟨p6, rfl, a6, b6, hrd, hk⟩
  replace HBv := hH (HBv.out.keeps hk (nq (by omega)))
  replace HBr := hH (HBr.out.keeps hk (nq (by omega)))
  replace HBc := hH (HBc.out.keeps hk (nq (by omega)))
  replace HBo := hH (HBo.out.keeps hk (nq (by omega)))
  replace HK := hH (HK.out.trans hk)
  replace HPL := hH (HPL.out.one hk (hrd.more (lim' := lim + 6) (by omega)))
  have sz6 := hk.size
  (try simp at sz6)
  clear hrd hk
  go_wp2_with fail
  refine (pick_any g (lim + 6) 3 _ HPL.out.rd (by omega) (by omega) (by omega)).mono ?_
  rintro e w7 ⟨p7, rfl, a7, b7, hrd, hk⟩
  replace HBv := hH (HBv.out.keeps hk (nq (by omega)))
  replace HBr := hH (HBr.out.keeps hk (nq (by omega)))
  replace HBc := hH (HBc.out.keeps hk (nq (by omega)))
  replace HBo := hH (HBo.out.keeps hk (nq (by omega)))
  replace HK := hH (HK.out.trans hk)
  replace HPL := hH (HPL.out.one hk (hrd.more (lim' := lim + 7) (by omega)))
  have sz7 := hk.size
  (try simp at sz7)
  clear hrd hk
  go_wp2_with fail
  refine (pick_any g (lim + 7) 3 _ HPL.out.rd (by omega) (by omega) (by omega)).mono ?_
  rintro e w8 ⟨p8, rfl, a8, b8, hrd, hk⟩
  replace HBv := hH (HBv.out.keeps hk (nq (by omega)))
  replace HBr := hH (HBr.out.keeps hk (nq (by omega)))
  replace HBc := hH (HBc.out.keeps hk (nq (by omega)))
  replace HBo := hH (HBo.out.keeps hk (nq (by omega)))
  replace HK := hH (HK.out.trans hk)
  replace HPL := hH (HPL.out.one hk (hrd.more (lim' := lim + 8) (by omega)))
  have sz8 := hk.size
  (try simp at sz8)
  clear hrd hk
  go_wp2_with fail
  refine (pick_any g (lim + 8) 4 _ HPL.out.rd (by omega) (by omega) (by omega)).mono ?_
  rintro e w9 ⟨p9, rfl, a9, b9, hrd, hk⟩
  replace HBv := hH (HBv.out.keeps hk (nq (by omega)))
  replace HBr := hH (HBr.out.keeps hk (nq (by omega)))
  replace HBc := hH (HBc.out.keeps hk (nq (by omega)))
  replace HBo := hH (HBo.out.keeps hk (nq (by omega)))
  replace HK := hH (HK.out.trans hk)
  replace HPL := hH (HPL.out.one hk (hrd.more (lim' := lim + 9) (by omega)))
  have sz9 := hk.size
  (try simp at sz9)
  clear hrd hk
  have hb := HBr.out
  obtain ⟨r0, r1, r2, r3, r4, r5, r6, r7, r8, r9, r10⟩ := hb.cells11
  obtain ⟨rf0, rf1, rf2, rf3, rf4, rf5, rf6, rf7, rf8, rf9, rf10⟩ := hb.fz11
  have zr := hb.lt
  clear hb
  go_wp2
  have kS := evW_keeps w9 (w.heap.size + 1) (⟨8, ch, 0, 0, ⟨0, (1 + p6), (1 + p7), (1 + p8), p9, 0, 0⟩⟩ : Ev)
  obtain ⟨s10, s11, s12, s13, s14, s15, s16, s17, s18, s19, s20⟩ := evW_cells HBr.out (⟨8, ch, 0, 0, ⟨0, (1 + p6), (1 + p7), (1 + p8), p9, 0, 0⟩⟩ : Ev)
  change bodyPost _ _ _ _ _ (evW w9 (w.heap.size + 1) (⟨8, ch, 0, 0, ⟨0, (1 + p6), (1 + p7), (1 + p8), p9, 0, 0⟩⟩ : Ev))
  generalize evW w9 (w.heap.size + 1) (⟨8, ch, 0, 0, ⟨0, (1 + p6), (1 + p7), (1 + p8), p9, 0, 0⟩⟩ : Ev) = WF at kS s10 s11 s12 s13 s14 s15 s16 s17 s18 s19 s20 ⊢
  refine bodyPost_ret (v := Ev.val (⟨8, ch, 0, 0, ⟨0, (1 + p6), (1 + p7), (1 + p8), p9, 0, 0⟩⟩ : Ev)) (by simp [results, Tryd.results80, go_sem, Ev.val, s10, s11, s12, s13, s14, s15, s16, s17, s18, s19, s20]) rfl ?_
  exact ev_end (⟨8, ch, 0, 0, ⟨0, (1 + p6), (1 + p7), (1 + p8), p9, 0, 0⟩⟩ : Ev) HPL.out.rd (by omega) HK.out kS (by omega) (by omega)
 ·have e3b : (p5 == 0) = false := by simp [h3]
  go_wp2_with fail
  refine (pick_any g (lim + 5) 3 _ HPL.out.rd (by omega) (by omega) (by omega)).mono ?_
  rintro e w6 ⟨p6, rfl, a6, b6, hrd, hk⟩
  replace HBv := hH (HBv.out.keeps hk (nq (by omega)))
  replace HBr := hH (HBr.out.keeps hk (nq (by omega)))
  replace HBc := hH (HBc.out.keeps hk (nq (by omega)))
  replace HBo := hH (HBo.out.keeps hk (nq (by omega)))
  replace HK := hH (HK.out.trans hk)
  replace HPL := hH (HPL.out.one hk (hrd.more (lim' := lim + 6) (by omega)))
  have sz6 := hk.size
  (try simp at sz6)
  clear hrd hk
  by_cases h3c : p6 = 0 ∧ 0 < ot.st.x.sent.length
  ·obtain ⟨h3d, hsn⟩ := h3c
   have e3c : (p6 == 0) = true := by simp [h3d]
   have hd : decide ((0 : Int) < (ot.st.x.sent.length : Int)) = true := decide_eq_true (by omega)
   have hdn : decide (0 < ot.st.x.sent.length) = true := decide_eq_true (by omega)
   obtain ⟨bs, os, eS, hbs⟩ := (HAT.out _ _ HPL.out).2.st.1.1.addr hsn
   have HD := hH (fun (W : World) (hp : Pks W ot.st.A1 ot.st.x.sent.length ot.st.x.sent) (k : Nat) (hk : k < ot.st.x.sent.length) (i : Nat) (c : Value) (hc : (ot.st.x.sent.getD k pk0).cs[i]? = some c) => (show W.cell? ⟨bs, os + (k * 7 + i), none⟩ = some c from by rw [eS] at hp; exact hp.at2 hk i c hc))
   have hb := HBo.out
   have o7 := hb.cell 7
   simp at o7
   have zo := hb.lt
   clear hb
   go_upto_region 32 with fail
   clear o7 zo
   go_cut [11] from 153 to 163 (fun x wx => ∃ (gk : Nat) (pp : Pk), x = .pointer (some ⟨gk, 0, none⟩) ∧ Box wx gk 29 (pkC pp) ∧ w.heap.size + 2 ≤ gk ∧ Pl G wx m g (lim + 7) q n0 ∧ Box wx (w.heap.size) 87 #[.slice (some ⟨m.g, 0, none⟩) 2 2] ∧ Box wx (w.heap.size + 1) 102 zC11 ∧ Box wx (w1.heap.size) 94 (chC me) ∧ Box wx (w1.heap.size + 1) 94 (chC ot) ∧ Keeps (one g) w wx)
   case first =>
    have TKv : True := trivial
    have szw : w.heap.size + 2 ≤ w6.heap.size := by omega
    have hb := HBo.out
    have o7 := hb.cell 7
    simp at o7
    have zo := hb.lt
    clear hb
    rw [eS] at o7
    have : ¬ w1.heap.size + 1 = w6.heap.size := by omega
    have : ¬ w6.heap.size = w1.heap.size + 1 := by omega
    have hbs0 : bs < w6.heap.size := hbs
    go_region_with (first | (go_at_call 43; refine (pick_any g (lim + 6) _ _ (HPL.out.rd.drewN 1) (by omega) (by omega) (by omega)).mono ?_; rintro e v1 ⟨x1, rfl, xa1, xb1, hrd, hk⟩; have hq := ((Keeps.refl (one g) w6).drewN 1).trans hk; obtain ⟨pn, rfl⟩ := Int.eq_ofNat_of_zero_le xa1; replace HPL := hH (HPL.out.one hq (hrd.more (lim' := lim + 7) (by omega))); replace HBv := hH (HBv.out.keeps hq (nq (by omega))); replace HBr := hH (HBr.out.keeps hq (nq (by omega))); replace HBc := hH (HBc.out.keeps hq (nq (by omega))); replace HBo := hH (HBo.out.keeps hq (nq (by omega))); replace HK := hH (HK.out.trans hq); have d0 := HD.out _ (HAT.out _ _ HPL.out).2.st.1.1 pn (by omega) 0 (.int .i64 (ot.st.x.sent.getD pn pk0).s) rfl; have d1 := HD.out _ (HAT.out _ _ HPL.out).2.st.1.1 pn (by omega) 1 (.int .i64 (ot.st.x.sent.getD pn pk0).k) rfl; have d2 := HD.out _ (HAT.out _ _ HPL.out).2.st.1.1 pn (by omega) 2 (.int .i64 (ot.st.x.sent.getD pn pk0).f) rfl; have d3 := HD.out _ (HAT.out _ _ HPL.out).2.st.1.1 pn (by omega) 3 (.int .i64 (ot.st.x.sent.getD pn pk0).t) rfl; have d4 := HD.out _ (HAT.out _ _ HPL.out).2.st.1.1 pn (by omega) 4 (.int .i64 (ot.st.x.sent.getD pn pk0).m) rfl; have d5 := HD.out _ (HAT.out _ _ HPL.out).2.st.1.1 pn (by omega) 5 (.int .i64 (ot.st.x.sent.getD pn pk0).u) rfl; have d6 := HD.out _ (HAT.out _ _ HPL.out).2.st.1.1 pn (by omega) 6 (.int .i64 (ot.st.x.sent.getD pn pk0).v) rfl; simp only [Nat.add_zero, ← Nat.add_assoc] at d0 d1 d2 d3 d4 d5 d6; generalize ot.st.x.sent.getD pn pk0 = pp at d0 d1 d2 d3 d4 d5 d6; have hb9 := HBo.out; have o7' := hb9.cell 7; simp at o7'; rw [eS] at o7'; have zo' := hb9.lt; have hip : (pn : Int) < (ot.st.x.sent.length : Int) := (by omega); have hbs9 : bs < v1.heap.size := (by have := hq.size; (try simp at this); omega); have szv1 := hq.size; (try simp at szv1); have : ¬ bs = v1.heap.size := (by omega); have : ¬ w1.heap.size + 1 = v1.heap.size := (by omega); clear hrd hk hb9 hq) | (go_at_call 43; refine (pick_any g (lim + 6) _ _ ((HPL.out.rd.alloc (.cells zC7 29)).drewN 1) (by omega) (by omega) (by omega)).mono ?_; rintro e v1 ⟨x1, rfl, xa1, xb1, hrd, hk⟩; have hq := ((Keeps.refl (one g) (w6.alloc (.cells zC7 29))).drewN 1).trans hk; obtain ⟨pn, rfl⟩ := Int.eq_ofNat_of_zero_le xa1; replace HPL := hH ((HPL.out.kept ((Keeps.refl noBlk w6).alloc (.cells zC7 29))).one hq (hrd.more (lim' := lim + 7) (by omega))); replace HBv := hH ((HBv.out.alloc (.cells zC7 29)).keeps hq (nq (by omega))); replace HBr := hH ((HBr.out.alloc (.cells zC7 29)).keeps hq (nq (by omega))); replace HBc := hH ((HBc.out.alloc (.cells zC7 29)).keeps hq (nq (by omega))); replace HBo := hH ((HBo.out.alloc (.cells zC7 29)).keeps hq (nq (by omega))); replace HK := hH ((HK.out.alloc (.cells zC7 29)).trans hq); have d0 := HD.out _ (HAT.out _ _ HPL.out).2.st.1.1 pn (by omega) 0 (.int .i64 (ot.st.x.sent.getD pn pk0).s) rfl; have d1 := HD.out _ (HAT.out _ _ HPL.out).2.st.1.1 pn (by omega) 1 (.int .i64 (ot.st.x.sent.getD pn pk0).k) rfl; have d2 := HD.out _ (HAT.out _ _ HPL.out).2.st.1.1 pn (by omega) 2 (.int .i64 (ot.st.x.sent.getD pn pk0).f) rfl; have d3 := HD.out _ (HAT.out _ _ HPL.out).2.st.1.1 pn (by omega) 3 (.int .i64 (ot.st.x.sent.getD pn pk0).t) rfl; have d4 := HD.out _ (HAT.out _ _ HPL.out).2.st.1.1 pn (by omega) 4 (.int .i64 (ot.st.x.sent.getD pn pk0).m) rfl; have d5 := HD.out _ (HAT.out _ _ HPL.out).2.st.1.1 pn (by omega) 5 (.int .i64 (ot.st.x.sent.getD pn pk0).u) rfl; have d6 := HD.out _ (HAT.out _ _ HPL.out).2.st.1.1 pn (by omega) 6 (.int .i64 (ot.st.x.sent.getD pn pk0).v) rfl; simp only [Nat.add_zero, ← Nat.add_assoc] at d0 d1 d2 d3 d4 d5 d6; generalize ot.st.x.sent.getD pn pk0 = pp at d0 d1 d2 d3 d4 d5 d6; have hb9 := HBo.out; have o7' := hb9.cell 7; simp at o7'; rw [eS] at o7'; have zo' := hb9.lt; have hip : (pn : Int) < (ot.st.x.sent.length : Int) := (by omega); have hbs9 : bs < v1.heap.size := (by have := hq.size; (try simp at this); omega); have szv1 := hq.size; (try simp at szv1); clear TKv; have TH0 : True := trivial; have HBk9 := hH ((Box.new w6 _ rfl 29 zC7).keeps hq (nq (by omega))); have hb8 := HBk9.out; obtain ⟨kf0, kf1, kf2, kf3, kf4, kf5, kf6⟩ := hb8.fz7; obtain ⟨k90, k91, k92, k93, k94, k95, k96⟩ := hb8.cells7; have zk9 := hb8.lt; clear hb8; have : ¬ bs = w6.heap.size := (by omega); have : ¬ w6.heap.size = bs := (by omega); have : ¬ w1.heap.size + 1 = w6.heap.size := (by omega); clear hrd hk hb9 hq))
    all_goals go_wp2_with fail
    all_goals go_meet
    all_goals first | (have _t := TKv; exact ⟨_, pp, rfl, Box.new v1 _ rfl 29 _, by omega, HPL.out.kept ((Keeps.refl noBlk v1).alloc _), HBv.out.alloc _, HBr.out.alloc _, HBc.out.alloc _, HBo.out.alloc _, HK.out.alloc _⟩) | (have _t := TH0; exact ⟨_, pp, rfl, pkP_box HBk9.out pp, by omega, HPL.out.keeps (pkP_keeps _ _ pp) (fun b hb => by subst hb; exact ⟨HNZ.out _ (by omega), by omega⟩), HBv.out.keeps (pkP_keeps _ _ pp) (nq (by omega)), HBr.out.keeps (pkP_keeps _ _ pp) (nq (by omega)), HBc.out.keeps (pkP_keeps _ _ pp) (nq (by omega)), HBo.out.keeps (pkP_keeps _ _ pp) (nq (by omega)), HK.out.then (pkP_keeps _ _ pp) (fun i hi h => by have h' : i = w6.heap.size := h; omega)⟩)
   case rest =>
    obtain ⟨gk, pp, rfl, hbk, hgk, hpl, hbv, hbr, hbc, hbo, hkk⟩ := hcut
    clear HPL HBv HBr HBc HBo HK
    have HPL := hH hpl
    have HBv := hH hbv
    have HBr := hH hbr
    have HBc := hH hbc
    have HBo := hH hbo
    have HK := hH hkk
    have HBk := hH hbk
    clear hpl hbv hbr hbc hbo hkk hbk
    obtain ⟨w9, hww⟩ : ∃ x, x = wc := ⟨_, rfl⟩
    subst hww
    have hgg : ¬ gk = g := by omega
    go_wp2_with fail
    refine (pick_any g (lim + 7) 3 _ HPL.out.rd (by omega) (by omega) (by omega)).mono ?_
    rintro e w10 ⟨p10, rfl, a10, b10, hrd, hk⟩
    replace HBv := hH (HBv.out.keeps hk (nq (by omega)))
    replace HBr := hH (HBr.out.keeps hk (nq (by omega)))
    replace HBc := hH (HBc.out.keeps hk (nq (by omega)))
    replace HBo := hH (HBo.out.keeps hk (nq (by omega)))
    replace HBk := hH (HBk.out.keeps hk (nq (by omega)))
    replace HK := hH (HK.out.trans hk)
    replace HPL := hH (HPL.out.one hk (hrd.more (lim' := lim + 8) (by omega)))
    have sz10 := hk.size
    (try simp at sz10)
    clear hrd hk
    by_cases h3e : p10 = 0
    ·have e3e : (p10 == 0) = true := by simp [h3e]
     go_wp2_with fail
     refine (pick_any g (lim + 8) 9 _ HPL.out.rd (by omega) (by omega) (by omega)).mono ?_
     rintro e w11 ⟨p11, rfl, a11, b11, hrd, hk⟩
     replace HBv := hH (HBv.out.keeps hk (nq (by omega)))
     replace HBr := hH (HBr.out.keeps hk (nq (by omega)))
     replace HBc := hH (HBc.out.keeps hk (nq (by omega)))
     replace HBo := hH (HBo.out.keeps hk (nq (by omega)))
     replace HBk := hH (HBk.out.keeps hk (nq (by omega)))
     replace HK := hH (HK.out.trans hk)
     replace HPL := hH (HPL.out.one hk (hrd.more (lim' := lim + 9) (by omega)))
     have sz11 := hk.size
     (try simp at sz11)
     clear hrd hk
     have hb := HBk.out
     obtain ⟨k0, k1, k2, k3, k4, k5, k6⟩ := hb.cells7
     obtain ⟨kf0, kf1, kf2, kf3, kf4, kf5, kf6⟩ := hb.fz7
     have zk := hb.lt
     clear hb
     have hb := HBr.out
     obtain ⟨r0, r1, r2, r3, r4, r5, r6, r7, r8, r9, r10⟩ := hb.cells11
     obtain ⟨rf0, rf1, rf2, rf3, rf4, rf5, rf6, rf7, rf8, rf9, rf10⟩ := hb.fz11
     have zr := hb.lt
     clear hb
     have : ¬ gk = w.heap.size + 1 := by omega
     have : ¬ w.heap.size + 1 = gk := by omega
     go_wp2
     have hbF := ((((((((((((HBr.out.keeps ((Keeps.refl (fun b => b = gk) w11).setCell (p := ⟨gk, 4, none⟩) (.inr rfl) (.int .i64 (1 + p11))) (fun h => by omega)).set_ 0 (.int .i64 4)).set_ 1 (.int .i64 ch)).set_ 2 (.int .i64 hv)).set_ 3 (.int .i64 0)).set_ 4 (.int .i64 pp.s)).set_ 5 (.int .i64 pp.k)).set_ 6 (.int .i64 pp.f)).set_ 7 (.int .i64 pp.t)).set_ 8 (.int .i64 (1 + p11))).set_ 9 (.int .i64 pp.u)).set_ 10 (.int .i64 pp.v))
     simp only [List.setIfInBounds_toArray, List.set_cons_zero, List.set_cons_succ] at hbF
     have s10 := hbF.cell 0
     have s11 := hbF.cell 1
     have s12 := hbF.cell 2
     have s13 := hbF.cell 3
     have s14 := hbF.cell 4
     have s15 := hbF.cell 5
     have s16 := hbF.cell 6
     have s17 := hbF.cell 7
     have s18 := hbF.cell 8
     have s19 := hbF.cell 9
     have s20 := hbF.cell 10
     simp at s10 s11 s12 s13 s14 s15 s16 s17 s18 s19 s20
     clear hbF
     have kS : Keeps (fun b => b = w.heap.size + 1 ∨ b = gk) w11 ((((((((((((w11.setCell ⟨gk, 4, none⟩ (.int .i64 (1 + p11))).setCell ⟨w.heap.size + 1, 0, none⟩ (.int .i64 4)).setCell ⟨w.heap.size + 1, 1, none⟩ (.int .i64 ch)).setCell ⟨w.heap.size + 1, 2, none⟩ (.int .i64 hv)).setCell ⟨w.heap.size + 1, 3, none⟩ (.int .i64 0)).setCell ⟨w.heap.size + 1, 4, none⟩ (.int .i64 pp.s)).setCell ⟨w.heap.size + 1, 5, none⟩ (.int .i64 pp.k)).setCell ⟨w.heap.size + 1, 6, none⟩ (.int .i64 pp.f)).setCell ⟨w.heap.size + 1, 7, none⟩ (.int .i64 pp.t)).setCell ⟨w.heap.size + 1, 8, none⟩ (.int .i64 (1 + p11))).setCell ⟨w.heap.size + 1, 9, none⟩ (.int .i64 pp.u)).setCell ⟨w.heap.size + 1, 10, none⟩ (.int .i64 pp.v)) := (((((((((((((Keeps.refl (fun b => b = w.heap.size + 1 ∨ b = gk) w11).setCell (p := ⟨gk, 4, none⟩) (.inr (.inr rfl)) (.int .i64 (1 + p11))).setCell (p := ⟨w.heap.size + 1, 0, none⟩) (.inr (.inl rfl)) (.int .i64 4)).setCell (p := ⟨w.heap.size + 1, 1, none⟩) (.inr (.inl rfl)) (.int .i64 ch)).setCell (p := ⟨w.heap.size + 1, 2, none⟩) (.inr (.inl rfl)) (.int .i64 hv)).setCell (p := ⟨w.heap.size + 1, 3, none⟩) (.inr (.inl rfl)) (.int .i64 0)).setCell (p := ⟨w.heap.size + 1, 4, none⟩) (.inr (.inl rfl)) (.int .i64 pp.s)).setCell (p := ⟨w.heap.size + 1, 5, none⟩) (.inr (.inl rfl)) (.int .i64 pp.k)).setCell (p := ⟨w.heap.size + 1, 6, none⟩) (.inr (.inl rfl)) (.int .i64 pp.f)).setCell (p := ⟨w.heap.size + 1, 7, none⟩) (.inr (.inl rfl)) (.int .i64 pp.t)).setCell (p := ⟨w.heap.size + 1, 8, none⟩) (.inr (.inl rfl)) (.int .i64 (1 + p11))).setCell (p := ⟨w.heap.size + 1, 9, none⟩) (.inr (.inl rfl)) (.int .i64 pp.u)).setCell (p := ⟨w.heap.size + 1, 10, none⟩) (.inr (.inl rfl)) (.int .i64 pp.v))
     generalize ((((((((((((w11.setCell ⟨gk, 4, none⟩ (.int .i64 (1 + p11))).setCell ⟨w.heap.size + 1, 0, none⟩ (.int .i64 4)).setCell ⟨w.heap.size + 1, 1, none⟩ (.int .i64 ch)).setCell ⟨w.heap.size + 1, 2, none⟩ (.int .i64 hv)).setCell ⟨w.heap.size + 1, 3, none⟩ (.int .i64 0)).setCell ⟨w.heap.size + 1, 4, none⟩ (.int .i64 pp.s)).setCell ⟨w.heap.size + 1, 5, none⟩ (.int .i64 pp.k)).setCell ⟨w.heap.size + 1, 6, none⟩ (.int .i64 pp.f)).setCell ⟨w.heap.size + 1, 7, none⟩ (.int .i64 pp.t)).setCell ⟨w.heap.size + 1, 8, none⟩ (.int .i64 (1 + p11))).setCell ⟨w.heap.size + 1, 9, none⟩ (.int .i64 pp.u)).setCell ⟨w.heap.size + 1, 10, none⟩ (.int .i64 pp.v)) = WF at kS s10 s11 s12 s13 s14 s15 s16 s17 s18 s19 s20 ⊢
     refine bodyPost_ret (v := (⟨4, ch, hv, 0, ⟨pp.s, pp.k, pp.f, pp.t, (1 + p11), pp.u, pp.v⟩⟩ : Ev).val) (by simp [results, Tryd.results80, go_sem, Ev.val, s10, s11, s12, s13, s14, s15, s16, s17, s18, s19, s20]) rfl ?_
     exact ⟨(⟨4, ch, hv, 0, ⟨pp.s, pp.k, pp.f, pp.t, (1 + p11), pp.u, pp.v⟩⟩ : Ev), rfl, (HPL.out.rd.keeps kS fun b hb h => by rcases h with h | h <;> omega).more (by omega), HK.out.then kS fun i hi h => by rcases h with h | h <;> omega⟩
    ·have e3e : (p10 == 0) = false := by simp [h3e]
     have hb := HBk.out
     obtain ⟨k0, k1, k2, k3, k4, k5, k6⟩ := hb.cells7
     obtain ⟨kf0, kf1, kf2, kf3, kf4, kf5, kf6⟩ := hb.fz7
     have zk := hb.lt
     clear hb
     have hb := HBr.out
     obtain ⟨r0, r1, r2, r3, r4, r5, r6, r7, r8, r9, r10⟩ := hb.cells11
     obtain ⟨rf0, rf1, rf2, rf3, rf4, rf5, rf6, rf7, rf8, rf9, rf10⟩ := hb.fz11
     have zr := hb.lt
     clear hb
     go_wp2
     have kS := evW_keeps w10 (w.heap.size + 1) (⟨4, ch, hv, 0, ⟨pp.s, pp.k, pp.f, pp.t, pp.m, pp.u, pp.v⟩⟩ : Ev)
     obtain ⟨s10, s11, s12, s13, s14, s15, s16, s17, s18, s19, s20⟩ := evW_cells HBr.out (⟨4, ch, hv, 0, ⟨pp.s, pp.k, pp.f, pp.t, pp.m, pp.u, pp.v⟩⟩ : Ev)
     change bodyPost _ _ _ _ _ (evW w10 (w.heap.size + 1) (⟨4, ch, hv, 0, ⟨pp.s, pp.k, pp.f, pp.t, pp.m, pp.u, pp.v⟩⟩ : Ev))
     generalize evW w10 (w.heap.size + 1) (⟨4, ch, hv, 0, ⟨pp.s, pp.k, pp.f, pp.t, pp.m, pp.u, pp.v⟩⟩ : Ev) = WF at kS s10 s11 s12 s13 s14 s15 s16 s17 s18 s19 s20 ⊢
     refine bodyPost_ret (v := Ev.val (⟨4, ch, hv, 0, ⟨pp.s, pp.k, pp.f, pp.t, pp.m, pp.u, pp.v⟩⟩ : Ev)) (by simp [results, Tryd.results80, go_sem, Ev.val, s10, s11, s12, s13, s14, s15, s16, s17, s18, s19, s20]) rfl ?_
     exact ev_end (⟨4, ch, hv, 0, ⟨pp.s, pp.k, pp.f, pp.t, pp.m, pp.u, pp.v⟩⟩ : Ev) HPL.out.rd (by omega) HK.out kS (by omega) (by omega)
  ·have e3c : ((p6 == 0) && decide ((0 : Int) < (ot.st.x.sent.length : Int))) = false := by
    rw [Bool.eq_false_iff]; intro h9; rw [Bool.and_eq_true, decide_eq_true_eq] at h9; exact h3c ⟨by simpa using h9.1, by omega⟩
   clear e3c
   by_cases h3d : p6 = 0
   ·have hs0 : ot.st.x.sent.length = 0 := by have := h3c; omega
    have e3c : (p6 == 0) = true := by simp [h3d]
    have hd : decide ((0 : Int) < (ot.st.x.sent.length : Int)) = false := decide_eq_false (by omega)
    have hdn : decide (0 < ot.st.x.sent.length) = false := decide_eq_false (by omega)
    have hb := HBo.out
    have o7 := hb.cell 7
    simp at o7
    have zo := hb.lt
    clear hb
    go_wp2_with fail
    refine (pick_any g (lim + 6) 3 _ HPL.out.rd (by omega) (by omega) (by omega)).mono ?_
    rintro e w7 ⟨p7, rfl, a7, b7, hrd, hk⟩
    clear o7 zo
    replace HBv := hH (HBv.out.keeps hk (nq (by omega)))
    replace HBr := hH (HBr.out.keeps hk (nq (by omega)))
    replace HBc := hH (HBc.out.keeps hk (nq (by omega)))
    replace HBo := hH (HBo.out.keeps hk (nq (by omega)))
    replace HK := hH (HK.out.trans hk)
    replace HPL := hH (HPL.out.one hk (hrd.more (lim' := lim + 7) (by omega)))
    have sz7 := hk.size
    (try simp at sz7)
    clear hrd hk
    go_wp2_with fail
    refine (pick_any g (lim + 7) 4 _ HPL.out.rd (by omega) (by omega) (by omega)).mono ?_
    rintro e w8 ⟨p8, rfl, a8, b8, hrd, hk⟩
    replace HBv := hH (HBv.out.keeps hk (nq (by omega)))
    replace HBr := hH (HBr.out.keeps hk (nq (by omega)))
    replace HBc := hH (HBc.out.keeps hk (nq (by omega)))
    replace HBo := hH (HBo.out.keeps hk (nq (by omega)))
    replace HK := hH (HK.out.trans hk)
    replace HPL := hH (HPL.out.one hk (hrd.more (lim' := lim + 8) (by omega)))
    have sz8 := hk.size
    (try simp at sz8)
    clear hrd hk
    have hb := HBr.out
    obtain ⟨r0, r1, r2, r3, r4, r5, r6, r7, r8, r9, r10⟩ := hb.cells11
    obtain ⟨rf0, rf1, rf2, rf3, rf4, rf5, rf6, rf7, rf8, rf9, rf10⟩ := hb.fz11
    have zr := hb.lt
    clear hb
    go_wp2
    have kS := evW_keeps w8 (w.heap.size + 1) (⟨(6 + p7 - 1), ch, hv, (1 + p8), ⟨0, 0, 0, 0, 0, 0, 0⟩⟩ : Ev)
    obtain ⟨s10, s11, s12, s13, s14, s15, s16, s17, s18, s19, s20⟩ := evW_cells HBr.out (⟨(6 + p7 - 1), ch, hv, (1 + p8), ⟨0, 0, 0, 0, 0, 0, 0⟩⟩ : Ev)
    change bodyPost _ _ _ _ _ (evW w8 (w.heap.size + 1) (⟨(6 + p7 - 1), ch, hv, (1 + p8), ⟨0, 0, 0, 0, 0, 0, 0⟩⟩ : Ev))
    generalize evW w8 (w.heap.size + 1) (⟨(6 + p7 - 1), ch, hv, (1 + p8), ⟨0, 0, 0, 0, 0, 0, 0⟩⟩ : Ev) = WF at kS s10 s11 s12 s13 s14 s15 s16 s17 s18 s19 s20 ⊢
    refine bodyPost_ret (v := Ev.val (⟨(6 + p7 - 1), ch, hv, (1 + p8), ⟨0, 0, 0, 0, 0, 0, 0⟩⟩ : Ev)) (by simp [results, Tryd.results80, go_sem, Ev.val, s10, s11, s12, s13, s14, s15, s16, s17, s18, s19, s20]) rfl ?_
    exact ev_end (⟨(6 + p7 - 1), ch, hv, (1 + p8), ⟨0, 0, 0, 0, 0, 0, 0⟩⟩ : Ev) HPL.out.rd (by omega) HK.out kS (by omega) (by omega)
   ·have e3c : (p6 == 0) = false := by simp [h3d]
    have hb := HBo.out
    have o7 := hb.cell 7
    simp at o7
    have zo := hb.lt
    clear hb
    go_wp2_with fail
    refine (pick_any g (lim + 6) 3 _ HPL.out.rd (by omega) (by omega) (by omega)).mono ?_
    rintro e w7 ⟨p7, rfl, a7, b7, hrd, hk⟩
    clear o7 zo
    replace HBv := hH (HBv.out.keeps hk (nq (by omega)))
    replace HBr := hH (HBr.out.keeps hk (nq (by omega)))
    replace HBc := hH (HBc.out.keeps hk (nq (by omega)))
    replace HBo := hH (HBo.out.keeps hk (nq (by omega)))
    replace HK := hH (HK.out.trans hk)
    replace HPL := hH (HPL.out.one hk (hrd.more (lim' := lim + 7) (by omega)))
    have sz7 := hk.size
    (try simp at sz7)
    clear hrd hk
    go_wp2_with fail
    refine (pick_any g (lim + 7) 4 _ HPL.out.rd (by omega) (by omega) (by omega)).mono ?_
    rintro e w8 ⟨p8, rfl, a8, b8, hrd, hk⟩
    replace HBv := hH (HBv.out.keeps hk (nq (by omega)))
    replace HBr := hH (HBr.out.keeps hk (nq (by omega)))
    replace HBc := hH (HBc.out.keeps hk (nq (by omega)))
    replace HBo := hH (HBo.out.keeps hk (nq (by omega)))
    replace HK := hH (HK.out.trans hk)
    replace HPL := hH (HPL.out.one hk (hrd.more (lim' := lim + 8) (by omega)))
    have sz8 := hk.size
    (try simp at sz8)
    clear hrd hk
    have hb := HBr.out
    obtain ⟨r0, r1, r2, r3, r4, r5, r6, r7, r8, r9, r10⟩ := hb.cells11
    obtain ⟨rf0, rf1, rf2, rf3, rf4, rf5, rf6, rf7, rf8, rf9, rf10⟩ := hb.fz11
    have zr := hb.lt
    clear hb
    go_wp2
    have kS := evW_keeps w8 (w.heap.size + 1) (⟨(6 + p7 - 1), ch, hv, (1 + p8), ⟨0, 0, 0, 0, 0, 0, 0⟩⟩ : Ev)
    obtain ⟨s10, s11, s12, s13, s14, s15, s16, s17, s18, s19, s20⟩ := evW_cells HBr.out (⟨(6 + p7 - 1), ch, hv, (1 + p8), ⟨0, 0, 0, 0, 0, 0, 0⟩⟩ : Ev)
    change bodyPost _ _ _ _ _ (evW w8 (w.heap.size + 1) (⟨(6 + p7 - 1), ch, hv, (1 + p8), ⟨0, 0, 0, 0, 0, 0, 0⟩⟩ : Ev))
    generalize evW w8 (w.heap.size + 1) (⟨(6 + p7 - 1), ch, hv, (1 + p8), ⟨0, 0, 0, 0, 0, 0, 0⟩⟩ : Ev) = WF at kS s10 s11 s12 s13 s14 s15 s16 s17 s18 s19 s20 ⊢
    refine bodyPost_ret (v := Ev.val (⟨(6 + p7 - 1), ch, hv, (1 + p8), ⟨0, 0, 0, 0, 0, 0, 0⟩⟩ : Ev)) (by simp [results, Tryd.results80, go_sem, Ev.val, s10, s11, s12, s13, s14, s15, s16, s17, s18, s19, s20]) rfl ?_
    exact ev_end (⟨(6 + p7 - 1), ch, hv, (1 + p8), ⟨0, 0, 0, 0, 0, 0, 0⟩⟩ : Ev) HPL.out.rd (by omega) HK.out kS (by omega) (by omega)
end Go.Proofs.YtjcbeihoeanhaaaDoor
