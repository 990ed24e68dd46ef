/- l71Event of the model: some event; only the reader turns. -/
import Derived.Test.YtjcbeihoeanhaaaDoorPlE4B
import Derived.Test.YtjcbeihoeanhaaaDoorPlE9B
set_option maxRecDepth 100000
set_option maxHeartbeats 64000000
set_option linter.unusedVariables false
set_option linter.unusedSimpArgs false
namespace Go.Proofs.YtjcbeihoeanhaaaDoor
open Go.RowKit

theorem l71Event_any (G : Nat → Nat) (m : WdM) (g : Nat) (lim : Int) (q n0 : Nat) (w : World) (h : Pl G w m g lim q n0) (hl : lim ≤ 1000000) (hq : q ≤ 1000) :
  Calls Tryd.prog 80 #[.pointer (some ⟨g, 0, none⟩), m.val] w (RetEv w g lim) := by
 have hgn : g < w.heap.size := Nat.lt_of_lt_of_le h.lt h.le; have hng := h.ng; have HOKK := hH h.ok; have HNZ := hH h.nz; have hlg := h.wd.1.lt; have HBv := hH ((Box.new w _ rfl 87 #[.slice (some ⟨m.g, 0, none⟩) 2 2]).alloc (.cells zC11 102)); have HBr := hH (Box.new (w.alloc (.cells #[.slice (some ⟨m.g, 0, none⟩) 2 2] 87)) (w.heap.size + 1) (by simp) 102 zC11); have HK := hH (((Keeps.refl (one g) w).alloc (.cells #[.slice (some ⟨m.g, 0, none⟩) 2 2] 87)).alloc (.cells zC11 102)); have HPL := hH ((h.kept (((Keeps.refl noBlk w).alloc (.cells #[.slice (some ⟨m.g, 0, none⟩) 2 2] 87)).alloc (.cells zC11 102))).more (lim' := lim + 0) (Nat.le_refl _) (by omega))
 have sz0 : w.heap.size + 2 = ((w.alloc (.cells #[.slice (some ⟨m.g, 0, none⟩) 2 2] 87)).alloc (.cells zC11 102)).heap.size := by simp
 clear h; unfold WdM.val
 go_enter Tryd.func80, Tryd.ntmps80
 go_wp2_with fail; generalize (w.alloc (.cells #[.slice (some ⟨m.g, 0, none⟩) 2 2] 87)).alloc (.cells zC11 102) = w0 at HBv HBr HK HPL sz0 ⊢; refine (pick_any g (lim + 0) 2 _ HPL.out.rd (by omega) (by omega) (by omega)).mono ?_; rintro e w1 ⟨p1, rfl, a1, b1, hrd, hk⟩; replace HBv := hH (HBv.out.keeps hk (nq (by omega))); replace HBr := hH (HBr.out.keeps hk (nq (by omega))); replace HK := hH (HK.out.trans hk); replace HPL := hH (HPL.out.one hk (hrd.more (lim' := lim + 1) (by omega))); have sz1 := hk.size
 (try simp at sz1)
 clear hrd hk; have hx5 : IntKind.i64.wrap (1 + p1) = 1 + p1 := IntWalk.i64_in _ (by omega)
 go_upto_region 2 with fail
 have hch : 1 + p1 = 1 ∨ 1 + p1 = 2 := by omega
 generalize 1 + p1 = ch at hch hx5 ⊢; clear hx5
 go_cut [6] from 17 to 22 (fun x6 wx => ∃ me ot : ChM, x6 = .pointer (some ⟨w1.heap.size, 0, none⟩) ∧ ((ch = 1 ∧ me = m.a ∧ ot = m.b) ∨ (ch = 2 ∧ me = m.b ∧ ot = m.a)) ∧ wx.heap.size = w1.heap.size + 1 ∧ Pl G wx m g (lim + 1) q n0 ∧ Box wx (w.heap.size) 87 #[.slice (some ⟨m.g, 0, none⟩) 2 2] ∧ Box wx (w.heap.size + 1) 102 zC11 ∧ Box wx (w1.heap.size) 94 (chC me) ∧ Keeps (one g) w wx)
 case first =>
  have hb := HBv.out; have v0 := hb.cell 0; simp at v0; have zv := hb.lt; clear hb; have hbm := HPL.out.wd.1
  have y0 : w1.cell? ⟨m.g, 0, none⟩ = some (.int .i64 m.a.id) := by rw [hbm.cell 0]; rfl
  have y1 : w1.cell? ⟨m.g, 1, none⟩ = some (.slice m.a.bk.A1 m.a.bk.b.own.length m.a.bk.c1) := by rw [hbm.cell 1]; rfl
  have y2 : w1.cell? ⟨m.g, 2, none⟩ = some (.slice m.a.bk.A2 m.a.bk.b.notes.length m.a.bk.c2) := by rw [hbm.cell 2]; rfl
  have y3 : w1.cell? ⟨m.g, 3, none⟩ = some (.int .i64 m.a.bk.b.locked) := by rw [hbm.cell 3]; rfl
  have y4 : w1.cell? ⟨m.g, 4, none⟩ = some (.int .i64 m.a.st.x.way) := by rw [hbm.cell 4]; rfl
  have y5 : w1.cell? ⟨m.g, 5, none⟩ = some (.int .i64 m.a.st.x.ver) := by rw [hbm.cell 5]; rfl
  have y6 : w1.cell? ⟨m.g, 6, none⟩ = some (.int .i64 m.a.st.x.want) := by rw [hbm.cell 6]; rfl
  have y7 : w1.cell? ⟨m.g, 7, none⟩ = some (.slice m.a.st.A1 m.a.st.x.sent.length m.a.st.c1) := by rw [hbm.cell 7]; rfl
  have y8 : w1.cell? ⟨m.g, 8, none⟩ = some (.slice m.a.st.A2 m.a.st.x.live.length m.a.st.c2) := by rw [hbm.cell 8]; rfl
  have y9 : w1.cell? ⟨m.g, 9, none⟩ = some (.slice m.a.st.A3 m.a.st.x.back.length m.a.st.c3) := by rw [hbm.cell 9]; rfl
  have y10 : w1.cell? ⟨m.g, 10, none⟩ = some (.slice m.a.st.A4 m.a.st.x.got.length m.a.st.c4) := by rw [hbm.cell 10]; rfl
  have y11 : w1.cell? ⟨m.g, 11, none⟩ = some (.slice m.a.pA m.a.past.length m.a.pc) := by rw [hbm.cell 11]; rfl
  have y12 : w1.cell? ⟨m.g, 12, none⟩ = some (.slice m.a.kA m.a.knows.length m.a.kc) := by rw [hbm.cell 12]; rfl
  have y13 : w1.cell? ⟨m.g, 13, none⟩ = some (.int .i64 m.b.id) := by rw [hbm.cell 13]; rfl
  have y14 : w1.cell? ⟨m.g, 14, none⟩ = some (.slice m.b.bk.A1 m.b.bk.b.own.length m.b.bk.c1) := by rw [hbm.cell 14]; rfl
  have y15 : w1.cell? ⟨m.g, 15, none⟩ = some (.slice m.b.bk.A2 m.b.bk.b.notes.length m.b.bk.c2) := by rw [hbm.cell 15]; rfl
  have y16 : w1.cell? ⟨m.g, 16, none⟩ = some (.int .i64 m.b.bk.b.locked) := by rw [hbm.cell 16]; rfl
  have y17 : w1.cell? ⟨m.g, 17, none⟩ = some (.int .i64 m.b.st.x.way) := by rw [hbm.cell 17]; rfl
  have y18 : w1.cell? ⟨m.g, 18, none⟩ = some (.int .i64 m.b.st.x.ver) := by rw [hbm.cell 18]; rfl
  have y19 : w1.cell? ⟨m.g, 19, none⟩ = some (.int .i64 m.b.st.x.want) := by rw [hbm.cell 19]; rfl
  have y20 : w1.cell? ⟨m.g, 20, none⟩ = some (.slice m.b.st.A1 m.b.st.x.sent.length m.b.st.c1) := by rw [hbm.cell 20]; rfl
  have y21 : w1.cell? ⟨m.g, 21, none⟩ = some (.slice m.b.st.A2 m.b.st.x.live.length m.b.st.c2) := by rw [hbm.cell 21]; rfl
  have y22 : w1.cell? ⟨m.g, 22, none⟩ = some (.slice m.b.st.A3 m.b.st.x.back.length m.b.st.c3) := by rw [hbm.cell 22]; rfl
  have y23 : w1.cell? ⟨m.g, 23, none⟩ = some (.slice m.b.st.A4 m.b.st.x.got.length m.b.st.c4) := by rw [hbm.cell 23]; rfl
  have y24 : w1.cell? ⟨m.g, 24, none⟩ = some (.slice m.b.pA m.b.past.length m.b.pc) := by rw [hbm.cell 24]; rfl
  have y25 : w1.cell? ⟨m.g, 25, none⟩ = some (.slice m.b.kA m.b.knows.length m.b.kc) := by rw [hbm.cell 25]; rfl
  have lg1 := hbm.lt; clear hbm
  have : ¬ m.g = w1.heap.size := by omega
  have : m.g < w1.heap.size + 1 := by omega
  have : ¬ w.heap.size = w1.heap.size := by omega
  have : w.heap.size < w1.heap.size + 1 := by omega
  rcases hch with rfl | rfl
  ·go_wp2_with fail
   go_meet
   exact ⟨m.a, m.b, rfl, .inl ⟨by first | rfl | trivial, by first | rfl | trivial, by first | rfl | trivial⟩, by simp, HPL.out.kept ((Keeps.refl noBlk w1).alloc (.cells (chC m.a) 94)), HBv.out.alloc (.cells (chC m.a) 94), HBr.out.alloc (.cells (chC m.a) 94), Box.new w1 _ rfl 94 (chC m.a), HK.out.alloc (.cells (chC m.a) 94)⟩
  ·go_wp2_with fail
   go_meet
   exact ⟨m.b, m.a, rfl, .inr ⟨by first | rfl | trivial, by first | rfl | trivial, by first | rfl | trivial⟩, by simp, HPL.out.kept ((Keeps.refl noBlk w1).alloc (.cells (chC m.b) 94)), HBv.out.alloc (.cells (chC m.b) 94), HBr.out.alloc (.cells (chC m.b) 94), Box.new w1 _ rfl 94 (chC m.b), HK.out.alloc (.cells (chC m.b) 94)⟩
 case rest =>
  obtain ⟨me, ot, rfl, hwho, hsA, hpl, hbv, hbr, hbc, hkk⟩ := hcut; clear HPL HBv HBr HK; have HPL := hH hpl; have HBv := hH hbv; have HBr := hH hbr; have HBc := hH hbc; have HK := hH hkk; have HSA := hH hsA; clear hpl hbv hbr hbc hkk hsA; obtain ⟨wA, hww⟩ : ∃ x, x = wc := ⟨_, rfl⟩; subst hww
  go_upto_region 3 with fail
  go_cut [7] from 23 to 28 (fun x7 wx => x7 = .pointer (some ⟨w1.heap.size + 1, 0, none⟩) ∧ Pl G wx m g (lim + 1) q n0 ∧ Box wx (w.heap.size) 87 #[.slice (some ⟨m.g, 0, none⟩) 2 2] ∧ Box wx (w.heap.size + 1) 102 zC11 ∧ Box wx (w1.heap.size) 94 (chC me) ∧ Box wx (w1.heap.size + 1) 94 (chC ot) ∧ Keeps (one g) w wx)
  case first =>
   have lw1 : w.heap.size + 2 ≤ wA.heap.size := by have := HSA.out; omega
   have hb := HBv.out; have v0 := hb.cell 0; simp at v0; have zv := hb.lt; clear hb; have hbm := HPL.out.wd.1
   have y0 : wA.cell? ⟨m.g, 0, none⟩ = some (.int .i64 m.a.id) := by rw [hbm.cell 0]; rfl
   have y1 : wA.cell? ⟨m.g, 1, none⟩ = some (.slice m.a.bk.A1 m.a.bk.b.own.length m.a.bk.c1) := by rw [hbm.cell 1]; rfl
   have y2 : wA.cell? ⟨m.g, 2, none⟩ = some (.slice m.a.bk.A2 m.a.bk.b.notes.length m.a.bk.c2) := by rw [hbm.cell 2]; rfl
   have y3 : wA.cell? ⟨m.g, 3, none⟩ = some (.int .i64 m.a.bk.b.locked) := by rw [hbm.cell 3]; rfl
   have y4 : wA.cell? ⟨m.g, 4, none⟩ = some (.int .i64 m.a.st.x.way) := by rw [hbm.cell 4]; rfl
   have y5 : wA.cell? ⟨m.g, 5, none⟩ = some (.int .i64 m.a.st.x.ver) := by rw [hbm.cell 5]; rfl
   have y6 : wA.cell? ⟨m.g, 6, none⟩ = some (.int .i64 m.a.st.x.want) := by rw [hbm.cell 6]; rfl
   have y7 : wA.cell? ⟨m.g, 7, none⟩ = some (.slice m.a.st.A1 m.a.st.x.sent.length m.a.st.c1) := by rw [hbm.cell 7]; rfl
   have y8 : wA.cell? ⟨m.g, 8, none⟩ = some (.slice m.a.st.A2 m.a.st.x.live.length m.a.st.c2) := by rw [hbm.cell 8]; rfl
   have y9 : wA.cell? ⟨m.g, 9, none⟩ = some (.slice m.a.st.A3 m.a.st.x.back.length m.a.st.c3) := by rw [hbm.cell 9]; rfl
   have y10 : wA.cell? ⟨m.g, 10, none⟩ = some (.slice m.a.st.A4 m.a.st.x.got.length m.a.st.c4) := by rw [hbm.cell 10]; rfl
   have y11 : wA.cell? ⟨m.g, 11, none⟩ = some (.slice m.a.pA m.a.past.length m.a.pc) := by rw [hbm.cell 11]; rfl
   have y12 : wA.cell? ⟨m.g, 12, none⟩ = some (.slice m.a.kA m.a.knows.length m.a.kc) := by rw [hbm.cell 12]; rfl
   have y13 : wA.cell? ⟨m.g, 13, none⟩ = some (.int .i64 m.b.id) := by rw [hbm.cell 13]; rfl
   have y14 : wA.cell? ⟨m.g, 14, none⟩ = some (.slice m.b.bk.A1 m.b.bk.b.own.length m.b.bk.c1) := by rw [hbm.cell 14]; rfl
   have y15 : wA.cell? ⟨m.g, 15, none⟩ = some (.slice m.b.bk.A2 m.b.bk.b.notes.length m.b.bk.c2) := by rw [hbm.cell 15]; rfl
   have y16 : wA.cell? ⟨m.g, 16, none⟩ = some (.int .i64 m.b.bk.b.locked) := by rw [hbm.cell 16]; rfl
   have y17 : wA.cell? ⟨m.g, 17, none⟩ = some (.int .i64 m.b.st.x.way) := by rw [hbm.cell 17]; rfl
   have y18 : wA.cell? ⟨m.g, 18, none⟩ = some (.int .i64 m.b.st.x.ver) := by rw [hbm.cell 18]; rfl
   have y19 : wA.cell? ⟨m.g, 19, none⟩ = some (.int .i64 m.b.st.x.want) := by rw [hbm.cell 19]; rfl
   have y20 : wA.cell? ⟨m.g, 20, none⟩ = some (.slice m.b.st.A1 m.b.st.x.sent.length m.b.st.c1) := by rw [hbm.cell 20]; rfl
   have y21 : wA.cell? ⟨m.g, 21, none⟩ = some (.slice m.b.st.A2 m.b.st.x.live.length m.b.st.c2) := by rw [hbm.cell 21]; rfl
   have y22 : wA.cell? ⟨m.g, 22, none⟩ = some (.slice m.b.st.A3 m.b.st.x.back.length m.b.st.c3) := by rw [hbm.cell 22]; rfl
   have y23 : wA.cell? ⟨m.g, 23, none⟩ = some (.slice m.b.st.A4 m.b.st.x.got.length m.b.st.c4) := by rw [hbm.cell 23]; rfl
   have y24 : wA.cell? ⟨m.g, 24, none⟩ = some (.slice m.b.pA m.b.past.length m.b.pc) := by rw [hbm.cell 24]; rfl
   have y25 : wA.cell? ⟨m.g, 25, none⟩ = some (.slice m.b.kA m.b.knows.length m.b.kc) := by rw [hbm.cell 25]; rfl
   have lg1 := hbm.lt; clear hbm
   have : ¬ m.g = wA.heap.size := by omega
   have : m.g < wA.heap.size + 1 := by omega
   have : ¬ w.heap.size = wA.heap.size := by omega
   have : w.heap.size < wA.heap.size + 1 := by omega
   have HSB : Hid (w1.heap.size + 1 = wA.heap.size) := hH HSA.out.symm
   rcases hwho with ⟨rfl, rfl, rfl⟩ | ⟨rfl, rfl, rfl⟩
   ·go_wp2_with fail
    go_meet
    exact ⟨by rw [HSB.out], HPL.out.kept ((Keeps.refl noBlk wA).alloc (.cells (chC m.b) 94)), HBv.out.alloc (.cells (chC m.b) 94), HBr.out.alloc (.cells (chC m.b) 94), HBc.out.alloc (.cells (chC m.b) 94), Box.new wA (w1.heap.size + 1) HSB.out 94 (chC m.b), HK.out.alloc (.cells (chC m.b) 94)⟩
   ·go_wp2_with fail
    go_meet
    exact ⟨by rw [HSB.out], HPL.out.kept ((Keeps.refl noBlk wA).alloc (.cells (chC m.a) 94)), HBv.out.alloc (.cells (chC m.a) 94), HBr.out.alloc (.cells (chC m.a) 94), HBc.out.alloc (.cells (chC m.a) 94), Box.new wA (w1.heap.size + 1) HSB.out 94 (chC m.a), HK.out.alloc (.cells (chC m.a) 94)⟩
  case rest =>
   obtain ⟨rfl, hpl, hbv, hbr, hbc, hbo, hkk⟩ := hcut
   have hat : (∀ W l, Pl G W m g l q n0 → ChAt W me ∧ ChAt W ot) ∧ me.knows.length ≤ q ∧ ot.past.length ≤ 90 ∧ stB ot.st.x = true := by
    rcases hwho with ⟨_, rfl, rfl⟩ | ⟨_, rfl, rfl⟩
    ·exact ⟨fun W l hp => ⟨hp.at_a, hp.at_b⟩, HOKK.out.ka, HOKK.out.b.pl, HOKK.out.b.st⟩
    ·exact ⟨fun W l hp => ⟨hp.at_b, hp.at_a⟩, HOKK.out.kb, HOKK.out.a.pl, HOKK.out.a.st⟩
   obtain ⟨hat, lka, hpo, hpS⟩ := hat; have hse := st_fits hpS; clear hpS hwho HPL HBv HBr HK HBc; have HPL := hH hpl; have HBv := hH hbv; have HBr := hH hbr; have HBc := hH hbc; have HBo := hH hbo; have HK := hH hkk; have HAT := hH hat
   have hw9 : w.heap.size + 2 ≤ w1.heap.size := by omega
   have sz2 := hbo.lt; clear hpl hbv hbr hbc hbo hkk hat HSA; obtain ⟨w2, hww⟩ : ∃ x, x = wc := ⟨_, rfl⟩; subst hww; have hb := HBc.out; have c12 := hb.cell 12; simp at c12; have zc := hb.lt; clear hb; have hb := HBo.out; have o11 := hb.cell 11; simp at o11; have zo := hb.lt; clear hb
   go_upto_if 35 with fail
   clear c12 zc o11 zo
   go_cut [8] from 14 to 55 (fun x wx => ∃ hv : Int, x = .int .i64 hv ∧ Pl G wx m g (lim + 3) q n0 ∧ Box wx (w.heap.size) 87 #[.slice (some ⟨m.g, 0, none⟩) 2 2] ∧ Box wx (w.heap.size + 1) 102 zC11 ∧ Box wx (w1.heap.size) 94 (chC me) ∧ Box wx (w1.heap.size + 1) 94 (chC ot) ∧ Keeps (one g) w wx)
   case first =>
    by_cases hkz : me.knows.length = 0
    ·have hd : decide ((0 : Int) < (me.knows.length : Int)) = false := decide_eq_false (by omega)
     have hdn : decide (0 < me.knows.length) = false := decide_eq_false (by omega)
     have hdp : ¬ 0 < me.knows.length := by omega
     have hdq : ¬ (0 : Int) < (me.knows.length : Int) := by omega
     have HKZ := hH hkz; clear hkz; have hb := HBc.out; have c12 := hb.cell 12; simp at c12; have zc := hb.lt; clear hb; have hb := HBo.out; have o11 := hb.cell 11; simp at o11; have zo := hb.lt; clear hb; go_wp2_with fail
     go_meet
     exact ⟨(ot.past.length : Int), rfl, HPL.out.more (Nat.le_refl _) (by omega), HBv.out, HBr.out, HBc.out, HBo.out, HK.out⟩
    ·have hd : decide ((0 : Int) < (me.knows.length : Int)) = true := decide_eq_true (by omega)
     have hdn : decide (0 < me.knows.length) = true := decide_eq_true (by omega)
     have hdp : 0 < me.knows.length := by omega
     have hdq : (0 : Int) < (me.knows.length : Int) := by omega
     clear hkz; obtain ⟨k9, hk9⟩ : ∃ k, me.knows.length = k + 1 := ⟨me.knows.length - 1, by omega⟩; obtain ⟨bb, off, eA, hbb⟩ := (HAT.out _ _ HPL.out).1.knows.addr (by omega)
     have hwk : IntKind.i64.wrap ((me.knows.length : Int) - 1) = (k9 : Int) := by rw [show (me.knows.length : Int) - 1 = (k9 : Int) by omega]; exact IntWalk.i64_in _ (by omega)
     have hlk : (me.knows.length : Int) - 1 = (k9 : Int) := by omega
     have hik : (k9 : Int) < (me.knows.length : Int) := by omega
     have hkl : k9 < me.knows.length := by omega
     clear hk9; have HD := hH (fun (W : World) (hp : Ints W me.kA me.knows.length me.knows) (k : Nat) (hk : k < me.knows.length) => (show W.cell? ⟨bb, off + k, none⟩ = some (.int .i64 (me.knows.getD k 0)) from by rw [eA] at hp; exact hp.at2 hk)); have D9 := HD.out _ (HAT.out _ _ HPL.out).1.knows k9 (by omega); have hb := HBc.out; have c12 := hb.cell 12; simp at c12; have zc := hb.lt; clear hb; rw [eA] at c12; go_wp2_with fail; clear D9; refine (pick_any g (lim + 1) 6 _ HPL.out.rd (by omega) (by omega) (by omega)).mono ?_; rintro e w3 ⟨p3, rfl, a3, b3, hrd, hk⟩; clear c12 zc; replace HBv := hH (HBv.out.keeps hk (nq (by omega))); replace HBr := hH (HBr.out.keeps hk (nq (by omega))); replace HBc := hH (HBc.out.keeps hk (nq (by omega))); replace HBo := hH (HBo.out.keeps hk (nq (by omega))); replace HK := hH (HK.out.trans hk); replace HPL := hH (HPL.out.one hk (hrd.more (lim' := lim + 2) (by omega))); have sz3 := hk.size
     (try simp at sz3)
     clear hrd hk
     by_cases h6 : p3 = 0
     ·have h6b : (p3 == 0) = true := by simp [h6]
      have hb := HBc.out; have c12 := hb.cell 12; simp at c12; have zc := hb.lt; clear hb; rw [eA] at c12; go_wp2_with fail
      go_region_with (go_at_call 43; refine (pick_any g (lim + 2) _ _ (HPL.out.rd.drewN 1) (by omega) (by omega) (by omega)).mono ?_; rintro e w4 ⟨p4, rfl, a4, b4, hrd, hk⟩; have hq := ((Keeps.refl (one g) w3).drewN 1).trans hk; have HQ9 := hH hq; obtain ⟨pn, rfl⟩ := Int.eq_ofNat_of_zero_le a4; have HPL4 := hH (HPL.out.one hq (hrd.more (lim' := lim + 3) (by omega))); have D4 := HD.out _ (HAT.out _ _ HPL4.out).1.knows pn (by omega); have hb4 := HBc.out.keeps hq (nq (by omega)); have c12' := hb4.cell 12; simp at c12'; rw [eA] at c12'; have zc' := hb4.lt; have hip : (pn : Int) < (me.knows.length : Int) := (by omega); clear hrd hk hb4 hq)
      all_goals
       go_wp2_with fail
       go_meet
       exact ⟨_, rfl, HPL4.out, HBv.out.keeps HQ9.out (nq (by omega)), HBr.out.keeps HQ9.out (nq (by omega)), HBc.out.keeps HQ9.out (nq (by omega)), HBo.out.keeps HQ9.out (nq (by omega)), HK.out.trans HQ9.out⟩
     ·have h6b : (p3 == 0) = false := by simp [h6]
      go_wp2_with fail
      go_meet
      exact ⟨_, rfl, HPL.out.more (Nat.le_refl _) (by omega), HBv.out, HBr.out, HBc.out, HBo.out, HK.out⟩
   case rest =>
    obtain ⟨hv, rfl, hpl, hbv, hbr, hbc, hbo, hkk⟩ := hcut; clear HPL HBv HBr HBc HBo HK; have HPL := hH hpl; have HBv := hH hbv; have HBr := hH hbr; have HBc := hH hbc; have HBo := hH hbo; have HK := hH hkk
    have szc : w1.heap.size + 2 ≤ wc.heap.size := by have := HBo.out.lt; omega
    clear hpl hbv hbr hbc hbo hkk; obtain ⟨w3, hw3⟩ : ∃ x, x = wc := ⟨_, rfl⟩; subst hw3; go_wp2_with fail; refine (pick_any g (lim + 3) 12 _ HPL.out.rd (by omega) (by omega) (by omega)).mono ?_; rintro e w4 ⟨p4, rfl, a4, b4, hrd, hk⟩; replace HBv := hH (HBv.out.keeps hk (nq (by omega))); replace HBr := hH (HBr.out.keeps hk (nq (by omega))); replace HBc := hH (HBc.out.keeps hk (nq (by omega))); replace HBo := hH (HBo.out.keeps hk (nq (by omega))); replace HK := hH (HK.out.trans hk); replace HPL := hH (HPL.out.one hk (hrd.more (lim' := lim + 4) (by omega))); have sz4 := hk.size
    (try simp at sz4)
    clear hrd hk
    go_upto_block 0 with fail
    go_cut [8] from 9 to 184 (fun x wx => ∃ hv : Int, x = .int .i64 hv ∧ Pl G wx m g (lim + 9) q n0 ∧ Box wx (w.heap.size) 87 #[.slice (some ⟨m.g, 0, none⟩) 2 2] ∧ Box wx (w.heap.size + 1) 102 zC11 ∧ Box wx (w1.heap.size) 94 (chC me) ∧ Box wx (w1.heap.size + 1) 94 (chC ot) ∧ Keeps (one g) w wx)
    case first =>
     have hx9 : (p4 = 0 ∨ p4 = 1) ∨ (p4 = 2 ∨ p4 = 3) ∨ (p4 = 4 ∨ p4 = 5) ∨ (p4 = 6 ∨ p4 = 7 ∨ p4 = 8) ∨ (p4 = 9) ∨ (10 ≤ p4) := by omega
     rcases hx9 with hx9 | hx9 | hx9 | hx9 | hx9 | hx9
     ·exact evc0 _ _ _ _ _ _ _ _ _ _ _ _ _ _ _ _ _ _ _ _ _ _ _ _ _ _ _ _ _ _ _ _ _ _ _ _ _ _ _ _ _ _ (by omega) (by omega) hgn hng HNZ.out hlg hch (by omega) (by omega) (by omega) HAT.out (by omega) (by omega) (by omega) (by omega) HBv.out HBr.out HBc.out HBo.out HK.out HPL.out (by assumption) (by assumption) hx9
     ·exact evc2 _ _ _ _ _ _ _ _ _ _ _ _ _ _ _ _ _ _ _ _ _ _ _ _ _ _ _ _ _ _ _ _ _ _ _ _ _ _ _ _ _ _ (by omega) (by omega) hgn hng HNZ.out hlg hch (by omega) (by omega) (by omega) HAT.out (by omega) (by omega) (by omega) (by omega) HBv.out HBr.out HBc.out HBo.out HK.out HPL.out (by assumption) (by assumption) hx9
     ·exact evc4 _ _ _ _ _ _ _ _ _ _ _ _ _ _ _ _ _ _ _ _ _ _ _ _ _ _ _ _ _ _ _ _ _ _ _ _ _ _ _ _ _ _ (by omega) (by omega) hgn hng HNZ.out hlg hch (by omega) (by omega) (by omega) HAT.out (by omega) (by omega) (by omega) (by omega) HBv.out HBr.out HBc.out HBo.out HK.out HPL.out (by assumption) (by assumption) hx9
     ·exact evc6 _ _ _ _ _ _ _ _ _ _ _ _ _ _ _ _ _ _ _ _ _ _ _ _ _ _ _ _ _ _ _ _ _ _ _ _ _ _ _ _ _ _ (by omega) (by omega) hgn hng HNZ.out hlg hch (by omega) (by omega) (by omega) HAT.out (by omega) (by omega) (by omega) (by omega) HBv.out HBr.out HBc.out HBo.out HK.out HPL.out (by assumption) (by assumption) hx9
     ·exact evc9 _ _ _ _ _ _ _ _ _ _ _ _ _ _ _ _ _ _ _ _ _ _ _ _ _ _ _ _ _ _ _ _ _ _ _ _ _ _ _ _ _ _ (by omega) (by omega) hgn hng HNZ.out hlg hch (by omega) (by omega) (by omega) HAT.out (by omega) (by omega) (by omega) (by omega) HBv.out HBr.out HBc.out HBo.out HK.out HPL.out (by assumption) (by assumption) hx9
     ·exact evc10 _ _ _ _ _ _ _ _ _ _ _ _ _ _ _ _ _ _ _ _ _ _ _ _ _ _ _ _ _ _ _ _ _ _ _ _ _ _ _ _ _ _ (by omega) (by omega) hgn hng HNZ.out hlg hch (by omega) (by omega) (by omega) HAT.out (by omega) (by omega) (by omega) (by omega) HBv.out HBr.out HBc.out HBo.out HK.out HPL.out (by assumption) (by assumption) hx9
    case rest =>
     obtain ⟨hv2, rfl, hpl, hbv, hbr, hbc, hbo, hkk⟩ := hcut; clear HPL HBv HBr HBc HBo HK; have HPL := hH hpl; have HBv := hH hbv; have HBr := hH hbr; have HBc := hH hbc; have HBo := hH hbo; have HK := hH hkk
     have szc : w1.heap.size + 2 ≤ wc.heap.size := by have := hbo.lt; omega
     clear hpl hbv hbr hbc hbo hkk; obtain ⟨w20, hww⟩ : ∃ x, x = wc := ⟨_, rfl⟩; subst hww; go_wp2_with fail; refine (pick_any g (lim + 9) 7 _ HPL.out.rd (by omega) (by omega) (by omega)).mono ?_; rintro e w21 ⟨p21, rfl, a21, b21, hrd, hk⟩; replace HBv := hH (HBv.out.keeps hk (nq (by omega))); replace HBr := hH (HBr.out.keeps hk (nq (by omega))); replace HBc := hH (HBc.out.keeps hk (nq (by omega))); replace HBo := hH (HBo.out.keeps hk (nq (by omega))); replace HK := hH (HK.out.trans hk); replace HPL := hH (HPL.out.one hk (hrd.more (lim' := lim + 10) (by omega))); have sz21 := hk.size
     (try simp at sz21)
     clear hrd hk; have hx12 : IntKind.i64.wrap (1 + p21) = 1 + p21 := IntWalk.i64_in _ (by omega)
     go_upto_region 38 with fail
     go_cut [201] from 188 to 200 (fun so wx => ∃ o9 : Bool, so = .bool o9 ∧ (o9 = true → 0 < hv2 ∧ hv2 ≤ (ot.past.length : Int)) ∧ Pl G wx m g (lim + 11) q n0 ∧ Box wx (w.heap.size) 87 #[.slice (some ⟨m.g, 0, none⟩) 2 2] ∧ Box wx (w.heap.size + 1) 102 zC11 ∧ Box wx (w1.heap.size) 94 (chC me) ∧ Box wx (w1.heap.size + 1) 94 (chC ot) ∧ Keeps (one g) w wx)
     case first =>
      by_cases hz : 0 < hv2
      ·have hzb : decide (0 < hv2) = true := decide_eq_true hz
       by_cases hz2 : hv2 ≤ (ot.past.length : Int)
       ·have hzc : decide (hv2 ≤ (ot.past.length : Int)) = true := decide_eq_true hz2
        have hb := HBo.out; have o11 := hb.cell 11; simp at o11; have zo := hb.lt; clear hb; go_wp2_with fail; refine (pick_any g (lim + 10) 4 _ HPL.out.rd (by omega) (by omega) (by omega)).mono ?_; rintro e w22 ⟨p22, rfl, a22, b22, hrd, hk⟩; clear o11 zo; replace HBv := hH (HBv.out.keeps hk (nq (by omega))); replace HBr := hH (HBr.out.keeps hk (nq (by omega))); replace HBc := hH (HBc.out.keeps hk (nq (by omega))); replace HBo := hH (HBo.out.keeps hk (nq (by omega))); replace HK := hH (HK.out.trans hk); replace HPL := hH (HPL.out.one hk (hrd.more (lim' := lim + 11) (by omega))); have sz22 := hk.size
        (try simp at sz22)
        clear hrd hk; go_wp2_with fail
        go_meet
        exact ⟨_, rfl, fun _ => ⟨hz, hz2⟩, HPL.out.more (Nat.le_refl _) (by omega), HBv.out, HBr.out, HBc.out, HBo.out, HK.out⟩
       ·have hzc : decide (hv2 ≤ (ot.past.length : Int)) = false := decide_eq_false hz2
        have hb := HBo.out; have o11 := hb.cell 11; simp at o11; have zo := hb.lt; clear hb; go_wp2_with fail
        go_meet
        first | exact ⟨false, rfl, (fun h => absurd h (by decide)), HPL.out.more (Nat.le_refl _) (by omega), HBv.out, HBr.out, HBc.out, HBo.out, HK.out⟩ | exact ⟨false, rfl, HPL.out.more (Nat.le_refl _) (by omega), HBv.out, HBr.out, HBc.out, HBo.out, HK.out⟩
      ·have hzb : decide (0 < hv2) = false := decide_eq_false hz
       go_wp2_with fail
       go_meet
       first | exact ⟨false, rfl, (fun h => absurd h (by decide)), HPL.out.more (Nat.le_refl _) (by omega), HBv.out, HBr.out, HBc.out, HBo.out, HK.out⟩ | exact ⟨false, rfl, HPL.out.more (Nat.le_refl _) (by omega), HBv.out, HBr.out, HBc.out, HBo.out, HK.out⟩
     case rest =>
      obtain ⟨o9, rfl, ho9, hpl, hbv, hbr, hbc, hbo, hkk⟩ := hcut; clear HPL HBv HBr HBc HBo HK; have HPL := hH hpl; have HBv := hH hbv; have HBr := hH hbr; have HBc := hH hbc; have HBo := hH hbo; have HK := hH hkk
      have szc : w1.heap.size + 2 ≤ wc.heap.size := by have := hbo.lt; omega
      clear hpl hbv hbr hbc hbo hkk; obtain ⟨w30, hww⟩ : ∃ x, x = wc := ⟨_, rfl⟩; subst hww
      go_upto_if 201 with fail
      go_cut [12] from 13 to 220 (fun x wx => ∃ hv : Int, x = .int .i64 hv ∧ Pl G wx m g (lim + 12) q n0 ∧ Box wx (w.heap.size) 87 #[.slice (some ⟨m.g, 0, none⟩) 2 2] ∧ Box wx (w.heap.size + 1) 102 zC11 ∧ Box wx (w1.heap.size) 94 (chC me) ∧ Box wx (w1.heap.size + 1) 94 (chC ot) ∧ Keeps (one g) w wx)
      case first =>
       cases o9 with
       | false =>
        go_wp2_with fail
        go_meet
        exact ⟨_, rfl, HPL.out.more (Nat.le_refl _) (by omega), HBv.out, HBr.out, HBc.out, HBo.out, HK.out⟩
       | true =>
        obtain ⟨hz, hz2⟩ := ho9 rfl; obtain ⟨j, hlj⟩ : ∃ j : Nat, hv2 - 1 = (j : Int) := ⟨(hv2 - 1).toNat, by omega⟩
        have hj : j < ot.past.length := by omega
        clear ho9; have hwj2 : IntKind.i64.wrap (j : Int) = (j : Int) := IntWalk.i64_in _ (by omega)
        have hwj : IntKind.i64.wrap (hv2 - 1) = (j : Int) := by rw [hlj]; exact IntWalk.i64_in _ (by omega)
        have hij : (j : Int) < (ot.past.length : Int) := by omega
        obtain ⟨b1, o1, eP, hb1, d0, d1, d2, d3, d4, d5, d6⟩ := (HAT.out _ _ HPL.out).2.row.at_ hj; have HYA := hH (fun (W : World) (hp : ChAt W ot) => (hp.past _ (getD_mem' stm0 hj) : (ot.past.getD j stm0).At W)); generalize ot.past.getD j stm0 = y at *; have hb := HBc.out; obtain ⟨c0, c1, c2, c3, c4, c5, c6, c7, c8, c9, c10, c11, c12⟩ := hb.cells13; have zc := hb.lt; clear hb; have hb := HBo.out; have o11 := hb.cell 11; simp at o11; have zo := hb.lt; clear hb; rw [eP] at o11; go_wp2_with fail
        go_still_tail 8, (by kernel_rfl)
        change wpList _ _ _ _ _ w30.drew; have HPD := hH (HPL.out.kept (Keeps.refl noBlk w30).drew); have HDv := hH (HBv.out.keeps ((Keeps.refl noBlk w30).drew) fun h => h); have HDr := hH (HBr.out.keeps ((Keeps.refl noBlk w30).drew) fun h => h); have HDc := hH (HBc.out.keeps ((Keeps.refl noBlk w30).drew) fun h => h); have HDo := hH (HBo.out.keeps ((Keeps.refl noBlk w30).drew) fun h => h); have HKD := hH HK.out.drew; have szD : w30.heap.size = w30.drew.heap.size := rfl; clear c0 c1 c2 c3 c4 c5 c6 c7 c8 c9 c10 c11 c12 zc o11 zo; clear d0 d1 d2 d3 d4 d5 d6 HPL HBv HBr HBc HBo HK; have HPL := HPD; have HK := HKD; clear HPD HKD; have HBv := HDv; clear HDv; have HBr := HDr; clear HDr; have HBc := HDc; clear HDc; have HBo := HDo; clear HDo; generalize w30.drew = WD at HPL HK HBv HBr HBc HBo szD ⊢; go_wp2_with fail; refine (specNext_any me.st.x y.x me.st.A1 me.st.A2 me.st.A3 me.st.A4 y.A1 y.A2 y.A3 y.A4 me.st.c1 me.st.c2 me.st.c3 me.st.c4 y.c1 y.c2 y.c3 y.c4 _ ((HAT.out _ _ HPL.out).1.st) (HYA.out _ ((HAT.out _ _ HPL.out).2))).mono ?_; intro e w31 hRI; obtain ⟨NA, nc, rfl, hni, hnm, hng, hq⟩ := retInts' hRI
        have hq1 := hq.more (T := one g) fun _ _ h => h.elim
        replace HBv := hH (HBv.out.keeps hq1 (nq (by omega))); replace HBr := hH (HBr.out.keeps hq1 (nq (by omega))); replace HBc := hH (HBc.out.keeps hq1 (nq (by omega))); replace HBo := hH (HBo.out.keeps hq1 (nq (by omega))); replace HK := hH (HK.out.trans hq1); replace HPL := hH (HPL.out.kept hq); have sz31 := hq.size
        (try simp at sz31)
        have HNI := hH hni; have HNG := hH hng; clear hRI hq hq1 hni hng; generalize nextL me.st.x y.x = ns at *
        by_cases hn0 : ns.length = 0
        ·have hd : decide ((0 : Int) < (ns.length : Int)) = false := decide_eq_false (by omega)
         have hdn : decide (0 < ns.length) = false := decide_eq_false (by omega)
         have hdp : ¬ 0 < ns.length := by omega
         have hdq : ¬ (0 : Int) < (ns.length : Int) := by omega
         clear hn0; go_wp2_with fail
         go_meet
         exact ⟨_, rfl, HPL.out.more (Nat.le_refl _) (by omega), HBv.out, HBr.out, HBc.out, HBo.out, HK.out⟩
        ·have hd : decide ((0 : Int) < (ns.length : Int)) = true := decide_eq_true (by omega)
         have hdn : decide (0 < ns.length) = true := decide_eq_true (by omega)
         have hdp : 0 < ns.length := by omega
         have hdq : (0 : Int) < (ns.length : Int) := by omega
         clear hn0; obtain ⟨bn, on, rfl, hbn⟩ := HNI.out.addr (by omega); have HNE := hH (show ¬ bn = g from by have := HNG.out bn ⟨by omega, _, rfl, rfl⟩; omega); go_wp2_with fail; refine (pick_any g (lim + 11) _ _ HPL.out.rd (by omega) (by omega) (by omega)).mono ?_; rintro e w32 ⟨p32, rfl, a32, b32, hrd, hk⟩
         have hni := HNI.out.keeps hk fun b hb h => by have h' : b = g := h; have h9 := HNG.out b hb; omega
         obtain ⟨pn, rfl⟩ := Int.eq_ofNat_of_zero_le a32; have d9 := hni.at2 (k := pn) (by omega)
         have hii : (pn : Int) < (ns.length : Int) := by omega
         have hbz : bn < w32.heap.size := hni.lt ⟨by omega, _, rfl, rfl⟩; clear hni; replace HBv := hH (HBv.out.keeps hk (nq (by omega))); replace HBr := hH (HBr.out.keeps hk (nq (by omega))); replace HBc := hH (HBc.out.keeps hk (nq (by omega))); replace HBo := hH (HBo.out.keeps hk (nq (by omega))); replace HK := hH (HK.out.trans hk); replace HPL := hH (HPL.out.one hk (hrd.more (lim' := lim + 12) (by omega))); clear hrd hk; go_wp2_with fail
         go_meet
         exact ⟨_, rfl, HPL.out.more (Nat.le_refl _) (by omega), HBv.out, HBr.out, HBc.out, HBo.out, HK.out⟩
      case rest =>
       obtain ⟨hs, rfl, hpl, hbv, hbr, hbc, hbo, hkk⟩ := hcut; clear HPL HBv HBr HBc HBo HK; have HPL := hH hpl; have HBv := hH hbv; have HBr := hH hbr; have HBc := hH hbc; have HBo := hH hbo; have HK := hH hkk
       have szc : w1.heap.size + 2 ≤ wc.heap.size := by have := hbo.lt; omega
       clear hpl hbv hbr hbc hbo hkk; obtain ⟨w40, hww⟩ : ∃ x, x = wc := ⟨_, rfl⟩; subst hww
       by_cases h5 : hs = 5
       ·subst h5
        have h5b : ((5 : Int) == 5) = true := rfl; go_wp2_with fail; refine (pick_any g (lim + 12) 3 _ HPL.out.rd (by omega) (by omega) (by omega)).mono ?_; rintro e w41 ⟨p41, rfl, a41, b41, hrd, hk⟩; replace HBv := hH (HBv.out.keeps hk (nq (by omega))); replace HBr := hH (HBr.out.keeps hk (nq (by omega))); replace HBc := hH (HBc.out.keeps hk (nq (by omega))); replace HBo := hH (HBo.out.keeps hk (nq (by omega))); replace HK := hH (HK.out.trans hk); replace HPL := hH (HPL.out.one hk (hrd.more (lim' := lim + 13) (by omega))); have sz41 := hk.size
        (try simp at sz41)
        clear hrd hk
        by_cases h5c : 0 < p41
        ·have h5d : decide (0 < p41) = true := decide_eq_true h5c
         have hb := HBr.out; obtain ⟨r0, r1, r2, r3, r4, r5, r6, r7, r8, r9, r10⟩ := hb.cells11; obtain ⟨rf0, rf1, rf2, rf3, rf4, rf5, rf6, rf7, rf8, rf9, rf10⟩ := hb.fz11; have zr := hb.lt; clear hb; go_wp2; have kS := evW_keeps w41 (w.heap.size + 1) (⟨1, ch, 0, 0, ⟨0, 0, 0, 0, 0, 0, 0⟩⟩ : Ev); obtain ⟨s10, s11, s12, s13, s14, s15, s16, s17, s18, s19, s20⟩ := evW_cells HBr.out (⟨1, ch, 0, 0, ⟨0, 0, 0, 0, 0, 0, 0⟩⟩ : Ev); change bodyPost _ _ _ _ _ (evW w41 (w.heap.size + 1) (⟨1, ch, 0, 0, ⟨0, 0, 0, 0, 0, 0, 0⟩⟩ : Ev)); generalize evW w41 (w.heap.size + 1) (⟨1, ch, 0, 0, ⟨0, 0, 0, 0, 0, 0, 0⟩⟩ : Ev) = WF at kS s10 s11 s12 s13 s14 s15 s16 s17 s18 s19 s20 ⊢; refine bodyPost_ret (v := Ev.val (⟨1, ch, 0, 0, ⟨0, 0, 0, 0, 0, 0, 0⟩⟩ : Ev)) (by simp [results, Tryd.results80, go_sem, Ev.val, s10, s11, s12, s13, s14, s15, s16, s17, s18, s19, s20]) rfl ?_; exact ev_end (⟨1, ch, 0, 0, ⟨0, 0, 0, 0, 0, 0, 0⟩⟩ : Ev) HPL.out.rd (by omega) HK.out kS (by omega) (by omega)
        ·have h5d : decide (0 < p41) = false := decide_eq_false h5c
         have hb := HBr.out; obtain ⟨r0, r1, r2, r3, r4, r5, r6, r7, r8, r9, r10⟩ := hb.cells11; obtain ⟨rf0, rf1, rf2, rf3, rf4, rf5, rf6, rf7, rf8, rf9, rf10⟩ := hb.fz11; have zr := hb.lt; clear hb; go_wp2; have kS := evW_keeps w41 (w.heap.size + 1) (⟨7, ch, hv2, 5, ⟨0, 0, 0, 0, 0, 0, 0⟩⟩ : Ev); obtain ⟨s10, s11, s12, s13, s14, s15, s16, s17, s18, s19, s20⟩ := evW_cells HBr.out (⟨7, ch, hv2, 5, ⟨0, 0, 0, 0, 0, 0, 0⟩⟩ : Ev); change bodyPost _ _ _ _ _ (evW w41 (w.heap.size + 1) (⟨7, ch, hv2, 5, ⟨0, 0, 0, 0, 0, 0, 0⟩⟩ : Ev)); generalize evW w41 (w.heap.size + 1) (⟨7, ch, hv2, 5, ⟨0, 0, 0, 0, 0, 0, 0⟩⟩ : Ev) = WF at kS s10 s11 s12 s13 s14 s15 s16 s17 s18 s19 s20 ⊢; refine bodyPost_ret (v := Ev.val (⟨7, ch, hv2, 5, ⟨0, 0, 0, 0, 0, 0, 0⟩⟩ : Ev)) (by simp [results, Tryd.results80, go_sem, Ev.val, s10, s11, s12, s13, s14, s15, s16, s17, s18, s19, s20]) rfl ?_; exact ev_end (⟨7, ch, hv2, 5, ⟨0, 0, 0, 0, 0, 0, 0⟩⟩ : Ev) HPL.out.rd (by omega) HK.out kS (by omega) (by omega)
       ·have h5b : (hs == 5) = false := by simp [h5]
        have hb := HBr.out; obtain ⟨r0, r1, r2, r3, r4, r5, r6, r7, r8, r9, r10⟩ := hb.cells11; obtain ⟨rf0, rf1, rf2, rf3, rf4, rf5, rf6, rf7, rf8, rf9, rf10⟩ := hb.fz11; have zr := hb.lt; clear hb; go_wp2; have kS := evW_keeps w40 (w.heap.size + 1) (⟨7, ch, hv2, hs, ⟨0, 0, 0, 0, 0, 0, 0⟩⟩ : Ev); obtain ⟨s10, s11, s12, s13, s14, s15, s16, s17, s18, s19, s20⟩ := evW_cells HBr.out (⟨7, ch, hv2, hs, ⟨0, 0, 0, 0, 0, 0, 0⟩⟩ : Ev); change bodyPost _ _ _ _ _ (evW w40 (w.heap.size + 1) (⟨7, ch, hv2, hs, ⟨0, 0, 0, 0, 0, 0, 0⟩⟩ : Ev)); generalize evW w40 (w.heap.size + 1) (⟨7, ch, hv2, hs, ⟨0, 0, 0, 0, 0, 0, 0⟩⟩ : Ev) = WF at kS s10 s11 s12 s13 s14 s15 s16 s17 s18 s19 s20 ⊢; refine bodyPost_ret (v := Ev.val (⟨7, ch, hv2, hs, ⟨0, 0, 0, 0, 0, 0, 0⟩⟩ : Ev)) (by simp [results, Tryd.results80, go_sem, Ev.val, s10, s11, s12, s13, s14, s15, s16, s17, s18, s19, s20]) rfl ?_; exact ev_end (⟨7, ch, hv2, hs, ⟨0, 0, 0, 0, 0, 0, 0⟩⟩ : Ev) HPL.out.rd (by omega) HK.out kS (by omega) (by omega)
end Go.Proofs.YtjcbeihoeanhaaaDoor
