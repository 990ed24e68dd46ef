/- l71Play of the model: a world behind a drawn play, and what happened. l71State of the model: a state behind a drawn play, some spoilt. l71Sent, DrawStateLive of the model: a drawn state. What the draws of states end by. -/
import Derived.Test.YtjcbeihoeanhaaaDoorUPlNB
import Derived.Test.YtjcbeihoeanhaaaDoorPlOB
import Derived.Test.YtjcbeihoeanhaaaDoorPlEB
set_option maxRecDepth 100000
set_option maxHeartbeats 8000000
set_option linter.unusedVariables false
set_option linter.unusedSimpArgs false
/-! PlL -/
namespace Go.Proofs.YtjcbeihoeanhaaaDoor
open Go.RowKit

def RetPlay (w : World) (g : Nat) (lim : Int) (e : Ending) (w' : World) : Prop :=
 ∃ (G : Nat → Nat) (m : WdM) (l : List Ev) (A : Option Addr) (c : Nat), e = .returned (.tuple #[.slice A l.length c, m.val]) ∧ Pl G w' m g (lim + 1000) 100 w.heap.size ∧ l.length ≤ 100 ∧ w'.ownsRow 0 102 11 (.slice A l.length c) l.length (vEs l) ∧
  (∀ b, (Value.slice A l.length c).ownBlock = some b → w.heap.size ≤ b ∧ G b = 0) ∧ Keeps (one g) w w'
theorem play_start {G' : Nat → Nat} {w w1 : World} {m : WdM} {g : Nat} {lim : Int} {n : Nat} (hn : n ≤ w.heap.size) (ok : WdOk m 0) (hag : ∀ b, b < w.heap.size → G' b = 0) (hw : WdR G' w1 m) (hk : Keeps noBlk w w1) (hr : Rd w g lim) (hl : g < n) :
  Pl (up G' w1.heap.size 0) w1 m g lim 0 n :=
 ⟨hw.ext fun b hb => up_old hb, ok, hr.keeps hk fun _ _ h => h, hl, fun b hb => by rw [up_old (by have := hk.size; omega)]; exact hag b (by omega), fun b hb => up_new hb, by have := hk.size; omega⟩
theorem play_store {G : Nat → Nat} {W : World} {m : WdM} {g : Nat} {lim : Int} {q n0 bw : Nat} (h : Pl G W m g lim q n0) (hz : G bw = 0) (hb : g < bw) (v : Value) : Pl G (W.setCell ⟨bw, 0, none⟩ v) m g lim q n0 :=
 h.keeps (S := fun b => b = bw) ((Keeps.refl (fun b => b = bw) W).setCell (p := ⟨bw, 0, none⟩) (.inr rfl) v) fun b hS => by subst hS; exact ⟨hz, hb⟩
theorem l71Play_any (g : Nat) (lim : Int) (w : World) (hr : Rd w g lim) (hl : lim ≤ 100000) : Calls Tryd.prog 62 #[.pointer (some ⟨g, 0, none⟩)] w (RetPlay w g lim) := by
 have hgw := hr.lt; have HBr := hH (Box.new w _ rfl 87 #[.slice none 0 0]); have HK := hH ((Keeps.refl (one g) w).alloc (.cells #[.slice none 0 0] 87)); have HRD := hH (hr.alloc (.cells #[.slice none 0 0] 87))
 have hs0 : w.heap.size + 1 = (w.alloc (.cells #[.slice none 0 0] 87)).heap.size := by simp
 clear hr
 go_enter Tryd.func62, Tryd.ntmps62
 go_wp2_with fail; generalize w.alloc (.cells #[.slice none 0 0] 87) = w0 at HBr HK HRD hs0 ⊢; refine (worldNew_any (fun _ => 0) w0).mono ?_; rintro e w1 ⟨G', m0, rfl, ok0, hag, hwd, hk⟩; have HPL := hH (play_start (n := w.heap.size) (by omega) ok0 hag hwd hk HRD.out hgw); have HBr1 := hH (HBr.out.keeps hk fun h => h); have HZr : Hid (up G' w1.heap.size 0 w.heap.size = 0) := hH (by rw [up_old (by have := hk.size; omega)]; exact hag _ (by omega)); have HK1 := hH (HK.out.then hk fun _ _ h => h.elim); have sz1 := hk.size; clear hk hwd hag ok0 HBr HK HRD; have HZw : Hid (up G' w1.heap.size 0 w1.heap.size = 0) := hH (up_new (Nat.le_refl _)); generalize up G' w1.heap.size 0 = G at HPL HZr HZw; unfold WdM.val; go_wp2_with fail; have HBw := hH (Box.new w1 _ rfl 87 #[.slice (some ⟨m0.g, 0, none⟩) 2 2]); have HBr2 := hH (HBr1.out.alloc (.cells #[.slice (some ⟨m0.g, 0, none⟩) 2 2] 87)); have HK2 := hH (HK1.out.alloc (.cells #[.slice (some ⟨m0.g, 0, none⟩) 2 2] 87)); have HPL2 := hH (HPL.out.kept ((Keeps.refl noBlk w1).alloc (.cells #[.slice (some ⟨m0.g, 0, none⟩) 2 2] 87)))
 have sz2 : w1.heap.size + 1 = (w1.alloc (.cells #[.slice (some ⟨m0.g, 0, none⟩) 2 2] 87)).heap.size := by simp
 clear HBr1 HK1 HPL; generalize w1.alloc (.cells #[.slice (some ⟨m0.g, 0, none⟩) 2 2] 87) = w2 at HBw HBr2 HK2 HPL2 sz2 ⊢; refine (l71Open_any g lim w2 HPL2.out.rd (by omega)).mono ?_; rintro e w3 ⟨l, A, c, rfl, hll, hown, hge, hrd, hk⟩; have HPL := hH (HPL2.out.one hk hrd); have HBw3 := hH (HBw.out.keeps hk fun h => by have h' : w1.heap.size = g := h; omega); have HBr3 := hH (HBr2.out.keeps hk fun h => by have h' : w.heap.size = g := h; omega); have HK3 := hH (HK2.out.trans hk); have HOW := hH hown; have HGE := hH (show ∀ b, (Value.slice A l.length c).ownBlock = some b → w1.heap.size + 1 ≤ b ∧ G b = 0 from fun b hb => ⟨by have := hge b hb; omega, HPL2.out.nz b (hge b hb)⟩); have sz3 := hk.size; clear hk hrd hown hge HBw HBr2 HK2 HPL2; go_wp2
 go_loopg [6] (l.length) (fun gk i wr => ∃ (G : Nat → Nat) (m : WdM) (k : Nat), k + gk = l.length ∧ i = .int .i64 k ∧ Pl G wr m g (lim + 2) k w.heap.size ∧ Box wr (w1.heap.size) 87 #[.slice (some ⟨m.g, 0, none⟩) 2 2] ∧ Box wr (w.heap.size) 87 #[.slice none 0 0] ∧ G w.heap.size = 0 ∧ G w1.heap.size = 0 ∧ Keeps (one g) w wr ∧ wr.ownsRow 0 102 11 (.slice A l.length c) l.length (vEs l) ∧ (∀ b, (Value.slice A l.length c).ownBlock = some b → w1.heap.size + 1 ≤ b ∧ G b = 0) ∧ w3.heap.size ≤ wr.heap.size)
 case atStart => exact ⟨G, m0, 0, Nat.zero_add _, rfl, HPL.out, HBw3.out, HBr3.out, HZr.out, HZw.out, HK3.out, HOW.out, HGE.out, Nat.le_refl _⟩
 case round =>
  clear HPL HBw3 HBr3 HK3 HOW HGE HZr HZw; obtain ⟨G, m, k, hk, rfl, hpl, hbw, hbr, hzr, hzw, hkp, how, hge, hsr⟩ := hrel; have HPL := hH hpl; have HBw := hH hbw; have HBr := hH hbr; have HZr := hH hzr; have HZw := hH hzw; have HK := hH hkp; have HOW := hH how; have HGE := hH hge; clear hpl hbw hbr hzr hzw hkp how hge
  by_cases hlt : k < l.length
  ·obtain ⟨b, off, eA, hbb, d0, d1, d2, d3, d4, d5, d6, d7, d8, d9, d10⟩ := (owns_evs HOW.out).at_ hlt
   generalize l.getD k ev0 = ev at d0 d1 d2 d3 d4 d5 d6 d7 d8 d9 d10; have HEA := hH eA
   have hik : (k : Int) < (l.length : Int) := by omega
   have hb := HBw.out; have v0 := hb.cell 0; simp at v0; have zw := hb.lt; clear hb; subst eA; go_wp2_with fail
   go_still_tail 5, (by kernel_rfl)
   change wpList _ _ _ _ _ wr.drew; have HPD := hH (HPL.out.kept (Keeps.refl noBlk wr).drew); have HBwD := hH (HBw.out.keeps ((Keeps.refl noBlk wr).drew) fun h => h); have HBrD := hH (HBr.out.keeps ((Keeps.refl noBlk wr).drew) fun h => h); have HKD := hH (HK.out.drew); have HOD := hH (owns_keeps HOW.out ((Keeps.refl noBlk wr).drew) fun _ _ h => h); have szd : w3.heap.size ≤ wr.drew.heap.size := hsr; clear d0 d1 d2 d3 d4 d5 d6 d7 d8 d9 d10 v0 zw HPL HBw HBr HK HOW; generalize wr.drew = W at HPD HBwD HBrD HKD HOD szd ⊢; go_wp2_with fail; refine (show Calls Tryd.prog 79 #[.agg #[.slice (some ⟨m.g, 0, none⟩) 2 2], .agg #[.int .i64 ev.kd, .int .i64 ev.ch, .int .i64 ev.h, .int .i64 ev.n, .int .i64 ev.p.s, .int .i64 ev.p.k, .int .i64 ev.p.f, .int .i64 ev.p.t, .int .i64 ev.p.m, .int .i64 ev.p.u, .int .i64 ev.p.v]] W (RetWd G W (k + 1)) from l21Do_any G m ev k W HPD.out.wd HPD.out.ok (by omega)).mono ?_; intro e W2 hr; obtain ⟨G2, m2, rfl, hpl, hag, hk2⟩ := HPD.out.turn hr; have HPL := hH hpl; have HBw := hH (HBwD.out.keeps hk2 fun h => h HZw.out); have HBr := hH (HBrD.out.keeps hk2 fun h => h HZr.out); have HZw2 : Hid (G2 w1.heap.size = 0) := hH ((hag _ (by omega)).trans HZw.out); have HZr2 : Hid (G2 w.heap.size = 0) := hH ((hag _ (by omega)).trans HZr.out); have HK := hH (HKD.out.then hk2 fun i hi h => absurd (HPD.out.z i hi) h); have HOW := hH (owns_keeps HOD.out hk2 fun b hb h => h (HGE.out b hb).2); have HGE2 := hH (fun b (hb : (Value.slice (some ⟨b, off, none⟩) l.length c).ownBlock = some b) => True.intro); have HGE3 := hH (fun bb (hb : (Value.slice _ l.length c).ownBlock = some bb) => (show w1.heap.size + 1 ≤ bb ∧ G2 bb = 0 from ⟨(HGE.out bb hb).1, (hag bb (HOD.out.lt bb hb).2).trans (HGE.out bb hb).2⟩)); have szk := hk2.size; clear hpl hag hk2 hr; unfold WdM.val; have hb := HBw.out; have v0 := hb.cell 0; have f0 := hb.frozen 0; simp at v0; have zw := hb.lt; clear hb; go_wp2; have hb2 := HBw.out.set_ 0 (.slice (some ⟨m2.g, 0, none⟩) 2 2); simp only [List.setIfInBounds_toArray, List.set_cons_zero] at hb2; have kS := (Keeps.refl (fun b => b = w1.heap.size) W2).setCell (p := ⟨w1.heap.size, 0, none⟩) (.inr rfl) (.slice (some ⟨m2.g, 0, none⟩) 2 2)
   go_roundg (gk - 1)
   case measure => omega
   case rel =>
   exact ⟨G2, m2, k + 1, by omega, by go_num, play_store HPL.out HZw2.out (by omega) _, hb2, HBr.out.keeps kS (fun h => by omega), HZr2.out, HZw2.out, HK.out.then kS (fun i hi h => by omega), owns_keeps HOW.out kS (fun b hb h => by have := (HGE.out b hb).1; omega), HGE3.out, by simp; omega⟩
  ·obtain rfl : k = l.length := by omega
   have hb := HBw.out; have v0 := hb.cell 0; simp at v0; have zw := hb.lt; clear hb; go_wp2_with fail; refine (pick_any g (lim + 2) 48 _ HPL.out.rd (by omega) (by omega) (by omega)).mono ?_; rintro e w5 ⟨p, rfl, pa, pb, hrd, hk5⟩; have HPL5 := hH (HPL.out.one hk5 hrd); have HBw5 := hH (HBw.out.keeps hk5 fun h => by have h' : w1.heap.size = g := h; omega); have HBr5 := hH (HBr.out.keeps hk5 fun h => by have h' : w.heap.size = g := h; omega); have HK5 := hH (HK.out.trans hk5); have HOW5 := hH (owns_keeps HOW.out hk5 fun b hb h => by have h' : b = g := h; have := (HGE.out b hb).1; omega); have sz5 := hk5.size; clear hk5 hrd v0 zw HPL HBw HBr HK HOW; obtain ⟨pn, rfl⟩ := Int.eq_ofNat_of_zero_le pa; go_wp2
   go_loopg [5, 7] (pn) (fun gk V n wr => ∃ (G : Nat → Nat) (m : WdM) (l : List Ev) (A : Option Addr) (c : Nat), gk ≤ 47 ∧ n = .int .i64 gk ∧ V = .slice A l.length c ∧ l.length ≤ 60 - gk ∧ Pl G wr m g (lim + 1000 - 20 * gk) (100 - gk) w.heap.size ∧ Box wr (w1.heap.size) 87 #[.slice (some ⟨m.g, 0, none⟩) 2 2] ∧ Box wr (w.heap.size) 87 #[.slice none 0 0] ∧ G w.heap.size = 0 ∧ G w1.heap.size = 0 ∧ Keeps (one g) w wr ∧ wr.ownsRow 0 102 11 (.slice A l.length c) l.length (vEs l) ∧ (∀ b, (Value.slice A l.length c).ownBlock = some b → w1.heap.size + 1 ≤ b ∧ G b = 0) ∧ w3.heap.size ≤ wr.heap.size)
   case atStart => exact ⟨G, m, l, A, c, by omega, rfl, rfl, by omega, HPL5.out.more (by omega) (by omega), HBw5.out, HBr5.out, HZr.out, HZw.out, HK5.out, HOW5.out, HGE.out, by omega⟩
   case round =>
    clear HPL5 HBw5 HBr5 HK5 HOW5 HGE HZr HZw hsr sz5; obtain ⟨G, m, l, A, c, hg47, rfl, rfl, hll, hpl, hbw, hbr, hzr, hzw, hkp, how, hge, hsr⟩ := hrel; have HPL := hH hpl; have HBw := hH hbw; have HBr := hH hbr; have HZr := hH hzr; have HZw := hH hzw; have HK := hH hkp; have HOW := hH how; have HGE := hH hge; clear hpl hbw hbr hzr hzw hkp how hge; have hb := HBw.out; have v0 := hb.cell 0; simp at v0; have zw := hb.lt; clear hb
    by_cases hz : gk = 0
    ·subst hz
     have hbr := HBr.out; have r0 := hbr.cell 0; have rf := hbr.frozen 0; simp at r0; have zr := hbr.lt; clear hbr
     have : ¬ w.heap.size = w1.heap.size := by omega
     have : ¬ w1.heap.size = w.heap.size := by omega
     go_wp2_with fail
     go_region
     all_goals
      go_wp2; have hb2 := (HBr.out.set_ 0 (.slice (some ⟨m.g, 0, none⟩) 2 2)); simp only [List.setIfInBounds_toArray, List.set_cons_zero] at hb2; have s0 := hb2.cell 0; simp at s0; have kS := ((Keeps.refl (fun b => b = w.heap.size) wr).setCell (p := ⟨w.heap.size, 0, none⟩) (.inr rfl) (.slice (some ⟨m.g, 0, none⟩) 2 2)).drew; refine bodyPost_ret (v := .tuple #[.slice A l.length c, m.val]) (by simp [results, Tryd.results62, go_sem, WdM.val, s0]) rfl ?_; exact ⟨G, m, l, A, c, rfl, (HPL.out.keeps kS fun b hS => by subst hS; exact ⟨HZr.out, by omega⟩).more (by omega) (by omega), by omega, owns_keeps HOW.out kS (fun b hb h => by have := (HGE.out b hb).1; omega), fun b hb => ⟨by have := (HGE.out b hb).1; omega, (HGE.out b hb).2⟩, HK.out.then kS fun i hi h => by omega⟩
    ·have hgp : 0 < gk := by omega
     have hgi : (0 : Int) < (gk : Int) := by omega
     clear hz; go_wp2_with fail; refine (show Calls Tryd.prog 80 #[.pointer (some ⟨g, 0, none⟩), .agg #[.slice (some ⟨m.g, 0, none⟩) 2 2]] wr (RetEv wr g (lim + 1000 - 20 * gk)) from l71Event_any G m g (lim + 1000 - 20 * gk) (100 - gk) w.heap.size wr HPL.out (by omega) (by omega)).mono ?_; rintro e w6 ⟨ev, rfl, hrd, hk6⟩; have HPL6 := hH (HPL.out.one hk6 hrd); have HBw6 := hH (HBw.out.keeps hk6 fun h => by have h' : w1.heap.size = g := h; omega); have HBr6 := hH (HBr.out.keeps hk6 fun h => by have h' : w.heap.size = g := h; omega); have HK6 := hH (HK.out.trans hk6); have HOW6 := hH (owns_keeps HOW.out hk6 fun b hb h => by have h' : b = g := h; have := (HGE.out b hb).1; omega); have sz6 := hk6.size; clear hk6 hrd v0 zw HPL HBw HBr HK HOW; unfold Ev.val
     go_upto_region 11 with fail
     have HBe := hH (Box.new w6 _ rfl 102 #[.int .i64 ev.kd, .int .i64 ev.ch, .int .i64 ev.h, .int .i64 ev.n, .int .i64 ev.p.s, .int .i64 ev.p.k, .int .i64 ev.p.f, .int .i64 ev.p.t, .int .i64 ev.p.m, .int .i64 ev.p.u, .int .i64 ev.p.v]); have HPL7 := hH (HPL6.out.kept ((Keeps.refl noBlk w6).alloc (.cells #[.int .i64 ev.kd, .int .i64 ev.ch, .int .i64 ev.h, .int .i64 ev.n, .int .i64 ev.p.s, .int .i64 ev.p.k, .int .i64 ev.p.f, .int .i64 ev.p.t, .int .i64 ev.p.m, .int .i64 ev.p.u, .int .i64 ev.p.v] 102))); have HBw7 := hH (HBw6.out.alloc (.cells #[.int .i64 ev.kd, .int .i64 ev.ch, .int .i64 ev.h, .int .i64 ev.n, .int .i64 ev.p.s, .int .i64 ev.p.k, .int .i64 ev.p.f, .int .i64 ev.p.t, .int .i64 ev.p.m, .int .i64 ev.p.u, .int .i64 ev.p.v] 102)); have HBr7 := hH (HBr6.out.alloc (.cells #[.int .i64 ev.kd, .int .i64 ev.ch, .int .i64 ev.h, .int .i64 ev.n, .int .i64 ev.p.s, .int .i64 ev.p.k, .int .i64 ev.p.f, .int .i64 ev.p.t, .int .i64 ev.p.m, .int .i64 ev.p.u, .int .i64 ev.p.v] 102)); have HK7 := hH (HK6.out.alloc (.cells #[.int .i64 ev.kd, .int .i64 ev.ch, .int .i64 ev.h, .int .i64 ev.n, .int .i64 ev.p.s, .int .i64 ev.p.k, .int .i64 ev.p.f, .int .i64 ev.p.t, .int .i64 ev.p.m, .int .i64 ev.p.u, .int .i64 ev.p.v] 102)); have HOW7 := hH (HOW6.out.alloc (.cells #[.int .i64 ev.kd, .int .i64 ev.ch, .int .i64 ev.h, .int .i64 ev.n, .int .i64 ev.p.s, .int .i64 ev.p.k, .int .i64 ev.p.f, .int .i64 ev.p.t, .int .i64 ev.p.m, .int .i64 ev.p.u, .int .i64 ev.p.v] 102)); have HZe := hH (HPL6.out.nz w6.heap.size (Nat.le_refl _))
     have sz7 : w6.heap.size + 1 = (w6.alloc (.cells #[.int .i64 ev.kd, .int .i64 ev.ch, .int .i64 ev.h, .int .i64 ev.n, .int .i64 ev.p.s, .int .i64 ev.p.k, .int .i64 ev.p.f, .int .i64 ev.p.t, .int .i64 ev.p.m, .int .i64 ev.p.u, .int .i64 ev.p.v] 102)).heap.size := by simp
     have HGL := hH (fun b (hb : (Value.slice A l.length c).ownBlock = some b) => (HOW6.out.lt b hb).2); clear HPL6 HBw6 HBr6 HK6 HOW6; generalize w6.alloc (.cells #[.int .i64 ev.kd, .int .i64 ev.ch, .int .i64 ev.h, .int .i64 ev.n, .int .i64 ev.p.s, .int .i64 ev.p.k, .int .i64 ev.p.f, .int .i64 ev.p.t, .int .i64 ev.p.m, .int .i64 ev.p.u, .int .i64 ev.p.v] 102) = w7 at HBe HPL7 HBw7 HBr7 HK7 HOW7 sz7 ⊢; have hb := HBe.out; obtain ⟨e0, e1, e2, e3, e4, e5, e6, e7, e8, e9, e10⟩ := hb.cells11; have ze := hb.lt; clear hb
     go_wp2_with (at_builtin; refine wpList_app1 _ rfl _ _ 84 rfl 102 (.agg zC11) 11 88 Tryd.underlying84 info_ev rfl (by decide) (by decide) _ _ _ rfl HOW7.out _ rfl #[.int .i64 ev.kd, .int .i64 ev.ch, .int .i64 ev.h, .int .i64 ev.n, .int .i64 ev.p.s, .int .i64 ev.p.k, .int .i64 ev.p.f, .int .i64 ev.p.t, .int .i64 ev.p.m, .int .i64 ev.p.u, .int .i64 ev.p.v] _ rfl rfl rfl ?qd ?qe ?_)
     case qd => first | exact one_ev (e := ev) | (repeat' (first | rfl | apply And.intro))
     case qe => omega
     intro A8 c8 w8 ho8 hk8 hf8; have HPL8 := hH (HPL7.out.keeps hk8 fun b hb => ⟨(HGE.out b hb).2, by have := (HGE.out b hb).1; omega⟩); have HBw8 := hH (HBw7.out.keeps hk8 fun h => by have := (HGE.out _ h).1; omega); have HBr8 := hH (HBr7.out.keeps hk8 fun h => by have := (HGE.out _ h).1; omega); have HBe8 := hH (HBe.out.keeps hk8 fun h => by have := HGL.out _ h; omega); have HK8 := hH (HK7.out.then hk8 fun i hi h => by have := (HGE.out i h).1; omega); have HOW8 := hH (show w8.ownsRow 0 102 11 (.slice A8 (l ++ [ev]).length c8) (l ++ [ev]).length (vEs (l ++ [ev])) from by rw [List.length_append, List.length_singleton, vEs_snoc]; exact ho8)
     have HGE8 := hH (fun b (hb : (Value.slice A8 (l ++ [ev]).length c8).ownBlock = some b) => (show w1.heap.size + 1 ≤ b ∧ G b = 0 from by
      rw [List.length_append, List.length_singleton] at hb
      rcases hf8 b hb with h | h
      ·exact HGE.out b h
      ·exact ⟨by omega, HPL7.out.nz b h⟩))
     have sz8 := hk8.size; clear ho8 hk8 hf8 e0 e1 e2 e3 e4 e5 e6 e7 e8 e9 e10 ze HPL7 HBw7 HBr7 HBe HK7 HOW7; have hb := HBe8.out; obtain ⟨e0, e1, e2, e3, e4, e5, e6, e7, e8, e9, e10⟩ := hb.cells11; have ze := hb.lt; clear hb; have hb := HBw8.out; have v0 := hb.cell 0; simp at v0; have zw := hb.lt; clear hb; go_wp2_with fail; refine (show Calls Tryd.prog 79 #[.agg #[.slice (some ⟨m.g, 0, none⟩) 2 2], .agg #[.int .i64 ev.kd, .int .i64 ev.ch, .int .i64 ev.h, .int .i64 ev.n, .int .i64 ev.p.s, .int .i64 ev.p.k, .int .i64 ev.p.f, .int .i64 ev.p.t, .int .i64 ev.p.m, .int .i64 ev.p.u, .int .i64 ev.p.v]] w8 (RetWd G w8 (100 - gk + 1)) from l21Do_any G m ev (100 - gk) w8 HPL8.out.wd HPL8.out.ok (by omega)).mono ?_; intro e W2 hr; obtain ⟨G2, m2, rfl, hpl, hag, hk2⟩ := HPL8.out.turn hr; have HPL := hH hpl; have HBw := hH (HBw8.out.keeps hk2 fun h => h HZw.out); have HBr := hH (HBr8.out.keeps hk2 fun h => h HZr.out); have HZw2 : Hid (G2 w1.heap.size = 0) := hH ((hag _ (by omega)).trans HZw.out); have HZr2 : Hid (G2 w.heap.size = 0) := hH ((hag _ (by omega)).trans HZr.out); have HK := hH (HK8.out.then hk2 fun i hi h => absurd (HPL8.out.z i hi) h); have HOW := hH (owns_keeps HOW8.out hk2 fun b hb h => h (HGE8.out b hb).2); have HGE3 := hH (fun bb (hb : (Value.slice A8 (l ++ [ev]).length c8).ownBlock = some bb) => (show w1.heap.size + 1 ≤ bb ∧ G2 bb = 0 from ⟨(HGE8.out bb hb).1, (hag bb (HOW8.out.lt bb hb).2).trans (HGE8.out bb hb).2⟩)); have szk := hk2.size; clear hpl hag hk2 hr e0 e1 e2 e3 e4 e5 e6 e7 e8 e9 e10 ze v0 zw; unfold WdM.val; have hb := HBw.out; have v0 := hb.cell 0; have f0 := hb.frozen 0; simp at v0; have zw := hb.lt; clear hb; go_wp2; have hb2 := HBw.out.set_ 0 (.slice (some ⟨m2.g, 0, none⟩) 2 2); simp only [List.setIfInBounds_toArray, List.set_cons_zero] at hb2; have kS := (Keeps.refl (fun b => b = w1.heap.size) W2).setCell (p := ⟨w1.heap.size, 0, none⟩) (.inr rfl) (.slice (some ⟨m2.g, 0, none⟩) 2 2)
     go_roundg (gk - 1)
     case measure => omega
     case rel =>
     exact ⟨G2, m2, l ++ [ev], A8, c8, by omega, by go_num, by rw [List.length_append, List.length_singleton], by rw [List.length_append, List.length_singleton]; omega, (play_store HPL.out HZw2.out (by omega) _).more (by omega) (by omega), hb2, HBr.out.keeps kS (fun h => by omega), HZr2.out, HZw2.out, HK.out.then kS (fun i hi h => by omega), owns_keeps HOW.out kS (fun b hb h => by have := (HGE8.out b hb).1; omega), HGE3.out, by simp; omega⟩

def SpS (x x' : StL) : Prop := x' = x ∨ (∃ v, x' = { x with way := v }) ∨ (∃ v, x' = { x with want := v }) ∨ x' = { x with live := x.live ++ [true] } ∨ ∃ k v, x' = { x with got := x.got.set k v }
def BkW (w : World) (lo : Nat) (s : StM) : Prop :=
 w.ownsRow 0 4 1 (.slice s.A3 s.x.back.length s.c3) s.x.back.length (vBs s.x.back) ∧
 ∀ b, (Value.slice s.A3 s.x.back.length s.c3).ownBlock = some b → lo ≤ b ∧ ¬ blk s.A1 s.x.sent.length b ∧ ¬ blk s.A2 s.x.live.length b ∧ ¬ blk s.A4 s.x.got.length b
theorem BkW.keeps {S : Nat → Prop} {w w' : World} {lo lo' : Nat} {s : StM} (h : BkW w lo s) (hk : Keeps S w w') (hl : lo' ≤ lo) (hs : ∀ b, lo ≤ b → (Value.slice s.A3 s.x.back.length s.c3).ownBlock = some b → ¬ S b) : BkW w' lo' s :=
 ⟨owns_keeps h.1 hk fun b hb => hs b (h.2 b hb).1 hb, fun b hb => ⟨Nat.le_trans hl (h.2 b hb).1, (h.2 b hb).2⟩⟩
def RetS0 (w : World) (g : Nat) (lim : Int) (e : Ending) (w' : World) : Prop :=
 ∃ (s : StM) (x : StL), e = .returned s.val ∧ stB x = true ∧ SpS x s.x ∧ s.At w' ∧ (∀ b, s.bl b → w.heap.size ≤ b) ∧ Rd w' g lim ∧ Keeps (one g) w w'
def RetS (w : World) (g : Nat) (lim : Int) (e : Ending) (w' : World) : Prop :=
 ∃ (s : StM) (x : StL), e = .returned s.val ∧ stB x = true ∧ SpS x s.x ∧ s.At w' ∧ (∀ b, s.bl b → w.heap.size ≤ b) ∧ BkW w' w.heap.size s ∧ Rd w' g lim ∧ Keeps (one g) w w'
def StW (G : Nat → Nat) (w : World) (n0 : Nat) (s : StM) : Prop := ∃ i, StR G (rl i) w s ∧ ∀ b, b < n0 → G b = 0
theorem StW.ge {G : Nat → Nat} {w : World} {n0 : Nat} {s : StM} (h : StW G w n0 s) {b : Nat} (hb : s.bl b) : n0 ≤ b := by
 obtain ⟨i, hs, hz⟩ := h
 rcases Nat.lt_or_ge b n0 with hl | hl
 ·have h0 := hz b hl
  have r : ∀ k, G b = rl i k → False := fun k e => by rw [h0] at e; unfold rl at e; omega
  rcases hb with hb | hb | hb | hb
  ·exact (r 0 (hs.1.2 b (blk_owned hb))).elim
  ·exact (r 1 (hs.2.1.2 b (blk_owned hb))).elim
  ·exact (r 2 (hs.2.2.1.2 b (blk_owned hb))).elim
  ·exact (r 3 (hs.2.2.2.2 b (blk_owned hb))).elim
 ·exact hl
theorem StW.keeps {S : Nat → Prop} {G : Nat → Nat} {w w' : World} {n0 : Nat} {s : StM} (h : StW G w n0 s) (hk : Keeps S w w') (hs : ∀ b, G b ≠ 0 → ¬ S b) : StW G w' n0 s := by
 obtain ⟨i, hr, hz⟩ := h; exact ⟨i, hr.keeps hk fun b k _ e => hs b (by rw [e]; unfold rl; omega), hz⟩
theorem StW.at_ {G : Nat → Nat} {w : World} {n0 : Nat} {s : StM} (h : StW G w n0 s) : s.At w := by
 obtain ⟨i, hr, _⟩ := h; exact hr.at_
theorem StW.bk {G : Nat → Nat} {w : World} {n0 : Nat} {s : StM} (h : StW G w n0 s) : BkW w n0 s := by
 obtain ⟨i, hs, hz⟩ := h; refine ⟨hs.2.2.1.1, fun b hb => ?_⟩; have hG := hs.2.2.1.2 b hb; refine ⟨?_, fun h => ?_, fun h => ?_, fun h => ?_⟩
 ·rcases Nat.lt_or_ge b n0 with hl | hl
  ·rw [hz b hl] at hG
   unfold rl at hG
   omega
  ·exact hl
 ·have := hs.1.2 b (blk_owned h)
  rw [hG] at this; unfold rl at this
  omega
 ·have := hs.2.1.2 b (blk_owned h)
  rw [hG] at this; unfold rl at this
  omega
 ·have := hs.2.2.2.2 b (blk_owned h)
  rw [hG] at this; unfold rl at this
  omega
def stW (W : World) (r : Nat) (s : StM) : World := (((((((W.setCell ⟨r, 0, none⟩ (.int .i64 s.x.way)).setCell ⟨r, 1, none⟩ (.int .i64 s.x.ver)).setCell ⟨r, 2, none⟩ (.int .i64 s.x.want)).setCell ⟨r, 3, none⟩ (.slice s.A1 s.x.sent.length s.c1)).setCell ⟨r, 4, none⟩ (.slice s.A2 s.x.live.length s.c2)).setCell ⟨r, 5, none⟩ (.slice s.A3 s.x.back.length s.c3)).setCell ⟨r, 6, none⟩ (.slice s.A4 s.x.got.length s.c4))
theorem stW_keeps (W : World) (r : Nat) (s : StM) : Keeps (fun b => b = r) W (stW W r s) := ((((((((Keeps.refl (fun b => b = r) W).setCell (p := ⟨r, 0, none⟩) (.inr rfl) (.int .i64 s.x.way)).setCell (p := ⟨r, 1, none⟩) (.inr rfl) (.int .i64 s.x.ver)).setCell (p := ⟨r, 2, none⟩) (.inr rfl) (.int .i64 s.x.want)).setCell (p := ⟨r, 3, none⟩) (.inr rfl) (.slice s.A1 s.x.sent.length s.c1)).setCell (p := ⟨r, 4, none⟩) (.inr rfl) (.slice s.A2 s.x.live.length s.c2)).setCell (p := ⟨r, 5, none⟩) (.inr rfl) (.slice s.A3 s.x.back.length s.c3)).setCell (p := ⟨r, 6, none⟩) (.inr rfl) (.slice s.A4 s.x.got.length s.c4))
theorem stW_box {W : World} {r : Nat} {v0 v1 v2 v3 v4 v5 v6 : Value} (h : Box W r 27 #[v0, v1, v2, v3, v4, v5, v6]) (s : StM) : Box (stW W r s) r 27 (smC s) := by
 have hb := (((((((h.set_ 0 (.int .i64 s.x.way)).set_ 1 (.int .i64 s.x.ver)).set_ 2 (.int .i64 s.x.want)).set_ 3 (.slice s.A1 s.x.sent.length s.c1)).set_ 4 (.slice s.A2 s.x.live.length s.c2)).set_ 5 (.slice s.A3 s.x.back.length s.c3)).set_ 6 (.slice s.A4 s.x.got.length s.c4)); simp only [sx] at hb; exact hb
theorem stW_cells {W : World} {r : Nat} {v0 v1 v2 v3 v4 v5 v6 : Value} (h : Box W r 27 #[v0, v1, v2, v3, v4, v5, v6]) (s : StM) : (stW W r s).cell? ⟨r, 0, none⟩ = some (.int .i64 s.x.way) ∧ (stW W r s).cell? ⟨r, 1, none⟩ = some (.int .i64 s.x.ver) ∧ (stW W r s).cell? ⟨r, 2, none⟩ = some (.int .i64 s.x.want) ∧ (stW W r s).cell? ⟨r, 3, none⟩ = some (.slice s.A1 s.x.sent.length s.c1) ∧ (stW W r s).cell? ⟨r, 4, none⟩ = some (.slice s.A2 s.x.live.length s.c2) ∧ (stW W r s).cell? ⟨r, 5, none⟩ = some (.slice s.A3 s.x.back.length s.c3) ∧ (stW W r s).cell? ⟨r, 6, none⟩ = some (.slice s.A4 s.x.got.length s.c4) := by
 have hb := stW_box h s; obtain ⟨s0, s1, s2, s3, s4, s5, s6⟩ := hb.cells7; exact ⟨s0, s1, s2, s3, s4, s5, s6⟩
theorem pick_st {G : Nat → Nat} {W : World} {m : WdM} {g : Nat} {lim : Int} {q n0 xn : Nat} (h : Pl G W m g lim q n0) (hx : xn = 0 ∨ xn = 1) : ∃ st : StM, stB st.x = true ∧ StW G W n0 st ∧ (W.cell? ⟨m.g, xn * 13 + 4, none⟩ = some (.int .i64 st.x.way) ∧ W.cell? ⟨m.g, xn * 13 + 5, none⟩ = some (.int .i64 st.x.ver) ∧ W.cell? ⟨m.g, xn * 13 + 6, none⟩ = some (.int .i64 st.x.want) ∧ W.cell? ⟨m.g, xn * 13 + 7, none⟩ = some (.slice st.A1 st.x.sent.length st.c1) ∧ W.cell? ⟨m.g, xn * 13 + 8, none⟩ = some (.slice st.A2 st.x.live.length st.c2) ∧ W.cell? ⟨m.g, xn * 13 + 9, none⟩ = some (.slice st.A3 st.x.back.length st.c3) ∧ W.cell? ⟨m.g, xn * 13 + 10, none⟩ = some (.slice st.A4 st.x.got.length st.c4)) := by
 have hb := h.wd.1
 rcases hx with rfl | rfl
 ·exact ⟨m.a.st, h.ok.a.st, ⟨0, h.wd.2.2.1.2.1, h.z⟩, (by rw [hb.cell _]; rfl), (by rw [hb.cell _]; rfl), (by rw [hb.cell _]; rfl), (by rw [hb.cell _]; rfl), (by rw [hb.cell _]; rfl), (by rw [hb.cell _]; rfl), (by rw [hb.cell _]; rfl)⟩
 ·exact ⟨m.b.st, h.ok.b.st, ⟨1, h.wd.2.2.2.2.1, h.z⟩, (by rw [hb.cell _]; rfl), (by rw [hb.cell _]; rfl), (by rw [hb.cell _]; rfl), (by rw [hb.cell _]; rfl), (by rw [hb.cell _]; rfl), (by rw [hb.cell _]; rfl), (by rw [hb.cell _]; rfl)⟩
theorem l71State_any (g : Nat) (lim : Int) (w : World) (hr : Rd w g lim) (hl : lim ≤ 90000) : Calls Tryd.prog 49 #[.pointer (some ⟨g, 0, none⟩)] w (RetS w g (lim + 1010)) := by
 have hgw := hr.lt; have HBr := hH (Box.new w _ rfl 27 zCS); have HK := hH ((Keeps.refl (one g) w).alloc (.cells zCS 27)); have HRD := hH (hr.alloc (.cells zCS 27))
 have hs0 : w.heap.size + 1 = (w.alloc (.cells zCS 27)).heap.size := by simp
 clear hr
 go_enter Tryd.func49, Tryd.ntmps49
 go_wp2_with fail; generalize w.alloc (.cells zCS 27) = w0 at HBr HK HRD hs0 ⊢; refine (l71Play_any g lim w0 HRD.out (by omega)).mono ?_; rintro e w1 ⟨G, m, l, A, c, rfl, hpl, -, -, -, hk⟩; have HPL := hH hpl; have HBr1 := hH (HBr.out.keeps hk fun h => by have h' : w.heap.size = g := h; omega); have HK1 := hH (HK.out.trans hk); have sz1 := hk.size; have HZr : Hid (G w.heap.size = 0) := hH (hpl.z _ (by omega)); have HZw : Hid (G w1.heap.size = 0) := hH (hpl.nz _ (Nat.le_refl _)); have HNZ := hH hpl.nz; clear hpl hk HBr HK HRD; unfold WdM.val
 go_upto_region 2 with fail
 have HBw := hH (Box.new w1 _ rfl 87 #[.slice (some ⟨m.g, 0, none⟩) 2 2]); have HBr2 := hH (HBr1.out.alloc (.cells #[.slice (some ⟨m.g, 0, none⟩) 2 2] 87)); have HK2 := hH (HK1.out.alloc (.cells #[.slice (some ⟨m.g, 0, none⟩) 2 2] 87)); have HPL2 := hH (HPL.out.kept ((Keeps.refl noBlk w1).alloc (.cells #[.slice (some ⟨m.g, 0, none⟩) 2 2] 87)))
 have sz2 : w1.heap.size + 1 = (w1.alloc (.cells #[.slice (some ⟨m.g, 0, none⟩) 2 2] 87)).heap.size := by simp
 clear HBr1 HK1 HPL; generalize w1.alloc (.cells #[.slice (some ⟨m.g, 0, none⟩) 2 2] 87) = w2 at HBw HBr2 HK2 HPL2 sz2 ⊢
 go_cut [5] from 7 to 17 (fun x wx => ∃ (gk : Nat) (st : StM), x = .pointer (some ⟨gk, 0, none⟩) ∧ Box wx gk 27 (smC st) ∧ w0.heap.size + 1 ≤ gk ∧ G gk = 0 ∧ stB st.x = true ∧ StW G wx w0.heap.size st ∧ Rd wx g (lim + 1001) ∧ Box wx (w.heap.size) 27 zCS ∧ Keeps (one g) w wx)
 case first =>
  have TKv : True := trivial; have hb := HBw.out; have v0 := hb.cell 0; simp at v0; have zw := hb.lt; clear hb
  have : ¬ w1.heap.size = w2.heap.size := by omega
  have : ¬ w2.heap.size = w1.heap.size := by omega
  have hng := HPL2.out.ng
  go_region_with (first | (go_at_call 43; refine (pick_any g (lim + 1000) 2 _ (HPL2.out.rd.drewN 1) (by omega) (by omega) (by omega)).mono ?_; rintro e v1 ⟨x1, rfl, xa1, xb1, hrd, hk⟩; have hq := ((Keeps.refl (one g) w2).drewN 1).trans hk; have HPL3 := hH (HPL2.out.one hq (hrd.more (lim' := lim + 1001) (by omega))); have HBr3 := hH (HBr2.out.keeps hq (nq (by omega))); have HBw3 := hH (HBw.out.keeps hq (nq (by omega))); have HK3 := hH (HK2.out.trans hq); obtain ⟨xn, rfl⟩ := Int.eq_ofNat_of_zero_le xa1; have hxn : xn = 0 ∨ xn = 1 := (by omega); have hxi : (xn : Int) < 2 := (by omega); have HY9 : ∃ st : StM, stB st.x = true ∧ StW G v1 w0.heap.size st ∧ (v1.cell? ⟨m.g, xn * 13 + 4, none⟩ = some (.int .i64 st.x.way) ∧ v1.cell? ⟨m.g, xn * 13 + 5, none⟩ = some (.int .i64 st.x.ver) ∧ v1.cell? ⟨m.g, xn * 13 + 6, none⟩ = some (.int .i64 st.x.want) ∧ v1.cell? ⟨m.g, xn * 13 + 7, none⟩ = some (.slice st.A1 st.x.sent.length st.c1) ∧ v1.cell? ⟨m.g, xn * 13 + 8, none⟩ = some (.slice st.A2 st.x.live.length st.c2) ∧ v1.cell? ⟨m.g, xn * 13 + 9, none⟩ = some (.slice st.A3 st.x.back.length st.c3) ∧ v1.cell? ⟨m.g, xn * 13 + 10, none⟩ = some (.slice st.A4 st.x.got.length st.c4)) := pick_st HPL3.out hxn; obtain ⟨st, hst, hsw, y0, y1, y2, y3, y4, y5, y6⟩ := HY9; have lgm := HPL3.out.wd.1.lt; have HST := hH hst; have HSW := hH hsw; have z1y : v1.cell? ⟨m.g, xn * 13 + 4 + 1, none⟩ = _ := y1; have z2y : v1.cell? ⟨m.g, xn * 13 + 4 + 2, none⟩ = _ := y2; have z3y : v1.cell? ⟨m.g, xn * 13 + 4 + 3, none⟩ = _ := y3; have z4y : v1.cell? ⟨m.g, xn * 13 + 4 + 4, none⟩ = _ := y4; have z5y : v1.cell? ⟨m.g, xn * 13 + 4 + 5, none⟩ = _ := y5; have z6y : v1.cell? ⟨m.g, xn * 13 + 4 + 6, none⟩ = _ := y6; clear hst hsw; have hb := HBw3.out; have v0' := hb.cell 0; simp at v0'; have zw' := hb.lt; clear hb; have szv1 := hq.size; (try simp at szv1); have : ¬ m.g = v1.heap.size := (by omega); have : ¬ w1.heap.size = v1.heap.size := (by omega); clear hrd hk hq hxn) | (go_at_call 43; refine (pick_any g (lim + 1000) 2 _ ((HPL2.out.rd.alloc (.cells zCS 27)).drewN 1) (by omega) (by omega) (by omega)).mono ?_; rintro e v1 ⟨x1, rfl, xa1, xb1, hrd, hk⟩; have hq := ((Keeps.refl (one g) (w2.alloc (.cells zCS 27))).drewN 1).trans hk; have HPL3 := hH ((HPL2.out.kept ((Keeps.refl noBlk w2).alloc (.cells zCS 27))).one hq (hrd.more (lim' := lim + 1001) (by omega))); have HBr3 := hH ((HBr2.out.alloc (.cells zCS 27)).keeps hq (nq (by omega))); have HBw3 := hH ((HBw.out.alloc (.cells zCS 27)).keeps hq (nq (by omega))); have HK3 := hH ((HK2.out.alloc (.cells zCS 27)).trans hq); obtain ⟨xn, rfl⟩ := Int.eq_ofNat_of_zero_le xa1; have hxn : xn = 0 ∨ xn = 1 := (by omega); have hxi : (xn : Int) < 2 := (by omega); have HY9 : ∃ st : StM, stB st.x = true ∧ StW G v1 w0.heap.size st ∧ (v1.cell? ⟨m.g, xn * 13 + 4, none⟩ = some (.int .i64 st.x.way) ∧ v1.cell? ⟨m.g, xn * 13 + 5, none⟩ = some (.int .i64 st.x.ver) ∧ v1.cell? ⟨m.g, xn * 13 + 6, none⟩ = some (.int .i64 st.x.want) ∧ v1.cell? ⟨m.g, xn * 13 + 7, none⟩ = some (.slice st.A1 st.x.sent.length st.c1) ∧ v1.cell? ⟨m.g, xn * 13 + 8, none⟩ = some (.slice st.A2 st.x.live.length st.c2) ∧ v1.cell? ⟨m.g, xn * 13 + 9, none⟩ = some (.slice st.A3 st.x.back.length st.c3) ∧ v1.cell? ⟨m.g, xn * 13 + 10, none⟩ = some (.slice st.A4 st.x.got.length st.c4)) := pick_st HPL3.out hxn; obtain ⟨st, hst, hsw, y0, y1, y2, y3, y4, y5, y6⟩ := HY9; have lgm := HPL3.out.wd.1.lt; have HST := hH hst; have HSW := hH hsw; have z1y : v1.cell? ⟨m.g, xn * 13 + 4 + 1, none⟩ = _ := y1; have z2y : v1.cell? ⟨m.g, xn * 13 + 4 + 2, none⟩ = _ := y2; have z3y : v1.cell? ⟨m.g, xn * 13 + 4 + 3, none⟩ = _ := y3; have z4y : v1.cell? ⟨m.g, xn * 13 + 4 + 4, none⟩ = _ := y4; have z5y : v1.cell? ⟨m.g, xn * 13 + 4 + 5, none⟩ = _ := y5; have z6y : v1.cell? ⟨m.g, xn * 13 + 4 + 6, none⟩ = _ := y6; clear hst hsw; have hb := HBw3.out; have v0' := hb.cell 0; simp at v0'; have zw' := hb.lt; clear hb; have szv1 := hq.size; (try simp at szv1); clear TKv; have TH0 : True := trivial; have HBk9 := hH ((Box.new w2 _ rfl 27 zCS).keeps hq (nq (by omega))); have hb8 := HBk9.out; obtain ⟨kf0, kf1, kf2, kf3, kf4, kf5, kf6⟩ := hb8.fz7; obtain ⟨k90, k91, k92, k93, k94, k95, k96⟩ := hb8.cells7; have zk9 := hb8.lt; clear hb8; have : ¬ m.g = w2.heap.size := (by have := HPL2.out.wd.1.lt; omega); have : ¬ w2.heap.size = m.g := (by have := HPL2.out.wd.1.lt; omega); clear hrd hk hq hxn))
  all_goals go_wp2_with fail
  all_goals go_meet
  all_goals first | (have _t := TKv; exact ⟨_, st, rfl, Box.new v1 _ rfl 27 _, by omega, HNZ.out _ (by omega), HST.out, HSW.out.keeps ((Keeps.refl noBlk v1).alloc _) (fun _ _ h => h), HPL3.out.rd.alloc _, HBr3.out.alloc _, HK3.out.alloc _⟩) | (have _t := TH0; exact ⟨_, st, rfl, stW_box HBk9.out st, by omega, HNZ.out _ (by omega), HST.out, HSW.out.keeps (stW_keeps _ _ st) (fun b hb h => by subst h; exact hb (HNZ.out _ (by omega))), HPL3.out.rd.keeps (stW_keeps _ _ st) (fun b hb h => by have h' : b = w2.heap.size := h; omega), HBr3.out.keeps (stW_keeps _ _ st) (nq (by omega)), HK3.out.then (stW_keeps _ _ st) (fun i hi h => by have h' : i = w2.heap.size := h; omega)⟩)
 case rest =>
  obtain ⟨gk, st, rfl, hbk, hgk, hzk, hst, hsw, hrd, hbr, hkk⟩ := hcut; obtain ⟨⟨way, ver, want, sent, live, back, got⟩, A1, A2, A3, A4, c1, c2, c3, c4⟩ := st; dsimp only at hbk hst; obtain ⟨w3, hww⟩ : ∃ x, x = wc := ⟨_, rfl⟩; subst hww; have HBk := hH hbk; have HZk := hH hzk; have HST := hH hst; have HSW := hH hsw; have HBr := hH hbr; have HK := hH hkk; have HRD := hH hrd; have HZR := HZr; clear hbk hzk hst hsw hbr hkk hrd HBr2 HK2 HPL2 HBw HNZ HZr HZw; have zk := HBk.out.lt; go_wp2_with fail; refine (pick_any g (lim + 1001) 24 _ HRD.out (by omega) (by omega) (by omega)).mono ?_; rintro e w4 ⟨p, rfl, pa, pb, hrd, hk⟩; have hsw := HSW.out.keeps hk (fun b hb h => by have h' : b = g := h; subst h'; obtain ⟨_, _, hz⟩ := HSW.out; exact hb (hz b (by omega))); have hbk := HBk.out.keeps hk (nq (by omega)); have hbr := HBr.out.keeps hk (nq (by omega)); have hkk := HK.out.trans hk; have sz4 := hk.size; clear HSW HBk HBr HK HRD hk; have HBk := hH hbk; have HSW := hH hsw; have HBr := hH hbr; have HK := hH hkk; have HRD := hH (hrd.more (lim' := lim + 1002) (by omega)); clear hbk hsw hbr hkk hrd
  go_upto_block 0 with fail
  go_cut [5] from 20 to 50 (fun x5 wx => x5 = .pointer (some ⟨gk, 0, none⟩) ∧ ∃ s : StM, SpS (⟨way, ver, want, sent, live, back, got⟩ : StL) s.x ∧ Box wx gk 27 (smC s) ∧ s.At wx ∧ (∀ b, s.bl b → w0.heap.size ≤ b) ∧ BkW wx w0.heap.size s ∧ Rd wx g (lim + 1010) ∧ Box wx (w.heap.size) 27 zCS ∧ Keeps (one g) w wx)
  case first =>
   obtain hc | hc | hc | hc | hc : p = 0 ∨ p = 1 ∨ p = 2 ∨ p = 3 ∨ 4 ≤ p := by omega
   ·skip
    have e0 : (p == 0) = true := by simp; omega
    clear hc; go_wp2_with fail; refine (pick_any g (lim + 1002) 7 _ HRD.out (by omega) (by omega) (by omega)).mono ?_; rintro e w5 ⟨v, rfl, va, vb, hrd, hk⟩; have hsw := HSW.out.keeps hk (fun b hb h => by have h' : b = g := h; subst h'; obtain ⟨_, _, hz⟩ := HSW.out; exact hb (hz b (by omega))); have hbk := HBk.out.keeps hk (nq (by omega)); have hbr := HBr.out.keeps hk (nq (by omega)); have hkk := HK.out.trans hk; have szw5 := hk.size; clear HSW HBk HBr HK HRD hk; have HBk := hH hbk; have HSW := hH hsw; have HBr := hH hbr; have HK := hH hkk; have HRD := hH (hrd.more (lim' := lim + 1003) (by omega)); clear hbk hsw hbr hkk hrd; have hb := HBk.out; obtain ⟨k0, k1, k2, k3, k4, k5, k6⟩ := hb.cells7; obtain ⟨kf0, kf1, kf2, kf3, kf4, kf5, kf6⟩ := hb.fz7; have zk := hb.lt; clear hb; go_wp2_with fail; have kS := (Keeps.refl (fun b => b = gk) w5).setCell (p := ⟨gk, 0, none⟩) (.inr rfl) (.int .i64 (v - 1))
    have HSX := HSW.out.keeps kS fun b hb h => by subst h; exact hb HZk.out
    have hbk9 := HBk.out.set_ 0 (.int .i64 (v - 1)); simp only [sx] at hbk9
    go_meet
    exact ⟨rfl, (⟨⟨(v - 1), ver, want, sent, live, back, got⟩, A1, A2, A3, A4, c1, c2, c3, c4⟩ : StM), .inr (.inl ⟨_, rfl⟩), hbk9, (show StM.At (w5.setCell ⟨gk, 0, none⟩ (.int .i64 (v - 1))) (⟨⟨(v - 1), ver, want, sent, live, back, got⟩, A1, A2, A3, A4, c1, c2, c3, c4⟩ : StM) from HSX.at_), fun b (hb : StM.bl (⟨⟨(v - 1), ver, want, sent, live, back, got⟩, A1, A2, A3, A4, c1, c2, c3, c4⟩ : StM) b) => HSX.ge hb, (show BkW (w5.setCell ⟨gk, 0, none⟩ (.int .i64 (v - 1))) w0.heap.size (⟨⟨(v - 1), ver, want, sent, live, back, got⟩, A1, A2, A3, A4, c1, c2, c3, c4⟩ : StM) from HSX.bk), (HRD.out.keeps kS fun b hb h => by omega).more (by omega), HBr.out.keeps kS (fun h => by omega), HK.out.then kS fun i hi h => by omega⟩
   ·skip
    have e0 : (p == 0) = false := by simp; omega
    have e1 : (p == 1) = true := by simp; omega
    clear hc; go_wp2_with fail; refine (pick_any g (lim + 1002) 4 _ HRD.out (by omega) (by omega) (by omega)).mono ?_; rintro e w5 ⟨v, rfl, va, vb, hrd, hk⟩; have hsw := HSW.out.keeps hk (fun b hb h => by have h' : b = g := h; subst h'; obtain ⟨_, _, hz⟩ := HSW.out; exact hb (hz b (by omega))); have hbk := HBk.out.keeps hk (nq (by omega)); have hbr := HBr.out.keeps hk (nq (by omega)); have hkk := HK.out.trans hk; have szw5 := hk.size; clear HSW HBk HBr HK HRD hk; have HBk := hH hbk; have HSW := hH hsw; have HBr := hH hbr; have HK := hH hkk; have HRD := hH (hrd.more (lim' := lim + 1003) (by omega)); clear hbk hsw hbr hkk hrd; have hb := HBk.out; obtain ⟨k0, k1, k2, k3, k4, k5, k6⟩ := hb.cells7; obtain ⟨kf0, kf1, kf2, kf3, kf4, kf5, kf6⟩ := hb.fz7; have zk := hb.lt; clear hb; go_wp2_with fail; have kS := (Keeps.refl (fun b => b = gk) w5).setCell (p := ⟨gk, 2, none⟩) (.inr rfl) (.int .i64 (v))
    have HSX := HSW.out.keeps kS fun b hb h => by subst h; exact hb HZk.out
    have hbk9 := HBk.out.set_ 2 (.int .i64 (v)); simp only [sx] at hbk9
    go_meet
    exact ⟨rfl, (⟨⟨way, ver, v, sent, live, back, got⟩, A1, A2, A3, A4, c1, c2, c3, c4⟩ : StM), .inr (.inr (.inl ⟨_, rfl⟩)), hbk9, (show StM.At (w5.setCell ⟨gk, 2, none⟩ (.int .i64 (v))) (⟨⟨way, ver, v, sent, live, back, got⟩, A1, A2, A3, A4, c1, c2, c3, c4⟩ : StM) from HSX.at_), fun b (hb : StM.bl (⟨⟨way, ver, v, sent, live, back, got⟩, A1, A2, A3, A4, c1, c2, c3, c4⟩ : StM) b) => HSX.ge hb, (show BkW (w5.setCell ⟨gk, 2, none⟩ (.int .i64 (v))) w0.heap.size (⟨⟨way, ver, v, sent, live, back, got⟩, A1, A2, A3, A4, c1, c2, c3, c4⟩ : StM) from HSX.bk), (HRD.out.keeps kS fun b hb h => by omega).more (by omega), HBr.out.keeps kS (fun h => by omega), HK.out.then kS fun i hi h => by omega⟩
   ·skip
    have e0 : (p == 0) = false := by simp; omega
    have e1 : (p == 1) = false := by simp; omega
    have e2 : (p == 2) = true := by simp; omega
    clear hc; have hb := HBk.out; obtain ⟨k0, k1, k2, k3, k4, k5, k6⟩ := hb.cells7; obtain ⟨kf0, kf1, kf2, kf3, kf4, kf5, kf6⟩ := hb.fz7; have zk := hb.lt; clear hb; have hl8 : live.length ≤ 8 := (stB_lenW HST.out).2.1; obtain ⟨ii, hsr, hzz⟩ := HSW.out; have HSR := hH hsr; have HZZ := hH hzz; clear hsr hzz
    go_wp2_with (at_builtin; refine wpList_app1 _ rfl _ _ 24 rfl 4 (.bool false) 1 1 Tryd.underlying24 info_bool rfl (by decide) (by decide) _ _ _ rfl HSR.out.2.1.1 _ rfl #[.bool true] _ rfl rfl rfl ?qd ?qe ?_)
    case qd => first | exact one_bools (xs := [true]) | (repeat' (first | rfl | apply And.intro))
    case qe => omega
    intro A8 c8 w5 ho8 hk8 hf8; have HL1 := hH (fun b (hb : (Value.slice A2 live.length c2).ownBlock = some b) => HSR.out.2.1.2 b hb)
    have nK : ∀ b, G b = 0 → ¬ (Value.slice A2 live.length c2).ownBlock = some b := fun b h0 hb => by have := HL1.out b hb; rw [h0] at this; unfold rl at this; omega
    have HBk5 := hH (HBk.out.keeps hk8 (nK _ HZk.out)); have HBr5 := hH (HBr.out.keeps hk8 (nK _ HZR.out)); have HRD5 := hH (HRD.out.keeps hk8 fun b hb => nK b (HZZ.out b (by omega))); have HK5 := hH (HK.out.then hk8 fun i hi h => absurd h (nK i (HZZ.out i (by omega))))
    have hpk := HSR.out.1.keeps hk8 fun b e h => by have := HL1.out b h; rw [e] at this; unfold rl at this; omega
    have hbk2 := HSR.out.2.2.1.keeps hk8 fun b e h => by have := HL1.out b h; rw [e] at this; unfold rl at this; omega
    have hgt := HSR.out.2.2.2.keeps hk8 fun b e h => by have := HL1.out b h; rw [e] at this; unfold rl at this; omega
    have HO8 := hH (show w5.ownsRow 0 4 1 (.slice A8 (live ++ [true]).length c8) (live ++ [true]).length (vBs (live ++ [true])) from by rw [List.length_append, List.length_singleton, vBs_snoc]; exact ho8); have HAT8 := hH (show StM.At w5 (⟨⟨way, ver, want, sent, live ++ [true], back, got⟩, A1, A8, A3, A4, c1, c8, c3, c4⟩ : StM) from ⟨⟨owns_pks hpk.1, owns_bools HO8.out, owns_bools hbk2.1, owns_ints hgt.1⟩, (owns_cells hpk.1).1, (owns_cells HO8.out).1, (owns_cells hbk2.1).1, (owns_cells hgt.1).1⟩)
    have HGE8 := hH (fun b (hb : StM.bl (⟨⟨way, ver, want, sent, live ++ [true], back, got⟩, A1, A8, A3, A4, c1, c8, c3, c4⟩ : StM) b) => (show w0.heap.size ≤ b from by
     have hsw : StW G w4 w0.heap.size (⟨⟨way, ver, want, sent, live, back, got⟩, A1, A2, A3, A4, c1, c2, c3, c4⟩ : StM) := ⟨ii, HSR.out, HZZ.out⟩
     rcases hb with hb | hb | hb | hb
     ·exact hsw.ge (.inl hb)
     ·have hb2 := blk_owned (c := c8) hb
      dsimp only at hb2; rw [List.length_append, List.length_singleton] at hb2
      rcases hf8 b hb2 with h | h
      ·rcases Nat.lt_or_ge b w0.heap.size with hl | hl
       ·exact absurd h (nK b (HZZ.out b hl))
       ·exact hl
      ·omega
     ·exact hsw.ge (.inr (.inr (.inl hb)))
     ·exact hsw.ge (.inr (.inr (.inr hb)))))
    have HBW8 := hH (show BkW w5 w0.heap.size (⟨⟨way, ver, want, sent, live ++ [true], back, got⟩, A1, A8, A3, A4, c1, c8, c3, c4⟩ : StM) from by
     refine ⟨hbk2.1, fun b hb => ?_⟩; have hsw : StW G w4 w0.heap.size (⟨⟨way, ver, want, sent, live, back, got⟩, A1, A2, A3, A4, c1, c2, c3, c4⟩ : StM) := ⟨ii, HSR.out, HZZ.out⟩; obtain ⟨q1, q2, q3, q4⟩ := hsw.bk.2 b hb; refine ⟨q1, q2, fun h => ?_, q4⟩; have hb2 := blk_owned (c := c8) h; dsimp only at hb2; rw [List.length_append, List.length_singleton] at hb2
     rcases hf8 b hb2 with h | h
     ·have h1 := HL1.out b h
      rw [HSR.out.2.2.1.2 b hb] at h1; unfold rl at h1
      omega
     ·have := (HSR.out.2.2.1.1.lt b hb).2
      omega)
    have HNK8 := hH (show ¬ StM.bl (⟨⟨way, ver, want, sent, live ++ [true], back, got⟩, A1, A8, A3, A4, c1, c8, c3, c4⟩ : StM) gk from fun hb => by
     rcases hb with hb | hb | hb | hb
     ·have := HSR.out.1.2 gk (blk_owned hb); rw [HZk.out] at this; unfold rl at this; omega
     ·have hb2 := blk_owned (c := c8) hb
      dsimp only at hb2; rw [List.length_append, List.length_singleton] at hb2
      rcases hf8 gk hb2 with h | h
      ·exact nK gk HZk.out h
      ·omega
     ·have := HSR.out.2.2.1.2 gk (blk_owned hb); rw [HZk.out] at this; unfold rl at this; omega
     ·have := HSR.out.2.2.2.2 gk (blk_owned hb); rw [HZk.out] at this; unfold rl at this; omega)
    have sz8 := hk8.size; clear ho8 hf8 hk8 hpk hbk2 hgt nK HSW HBk HBr HRD HK k0 kf0 k1 kf1 k2 kf2 k3 kf3 k4 kf4 k5 kf5 k6 kf6 zk; have hb := HBk5.out; obtain ⟨k0, k1, k2, k3, k4, k5, k6⟩ := hb.cells7; obtain ⟨kf0, kf1, kf2, kf3, kf4, kf5, kf6⟩ := hb.fz7; have zk := hb.lt; clear hb; go_wp2_with fail; have kS := (Keeps.refl (fun b => b = gk) w5).setCell (p := ⟨gk, 4, none⟩) (.inr rfl) (.slice A8 (live.length + 1) c8); have hbk9 := HBk5.out.set_ 4 (.slice A8 (live.length + 1) c8); simp only [sx] at hbk9
    have hll : (live ++ [true]).length = live.length + 1 := by rw [List.length_append, List.length_singleton]
    rw [← hll] at hbk9
    have hww : (w5.setCell ⟨gk, 4, none⟩ (.slice A8 (live.length + 1) c8)) = w5.setCell ⟨gk, 4, none⟩ (.slice A8 (live ++ [true]).length c8) := by rw [hll]
    rw [← hww] at hbk9
    have HBWx := HBW8.out.keeps kS (Nat.le_refl _) fun b _ hb h => by have h' : b = gk := h; subst h'; have := HSR.out.2.2.1.2 _ hb; rw [HZk.out] at this; unfold rl at this; omega
    go_meet
    exact ⟨rfl, (⟨⟨way, ver, want, sent, (live ++ [true]), back, got⟩, A1, A8, A3, A4, c1, c8, c3, c4⟩ : StM), .inr (.inr (.inr (.inl rfl))), hbk9, HAT8.out.keeps kS fun b hb h => by subst h; exact HNK8.out hb, HGE8.out, HBWx, (HRD5.out.keeps kS fun b hb h => by omega).more (by omega), HBr5.out.keeps kS (fun h => by omega), HK5.out.then kS fun i hi h => by omega⟩
   ·skip
    have e0 : (p == 0) = false := by simp; omega
    have e1 : (p == 1) = false := by simp; omega
    have e2 : (p == 2) = false := by simp; omega
    have e3 : (p == 3) = true := by simp; omega
    clear hc; have hg8 : got.length = 8 := (stB_ok HST.out).2.2.2.1
    have hlb : (got.length : Int) ≤ 8 := by omega
    have hlp : (8 : Int) ≤ (got.length : Int) := by omega
    obtain ⟨ii, hsr, hzz⟩ := HSW.out; have HSR := hH hsr; have HZZ := hH hzz; clear hsr hzz; obtain ⟨bg, og, eG, hbg0⟩ : ∃ b o, A4 = some ⟨b, o, none⟩ ∧ b < w4.heap.size := (owns_ints HSR.out.2.2.2.1).addr (show 0 < got.length by omega); obtain ⟨_, _, hgc⟩ := owns_cells HSR.out.2.2.2.1; obtain ⟨g4, e4, hg4, hgcell, hgfz⟩ := hgc _ eG
    injection e4 with e4 e5
    subst e4; subst e5; have HCE := hH hgcell; have HFZ := hH hgfz; have HG4 : Hid (G bg = rl ii 3) := hH (HSR.out.2.2.2.2 bg (by rw [eG]; rfl)); have HEG := hH eG; have HG8 := hH hg8; clear hgcell hgfz hgc eG hg8
    have hgg : ¬ bg = g := fun e => by have h1 := HG4.out; rw [e, HZZ.out g (by omega)] at h1; unfold rl at h1; omega
    have hgk : ¬ bg = gk := fun e => by have h1 := HG4.out; rw [e, HZk.out] at h1; unfold rl at h1; omega
    have hgk' : ¬ gk = bg := fun e => hgk e.symm
    have hgr : ¬ bg = w.heap.size := fun e => by have h1 := HG4.out; rw [e, HZR.out] at h1; unfold rl at h1; omega
    have hgr' : ¬ w.heap.size = bg := fun e => hgr e.symm
    have hkr : ¬ gk = w.heap.size := by omega
    have hkr' : ¬ w.heap.size = gk := by omega
    have hb := HBk.out; obtain ⟨k0, k1, k2, k3, k4, k5, k6⟩ := hb.cells7; have zk := hb.lt; clear hb; rw [HEG.out] at k6
    have HK6 := hH (fun W (hk : Keeps (one g) w4 W) => (show W.cell? ⟨gk, 6, none⟩ = some (.slice (some ⟨bg, 0, none⟩) got.length c4) ∧ gk < W.heap.size from by
     have hb := HBk.out.keeps hk (nq (by omega)); have k6 := hb.cell 6; simp at k6; rw [HEG.out] at k6
     exact ⟨k6, hb.lt⟩))
    have HSRK := hH (fun W (hk : Keeps (one g) w4 W) => (HSR.out.keeps hk (fun b k hk4 e h => by have h' : b = g := h; rw [h', HZZ.out g (by omega)] at e; unfold rl at e; omega)))
    have HGC := hH (fun W (hk : Keeps (one g) w4 W) (pn : Nat) (hpn : pn < got.length) => (show W.cell? ⟨bg, pn, none⟩ = some (.int .i64 (got.getD pn 0)) ∧ W.frozen? ⟨bg, pn, none⟩ = false ∧ bg < W.heap.size from by
     obtain ⟨_, _, hgc⟩ := owns_cells (HSRK.out W hk).2.2.2.1; obtain ⟨g4, e4, hg4, hgcell, hgfz⟩ := hgc _ HEG.out
     injection e4 with e4 e5
     subst e4; have gc := hgcell pn (.int .i64 (got.getD pn 0)) (by rw [vIs, List.getElem?_map, getD_some 0 hpn]; rfl); have gf := hgfz pn; rw [Nat.zero_add] at gc gf
     exact ⟨gc, gf, hg4⟩))
    have TK0 : True := trivial; go_wp2_with fail
    go_region_held3 (fun w' => w'.cell? ⟨gk, 6, none⟩ = some (.slice (some ⟨bg, 0, none⟩) got.length c4))
     (((try dsimp only); (repeat' apply And.intro) <;> (first | with_reducible assumption | (go_keep; done) | ((repeat rw [World.cell?_setCell_other _ _ _ _ (by intro e; injection e with e _; omega)]); with_reducible assumption))))
     (first | (go_at_call 43; have _t := TK0; clear _t; refine (pick_any g (lim + 1002) _ _ (HRD.out.drewN 1) (by omega) (by omega) (by omega)).mono ?_; rintro e v1 ⟨x0, rfl, xa0, xb0, hrd, hk⟩; clear TK0; have TK1 : True := trivial; have HQ1 := hH (((Keeps.refl (one g) w4).drewN 1).trans hk); have HRD1 := hH (hrd.more (lim' := lim + 1003) (by omega)); obtain ⟨k60, zk0⟩ := HK6.out _ HQ1.out; obtain ⟨pn, rfl⟩ := Int.eq_ofNat_of_zero_le xa0; have hpn : pn < got.length := (by omega); have hpi : (pn : Int) < (got.length : Int) := (by omega); clear hrd hk) | (go_at_call 43; have _t := TK1; clear _t; refine (pick_any g (lim + 1003) 5 _ HRD1.out (by omega) (by omega) (by omega)).mono ?_; rintro e v2 ⟨x1, rfl, xa1, xb1, hrd, hk⟩; clear TK1; have TK2 : True := trivial; have HQ2 := hH (HQ1.out.trans hk); have HRD2 := hH (hrd.more (lim' := lim + 1004) (by omega)); obtain ⟨k61, zk1⟩ := HK6.out _ HQ2.out; obtain ⟨gc, gf, zg⟩ := HGC.out _ HQ2.out pn hpn; clear hrd hk))
    have HSR2 := hH (HSRK.out _ HQ2.out); have HBr2 := hH (HBr.out.keeps HQ2.out (nq (by omega))); have HKa := hH (HK.out.trans HQ2.out); have HBk2 := hH (HBk.out.keeps HQ2.out (nq (by omega))); have sq2 := HQ2.out.size; clear HSR HBr HK HRD HBk HSRK HGC HK6 HQ1 HQ2 HRD1; have HSR := HSR2; have HBr := HBr2; have HK := HKa; have HRD := HRD2; have HBk := HBk2; clear HSR2 HBr2 HKa HRD2 HBk2 k60 k61 zk0 zk1; have kS := (Keeps.refl (fun b => b = bg) v2).setCell (p := ⟨bg, pn, none⟩) (.inr rfl) (.int .i64 (IntKind.i64.wrap (x1 - 1))); have HBrx := hH (HBr.out.keeps kS (fun h => by omega)); have HRDx := hH (HRD.out.keeps kS fun b hb h => by have h1 := HG4.out; rw [← h, HZZ.out b (by omega)] at h1; unfold rl at h1; omega); have HKx := hH (HK.out.then kS fun i hi h => by have h1 := HG4.out; rw [← h, HZZ.out i (by omega)] at h1; unfold rl at h1; omega)
    have ne : ∀ k, k ≠ 3 → ∀ b, G b = rl ii k → ¬ b = bg := fun k hk b e h => by rw [h, HG4.out] at e; unfold rl at e; omega
    have q0 := HSR.out.1.keeps kS fun b e h => ne 0 (by decide) b e h
    have q1 := HSR.out.2.1.keeps kS fun b e h => ne 1 (by decide) b e h
    have q2 := HSR.out.2.2.1.keeps kS fun b e h => ne 2 (by decide) b e h
    have hrow := HSR.out.2.2.2.1; rw [HEG.out] at hrow; have q3 := (hrow.stored pn (.int .i64 (IntKind.i64.wrap (x1 - 1)))).1
    have HBWx := hH (show BkW (v2.setCell ⟨bg, pn, none⟩ (.int .i64 (IntKind.i64.wrap (x1 - 1)))) w0.heap.size (⟨⟨way, ver, want, sent, live, back, got.set pn (IntKind.i64.wrap (x1 - 1))⟩, A1, A2, A3, A4, c1, c2, c3, c4⟩ : StM) from by
     refine ⟨q2.1, fun b hb => ?_⟩; obtain ⟨r1, r2, r3, r4⟩ := (show StW G v2 w0.heap.size (⟨⟨way, ver, want, sent, live, back, got⟩, A1, A2, A3, A4, c1, c2, c3, c4⟩ : StM) from ⟨ii, HSR.out, HZZ.out⟩).bk.2 b hb; refine ⟨r1, r2, r3, fun h => r4 ?_⟩; dsimp only at h; rw [List.length_set] at h
     exact h)
    have evs : (vIs got).set pn (.int .i64 (IntKind.i64.wrap (x1 - 1))) = vIs (got.set pn (IntKind.i64.wrap (x1 - 1))) := by simp [vIs, List.map_set]
    have hle : (got.set pn (IntKind.i64.wrap (x1 - 1))).length = got.length := List.length_set
    have HATx := hH (show StM.At (v2.setCell ⟨bg, pn, none⟩ (.int .i64 (IntKind.i64.wrap (x1 - 1)))) (⟨⟨way, ver, want, sent, live, back, got.set pn (IntKind.i64.wrap (x1 - 1))⟩, A1, A2, A3, A4, c1, c2, c3, c4⟩ : StM) from by
     refine ⟨⟨owns_pks q0.1, owns_bools q1.1, owns_bools q2.1, ?_⟩, (owns_cells q0.1).1, (owns_cells q1.1).1, (owns_cells q2.1).1, ?_⟩
     ·dsimp only
      rw [HEG.out, hle]
      have q4 : World.ownsRow (v2.setCell ⟨bg, pn, none⟩ (.int .i64 (IntKind.i64.wrap (x1 - 1)))) 0 3 1 (.slice (some ⟨bg, 0, none⟩) (got.set pn (IntKind.i64.wrap (x1 - 1))).length c4) (got.set pn (IntKind.i64.wrap (x1 - 1))).length (vIs (got.set pn (IntKind.i64.wrap (x1 - 1)))) := by rw [hle, ← evs]; exact q3
      have q5 := owns_ints q4; rw [hle] at q5; exact q5
     ·dsimp only
      rw [hle]
      exact (owns_cells hrow).1)
    have HGEx := hH (fun b (hb : StM.bl (⟨⟨way, ver, want, sent, live, back, got.set pn (IntKind.i64.wrap (x1 - 1))⟩, A1, A2, A3, A4, c1, c2, c3, c4⟩ : StM) b) => (show w0.heap.size ≤ b from (show StW G v2 w0.heap.size (⟨⟨way, ver, want, sent, live, back, got⟩, A1, A2, A3, A4, c1, c2, c3, c4⟩ : StM) from ⟨ii, HSR.out, HZZ.out⟩).ge (by
     rcases hb with hb | hb | hb | hb
     ·exact .inl hb
     ·exact .inr (.inl hb)
     ·exact .inr (.inr (.inl hb))
     ·refine .inr (.inr (.inr ?_))
      dsimp only at hb; rw [hle] at hb
      exact hb)))
    have hLE := hle; have HBk7 := HBk.out.keeps kS (fun h => by omega)
    have HBk8 : Box (v2.setCell ⟨bg, pn, none⟩ (.int .i64 (IntKind.i64.wrap (x1 - 1)))) gk 27 #[.int .i64 way, .int .i64 ver, .int .i64 want, .slice A1 sent.length c1, .slice A2 live.length c2, .slice A3 back.length c3, .slice A4 (got.set pn (IntKind.i64.wrap (x1 - 1))).length c4] := by rw [hle]; exact HBk7
    clear kS ne q0 q1 q2 q3 hrow evs hLE hle HBk7; go_wp2_with fail
    go_meet
    exact ⟨rfl, (⟨⟨way, ver, want, sent, live, back, got.set pn (IntKind.i64.wrap (x1 - 1))⟩, A1, A2, A3, A4, c1, c2, c3, c4⟩ : StM), .inr (.inr (.inr (.inr ⟨_, _, rfl⟩))), HBk8, HATx.out, HGEx.out, HBWx.out, (HRDx.out).more (by omega), HBrx.out, HKx.out⟩
   ·skip
    have e0 : (p == 0) = false := by simp; omega
    have e1 : (p == 1) = false := by simp; omega
    have e2 : (p == 2) = false := by simp; omega
    have e3 : (p == 3) = false := by simp; omega
    clear hc; go_wp2_with fail
    go_meet
    exact ⟨rfl, (⟨⟨way, ver, want, sent, live, back, got⟩, A1, A2, A3, A4, c1, c2, c3, c4⟩ : StM), .inl rfl, HBk.out, HSW.out.at_, fun b hb => HSW.out.ge hb, HSW.out.bk, (HRD.out).more (by omega), HBr.out, HK.out⟩
  case rest =>
   clear HBr HK HRD HBk HSW HZk HZR; obtain ⟨rfl, s, hsp, hbk, hat, hge, hbw, hrd, hbr, hkk⟩ := hcut; obtain ⟨w8, hww⟩ : ∃ x, x = wc := ⟨_, rfl⟩; subst hww; have HSP := hH hsp; have HBk := hH hbk; have HAT := hH hat; have HGE := hH hge; have HBW := hH hbw; have HRD := hH hrd; have HBr := hH hbr; have HK := hH hkk; clear hsp hbk hat hge hbw hrd hbr hkk; have hb := HBk.out; obtain ⟨k0, k1, k2, k3, k4, k5, k6⟩ := hb.cells7; have zk := hb.lt; clear hb; have hb := HBr.out; obtain ⟨r0, r1, r2, r3, r4, r5, r6⟩ := hb.cells7; obtain ⟨rf0, rf1, rf2, rf3, rf4, rf5, rf6⟩ := hb.fz7; have zr := hb.lt; clear hb
   have : ¬ gk = w.heap.size := by omega
   have : ¬ w.heap.size = gk := by omega
   go_wp2; have kF := stW_keeps w8 (w.heap.size) s; obtain ⟨s10, s11, s12, s13, s14, s15, s16⟩ := stW_cells HBr.out s; change bodyPost _ _ _ _ _ (stW w8 (w.heap.size) s); generalize stW w8 (w.heap.size) s = WF at kF s10 s11 s12 s13 s14 s15 s16 ⊢; refine bodyPost_ret (v := s.val) (by simp [results, Tryd.results49, go_sem, StM.val, s10, s11, s12, s13, s14, s15, s16]) rfl ?_; exact ⟨s, (⟨way, ver, want, sent, live, back, got⟩ : StL), rfl, HST.out, HSP.out, HAT.out.keeps kF (fun b hb h => by have h' : b = w.heap.size := h; have := HGE.out b hb; omega), fun b hb => by have := HGE.out b hb; omega, HBW.out.keeps kF (by omega) (fun b h1 _ h => by have h' : b = w.heap.size := h; omega), HRD.out.keeps kF (fun b hb h => by have h' : b = w.heap.size := h; omega), HK.out.then kF (fun i hi h => by have h' : i = w.heap.size := h; omega)⟩
theorem l71State0_any (g : Nat) (lim : Int) (w : World) (hr : Rd w g lim) (hl : lim ≤ 90000) : Calls Tryd.prog 49 #[.pointer (some ⟨g, 0, none⟩)] w (RetS0 w g (lim + 1010)) :=
 (l71State_any g lim w hr hl).mono fun _ _ ⟨s, x, he, h1, h2, h3, h4, _, h6, h7⟩ => ⟨s, x, he, h1, h2, h3, h4, h6, h7⟩

end Go.Proofs.YtjcbeihoeanhaaaDoor
