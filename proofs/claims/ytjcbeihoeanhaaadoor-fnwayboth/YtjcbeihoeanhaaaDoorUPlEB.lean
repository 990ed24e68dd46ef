/- SumPlan of the model, whatever chain. What l71Event of the model goes by. The switch of l71Event of the model: its frame, and what holds behind it; a block ends, or nothing. l71Event of the model: a way of its switch. l71Event of the model: a way of its switch. -/
import Derived.Test.YtjcbeihoeanhaaaDoorPlPgB
import Derived.Deep.CutBlock
import Derived.Lib.MinMax
import Derived.StillTailTactics
set_option maxRecDepth 1000000
set_option maxHeartbeats 64000000
set_option linter.unusedVariables false
set_option linter.unusedSimpArgs false
/-! PlP -/
namespace Go.Proofs.YtjcbeihoeanhaaaDoor
open Go.RowKit

theorem sumPlan_bad (g cp : Nat) (a b : ChM) (w : World) (hw : WAt w g a b) (ch : Int) (ok : wkB2 a b = false) :
  Calls Tryd.prog 85 #[.agg #[.slice (some ⟨g, 0, none⟩) 2 cp], .int .i64 ch] w (RetPlan w []) := by
 have FW := hH (fun W (hk : Keeps noBlk w W) => (show Calls Tryd.prog 94 #[.agg #[.slice (some ⟨g, 0, none⟩) 2 cp]] W (fun e w' => e = .returned (.bool false) ∧ Keeps noBlk W w') from by rw [← ok]; exact worldOk2_any g cp a b W (hw.keeps (S := noBlk) hk))); clear hw ok; have HBV := hH ((Box.new w _ rfl 87 #[.slice (some ⟨g, 0, none⟩) 2 cp]).alloc (.cells #[] 102)); have HK := hH (((Keeps.refl noBlk w).alloc (.cells #[.slice (some ⟨g, 0, none⟩) 2 cp] 87)).alloc (.cells #[] 102))
 go_enter Tryd.func85, Tryd.ntmps85
 go_wp2_with fail; generalize ((w.alloc (.cells #[.slice (some ⟨g, 0, none⟩) 2 cp] 87)).alloc (.cells #[] 102)) = W1 at HBV HK ⊢; refine (FW.out _ HK.out).mono ?_; rintro e w2 ⟨rfl, hk2⟩; have HK2 := hH (HK.out.trans hk2); have HBV2 := hH (HBV.out.keeps hk2 (fun h => h)); clear hk2 HBV; go_wp2; go_ret; exact ⟨_, _, rfl, ⟨rfl, fun h => absurd h (Nat.lt_irrefl 0)⟩, fun b hb => absurd hb.1 (Nat.lt_irrefl 0), HK2.out⟩
theorem sumPlan_nil1 (g cp : Nat) (a b : ChM) (w : World) (hw : WAt w g a b) (ok : wkB2 a b = true) (hkn : a.knows.length = 0) :
  Calls Tryd.prog 85 #[.agg #[.slice (some ⟨g, 0, none⟩) 2 cp], .int .i64 1] w (RetPlan w []) := by
 have FW := hH (fun W (hk : Keeps noBlk w W) => (show Calls Tryd.prog 94 #[.agg #[.slice (some ⟨g, 0, none⟩) 2 cp]] W (fun e w' => e = .returned (.bool true) ∧ Keeps noBlk W w') from by rw [← ok]; exact worldOk2_any g cp a b W (hw.keeps (S := noBlk) hk))); have FI := hH (fun W => (show Calls Tryd.prog 50 #[.int .i64 1, .int .i64 1, .int .i64 2] W (fun e w' => e = .returned (.bool true) ∧ W = w') from l6In_any 1 1 2 W)); have g12 : w.cell? ⟨g, 12, none⟩ = some (.slice a.kA a.knows.length a.kc) := hw.cs 12 _ rfl; have lg := hw.lt
 have hnz : (((a.knows.length : Nat) : Int) == 0) = true := by rw [hkn]; rfl
 clear hw ok; have HBV := hH ((Box.new w _ rfl 87 #[.slice (some ⟨g, 0, none⟩) 2 cp]).alloc (.cells #[] 102)); have HK := hH (((Keeps.refl noBlk w).alloc (.cells #[.slice (some ⟨g, 0, none⟩) 2 cp] 87)).alloc (.cells #[] 102))
 go_enter Tryd.func85, Tryd.ntmps85
 go_wp2_with fail; generalize ((w.alloc (.cells #[.slice (some ⟨g, 0, none⟩) 2 cp] 87)).alloc (.cells #[] 102)) = W1 at HBV HK ⊢; refine (FW.out _ HK.out).mono ?_; rintro e w2 ⟨rfl, hk2⟩; have HK2 := hH (HK.out.trans hk2); have HBV2 := hH (HBV.out.keeps hk2 (fun h => h)); clear hk2 HBV; have V0 := HBV2.out.cell 0; simp at V0; go_wp2_with fail; refine (FI.out _).mono ?_; rintro e _ ⟨rfl, rfl⟩; have y12 := (HK2.out.cell lg (fun h => h)).trans g12; go_wp2; go_ret; exact ⟨_, _, rfl, ⟨rfl, fun h => absurd h (Nat.lt_irrefl 0)⟩, fun b hb => absurd hb.1 (Nat.lt_irrefl 0), HK2.out⟩
theorem sumPlan_nil2 (g cp : Nat) (a b : ChM) (w : World) (hw : WAt w g a b) (ok : wkB2 a b = true) (hkn : b.knows.length = 0) :
  Calls Tryd.prog 85 #[.agg #[.slice (some ⟨g, 0, none⟩) 2 cp], .int .i64 2] w (RetPlan w []) := by
 have FW := hH (fun W (hk : Keeps noBlk w W) => (show Calls Tryd.prog 94 #[.agg #[.slice (some ⟨g, 0, none⟩) 2 cp]] W (fun e w' => e = .returned (.bool true) ∧ Keeps noBlk W w') from by rw [← ok]; exact worldOk2_any g cp a b W (hw.keeps (S := noBlk) hk))); have FI := hH (fun W => (show Calls Tryd.prog 50 #[.int .i64 2, .int .i64 1, .int .i64 2] W (fun e w' => e = .returned (.bool true) ∧ W = w') from l6In_any 2 1 2 W)); have g25 : w.cell? ⟨g, 25, none⟩ = some (.slice b.kA b.knows.length b.kc) := hw.cs 25 _ rfl; have lg := hw.lt
 have hnz : (((b.knows.length : Nat) : Int) == 0) = true := by rw [hkn]; rfl
 clear hw ok; have HBV := hH ((Box.new w _ rfl 87 #[.slice (some ⟨g, 0, none⟩) 2 cp]).alloc (.cells #[] 102)); have HK := hH (((Keeps.refl noBlk w).alloc (.cells #[.slice (some ⟨g, 0, none⟩) 2 cp] 87)).alloc (.cells #[] 102))
 go_enter Tryd.func85, Tryd.ntmps85
 go_wp2_with fail; generalize ((w.alloc (.cells #[.slice (some ⟨g, 0, none⟩) 2 cp] 87)).alloc (.cells #[] 102)) = W1 at HBV HK ⊢; refine (FW.out _ HK.out).mono ?_; rintro e w2 ⟨rfl, hk2⟩; have HK2 := hH (HK.out.trans hk2); have HBV2 := hH (HBV.out.keeps hk2 (fun h => h)); clear hk2 HBV; have V0 := HBV2.out.cell 0; simp at V0; go_wp2_with fail; refine (FI.out _).mono ?_; rintro e _ ⟨rfl, rfl⟩; have y25 := (HK2.out.cell lg (fun h => h)).trans g25; go_wp2; go_ret; exact ⟨_, _, rfl, ⟨rfl, fun h => absurd h (Nat.lt_irrefl 0)⟩, fun b hb => absurd hb.1 (Nat.lt_irrefl 0), HK2.out⟩
theorem sumPlan_1 (g cp : Nat) (a b : ChM) (w : World) (hw : WAt w g a b) (ok : wkB2 a b = true) (j : Nat) (hj : j < b.past.length) (h : Int) (hh : h = (j : Int) + 1) (k9 : Nat) (hk9 : a.knows.length = k9 + 1) (hv9 : a.knows.getD k9 0 = h) :
  Calls Tryd.prog 85 #[.agg #[.slice (some ⟨g, 0, none⟩) 2 cp], .int .i64 1] w (RetPlan w (planL a (b.past.getD j stm0).x 1 h)) :=
 sumPlan_g g cp a b w 1 0 1 rfl rfl (by decide) (by decide) hw.lt (fun q v hv => by rw [show 0 * 13 + q = q by omega]; exact hw.cs _ v (by rw [List.getElem?_append_left (by have := (List.getElem?_eq_some_iff.1 hv).1; exact this)]; exact hv)) (fun q v hv => by rw [show 1 * 13 + q = q + 13 by omega]; exact hw.cs _ v (by rw [List.getElem?_append_right (by show 13 ≤ q + 13; omega)]; exact hv)) hw.ra hw.rb (kO_parts (wk_parts ok).1).1 (kO_parts (wk_parts ok).2).1
  (fun W hk => by rw [← ok]; exact worldOk2_any g cp a b W (hw.keeps (S := noBlk) hk)) j hj h hh k9 hk9 hv9
theorem sumPlan_2 (g cp : Nat) (a b : ChM) (w : World) (hw : WAt w g a b) (ok : wkB2 a b = true) (j : Nat) (hj : j < a.past.length) (h : Int) (hh : h = (j : Int) + 1) (k9 : Nat) (hk9 : b.knows.length = k9 + 1) (hv9 : b.knows.getD k9 0 = h) :
  Calls Tryd.prog 85 #[.agg #[.slice (some ⟨g, 0, none⟩) 2 cp], .int .i64 2] w (RetPlan w (planL b (a.past.getD j stm0).x 2 h)) :=
 sumPlan_g g cp b a w 2 1 0 rfl rfl (by decide) (by decide) hw.lt (fun q v hv => by rw [show 1 * 13 + q = q + 13 by omega]; exact hw.cs _ v (by rw [List.getElem?_append_right (by show 13 ≤ q + 13; omega)]; exact hv)) (fun q v hv => by rw [show 0 * 13 + q = q by omega]; exact hw.cs _ v (by rw [List.getElem?_append_left (by have := (List.getElem?_eq_some_iff.1 hv).1; exact this)]; exact hv)) hw.rb hw.ra (kO_parts (wk_parts ok).2).1 (kO_parts (wk_parts ok).1).1
  (fun W hk => by rw [← ok]; exact worldOk2_any g cp a b W (hw.keeps (S := noBlk) hk)) j hj h hh k9 hk9 hv9
theorem sumPlan_any (g cp : Nat) (a b : ChM) (w : World) (hw : WAt w g a b) (ch : Int) (hch : ch = 1 ∨ ch = 2) :
  Calls Tryd.prog 85 #[.agg #[.slice (some ⟨g, 0, none⟩) 2 cp], .int .i64 ch] w fun e w' => ∃ l : List Ev, l.length ≤ 100 ∧ RetPlan w l e w' := by
 cases ok : wkB2 a b with
 | false => exact (sumPlan_bad g cp a b w hw ch ok).mono fun e w' h => ⟨[], Nat.zero_le _, h⟩
 | true =>
  have hck := wk_parts ok; obtain ⟨ka, ia, la⟩ := kO_parts hck.1; obtain ⟨kb, ib, lb⟩ := kO_parts hck.2
  rcases hch with rfl | rfl
  ·by_cases hn : a.knows.length = 0
   ·exact (sumPlan_nil1 g cp a b w hw ok hn).mono fun e w' h => ⟨[], Nat.zero_le _, h⟩
   ·obtain ⟨k9, hk9⟩ : ∃ k, a.knows.length = k + 1 := ⟨a.knows.length - 1, by omega⟩
    have h1 := kn_ge1 (of_decide_eq_true ka).2.2.2.2.2 (show k9 < a.knows.length by omega); have h2 := la (by omega); rw [hk9, Nat.add_sub_cancel] at h2; obtain ⟨v, hv⟩ : ∃ v, a.knows.getD k9 0 = v := ⟨_, rfl⟩; rw [hv] at h1 h2; have s1 := st_fits (of_decide_eq_true ka).2.2.1
    have hj : (v - 1).toNat < b.past.length := by omega
    have s2 := st_fits ((of_decide_eq_true kb).2.2.2.2.1 _ hj)
    refine (sumPlan_1 g cp a b w hw ok (v - 1).toNat hj v (by omega) k9 hk9 hv).mono fun e w' h => ⟨_, ?_, h⟩
    have q1 := plG_len a (b.past.getD (v - 1).toNat stm0).x 1 v (b.past.getD (v - 1).toNat stm0).x.sent.length; have q2 := plT_len a (b.past.getD (v - 1).toNat stm0).x 1 v a.st.x.sent.length; unfold planL; rw [List.length_append]
    omega
  ·by_cases hn : b.knows.length = 0
   ·exact (sumPlan_nil2 g cp a b w hw ok hn).mono fun e w' h => ⟨[], Nat.zero_le _, h⟩
   ·obtain ⟨k9, hk9⟩ : ∃ k, b.knows.length = k + 1 := ⟨b.knows.length - 1, by omega⟩
    have h1 := kn_ge1 (of_decide_eq_true kb).2.2.2.2.2 (show k9 < b.knows.length by omega); have h2 := lb (by omega); rw [hk9, Nat.add_sub_cancel] at h2; obtain ⟨v, hv⟩ : ∃ v, b.knows.getD k9 0 = v := ⟨_, rfl⟩; rw [hv] at h1 h2; have s1 := st_fits (of_decide_eq_true kb).2.2.1
    have hj : (v - 1).toNat < a.past.length := by omega
    have s2 := st_fits ((of_decide_eq_true ka).2.2.2.2.1 _ hj)
    refine (sumPlan_2 g cp a b w hw ok (v - 1).toNat hj v (by omega) k9 hk9 hv).mono fun e w' h => ⟨_, ?_, h⟩
    have q1 := plG_len b (a.past.getD (v - 1).toNat stm0).x 2 v (a.past.getD (v - 1).toNat stm0).x.sent.length; have q2 := plT_len b (a.past.getD (v - 1).toNat stm0).x 2 v b.st.x.sent.length; unfold planL; rw [List.length_append]
    omega

theorem Ints.at2 {w : World} {b off n k : Nat} {xs : List Int} (h : Ints w (some ⟨b, off, none⟩) n xs) (hk : k < n) : w.cell? ⟨b, off + k, none⟩ = some (.int .i64 (xs.getD k 0)) := by
 obtain ⟨b', off', e, _, hc⟩ := h.at_ hk
 injection e with e
 injection e with e1 e2
 subst e1; subst e2; exact hc
theorem Ints.addr {w : World} {A : Option Addr} {n : Nat} {xs : List Int} (h : Ints w A n xs) (hn : 0 < n) : ∃ b off, A = some ⟨b, off, none⟩ ∧ b < w.heap.size := by
 obtain ⟨b, off, e, hb, _⟩ := h.at_ hn; exact ⟨b, off, e, hb⟩
theorem Pas.addr {w : World} {A : Option Addr} {n : Nat} {xs : List StM} (h : Pas w A n xs) (hn : 0 < n) : ∃ b off, A = some ⟨b, off, none⟩ ∧ b < w.heap.size := by
 obtain ⟨b, off, e, hb, _⟩ := h.2 hn; exact ⟨b, off, e, hb⟩
theorem Pas.at2 {w : World} {b off n k : Nat} {xs : List StM} (h : Pas w (some ⟨b, off, none⟩) n xs) (hk : k < n) (i : Nat) (c : Value) (hc : (xs.getD k stm0).cs[i]? = some c) : w.cell? ⟨b, off + (k * 7 + i), none⟩ = some c := by
 obtain ⟨b', off', e, _, hh⟩ := h.2 (by omega)
 injection e with e
 injection e with e1 e2
 subst e1; subst e2; exact hh k _ (getD_some stm0 (by have := h.1; omega)) i c hc
theorem Pks.addr {w : World} {A : Option Addr} {n : Nat} {xs : List Pk} (h : Pks w A n xs) (hn : 0 < n) : ∃ b off, A = some ⟨b, off, none⟩ ∧ b < w.heap.size := by
 obtain ⟨b, off, e, hb, _⟩ := h.2 hn; exact ⟨b, off, e, hb⟩
theorem Pks.at2 {w : World} {b off n k : Nat} {xs : List Pk} (h : Pks w (some ⟨b, off, none⟩) n xs) (hk : k < n) (i : Nat) (c : Value) (hc : (xs.getD k pk0).cs[i]? = some c) : w.cell? ⟨b, off + (k * 7 + i), none⟩ = some c := by
 obtain ⟨b', off', e, _, hh⟩ := h.2 (by omega)
 injection e with e
 injection e with e1 e2
 subst e1; subst e2; exact hh k _ (getD_some pk0 (by have := h.1; omega)) i c hc
theorem Evs.addr {w : World} {A : Option Addr} {n : Nat} {xs : List Ev} (h : Evs w A n xs) (hn : 0 < n) : ∃ b off, A = some ⟨b, off, none⟩ ∧ b < w.heap.size := by
 obtain ⟨b, off, e, hb, _⟩ := h.2 hn; exact ⟨b, off, e, hb⟩
theorem Evs.at2 {w : World} {b off n k : Nat} {xs : List Ev} (h : Evs w (some ⟨b, off, none⟩) n xs) (hk : k < n) (i : Nat) (c : Value) (hc : (xs.getD k ev0).cs[i]? = some c) : w.cell? ⟨b, off + (k * 11 + i), none⟩ = some c := by
 obtain ⟨b', off', e, _, hh⟩ := h.2 (by omega)
 injection e with e
 injection e with e1 e2
 subst e1; subst e2; exact hh k _ (getD_some ev0 (by have := h.1; omega)) i c hc
section
variable {G : Nat → Nat} {w w' : World} {m : WdM} {g : Nat} {lim lim' : Int} {q n0 : Nat}
theorem ok_maxl {c : ChM} (h : ChOk c) : c.bk.b.own.length ≤ maxLen ∧ c.bk.b.notes.length ≤ maxLen := by
 have := len3_of_ok h.bank; unfold maxLen
 omega
theorem Pl.at_a (h : Pl G w m g lim q n0) : ChAt w m.a := h.wd.2.2.1.at_ (ok_maxl h.ok.a).1 (ok_maxl h.ok.a).2
theorem Pl.at_b (h : Pl G w m g lim q n0) : ChAt w m.b := h.wd.2.2.2.at_ (ok_maxl h.ok.b).1 (ok_maxl h.ok.b).2
theorem Pl.wat (h : Pl G w m g lim q n0) : WAt w m.g m.a m.b :=
 ⟨h.wd.1.lt, fun q v hv => by
  have := h.wd.1.cell q; rw [this]
  simpa using hv, h.at_a, h.at_b, locked_le h.ok.a.bank, locked_le h.ok.b.bank⟩
theorem Pl.ng (h : Pl G w m g lim q n0) : ¬ m.g = g := fun e => by
 have h1 := h.z g h.lt; have h2 := h.wd.2.1; rw [e] at h2
 omega
end
theorem retInts' {w w' : World} {x y : StL} {e : Ending} (h : RetInts w (nextL x y) e w') : ∃ A c, e = .returned (.slice A (nextL x y).length c) ∧ Ints w' A (nextL x y).length (nextL x y) ∧ (nextL x y).length ≤ 7 ∧ (∀ b, blk A (nextL x y).length b → w.heap.size ≤ b) ∧ Keeps noBlk w w' := by
 obtain ⟨A, c, he, ho, hf, hk⟩ := h; exact ⟨A, c, he, owns_ints ho, nextTo_len x y 7, fun b hb => hf b (blk_owned hb), hk⟩
def evW (W : World) (r : Nat) (e : Ev) : World := (((((((((((W.setCell ⟨r, 0, none⟩ (.int .i64 e.kd)).setCell ⟨r, 1, none⟩ (.int .i64 e.ch)).setCell ⟨r, 2, none⟩ (.int .i64 e.h)).setCell ⟨r, 3, none⟩ (.int .i64 e.n)).setCell ⟨r, 4, none⟩ (.int .i64 e.p.s)).setCell ⟨r, 5, none⟩ (.int .i64 e.p.k)).setCell ⟨r, 6, none⟩ (.int .i64 e.p.f)).setCell ⟨r, 7, none⟩ (.int .i64 e.p.t)).setCell ⟨r, 8, none⟩ (.int .i64 e.p.m)).setCell ⟨r, 9, none⟩ (.int .i64 e.p.u)).setCell ⟨r, 10, none⟩ (.int .i64 e.p.v))
theorem evW_keeps (W : World) (r : Nat) (e : Ev) : Keeps (fun b => b = r) W (evW W r e) := ((((((((((((Keeps.refl (fun b => b = r) W).setCell (p := ⟨r, 0, none⟩) (.inr rfl) (.int .i64 e.kd)).setCell (p := ⟨r, 1, none⟩) (.inr rfl) (.int .i64 e.ch)).setCell (p := ⟨r, 2, none⟩) (.inr rfl) (.int .i64 e.h)).setCell (p := ⟨r, 3, none⟩) (.inr rfl) (.int .i64 e.n)).setCell (p := ⟨r, 4, none⟩) (.inr rfl) (.int .i64 e.p.s)).setCell (p := ⟨r, 5, none⟩) (.inr rfl) (.int .i64 e.p.k)).setCell (p := ⟨r, 6, none⟩) (.inr rfl) (.int .i64 e.p.f)).setCell (p := ⟨r, 7, none⟩) (.inr rfl) (.int .i64 e.p.t)).setCell (p := ⟨r, 8, none⟩) (.inr rfl) (.int .i64 e.p.m)).setCell (p := ⟨r, 9, none⟩) (.inr rfl) (.int .i64 e.p.u)).setCell (p := ⟨r, 10, none⟩) (.inr rfl) (.int .i64 e.p.v))
theorem evW_box {W : World} {r : Nat} (h : Box W r 102 zC11) (e : Ev) : Box (evW W r e) r 102 e.cs.toArray := by
 have hb := (((((((((((h.set_ 0 (.int .i64 e.kd)).set_ 1 (.int .i64 e.ch)).set_ 2 (.int .i64 e.h)).set_ 3 (.int .i64 e.n)).set_ 4 (.int .i64 e.p.s)).set_ 5 (.int .i64 e.p.k)).set_ 6 (.int .i64 e.p.f)).set_ 7 (.int .i64 e.p.t)).set_ 8 (.int .i64 e.p.m)).set_ 9 (.int .i64 e.p.u)).set_ 10 (.int .i64 e.p.v)); simp only [sx] at hb; exact hb
theorem evW_cells {W : World} {r : Nat} (h : Box W r 102 zC11) (e : Ev) : (evW W r e).cell? ⟨r, 0, none⟩ = some (.int .i64 e.kd) ∧ (evW W r e).cell? ⟨r, 1, none⟩ = some (.int .i64 e.ch) ∧ (evW W r e).cell? ⟨r, 2, none⟩ = some (.int .i64 e.h) ∧ (evW W r e).cell? ⟨r, 3, none⟩ = some (.int .i64 e.n) ∧ (evW W r e).cell? ⟨r, 4, none⟩ = some (.int .i64 e.p.s) ∧ (evW W r e).cell? ⟨r, 5, none⟩ = some (.int .i64 e.p.k) ∧ (evW W r e).cell? ⟨r, 6, none⟩ = some (.int .i64 e.p.f) ∧ (evW W r e).cell? ⟨r, 7, none⟩ = some (.int .i64 e.p.t) ∧ (evW W r e).cell? ⟨r, 8, none⟩ = some (.int .i64 e.p.m) ∧ (evW W r e).cell? ⟨r, 9, none⟩ = some (.int .i64 e.p.u) ∧ (evW W r e).cell? ⟨r, 10, none⟩ = some (.int .i64 e.p.v) := (evW_box h e).cells11
def pkW (W : World) (r : Nat) (x1 x2 x3 x4 x5 : Int) : World := (((((((W.setCell ⟨r, 0, none⟩ (.int .i64 0)).setCell ⟨r, 1, none⟩ (.int .i64 x1)).setCell ⟨r, 2, none⟩ (.int .i64 x2)).setCell ⟨r, 3, none⟩ (.int .i64 x3)).setCell ⟨r, 4, none⟩ (.int .i64 x4)).setCell ⟨r, 5, none⟩ (.int .i64 x5)).setCell ⟨r, 6, none⟩ (.int .i64 0))
theorem pkW_keeps (W : World) (r : Nat) (x1 x2 x3 x4 x5 : Int) : Keeps (fun b => b = r) W (pkW W r x1 x2 x3 x4 x5) := ((((((((Keeps.refl (fun b => b = r) W).setCell (p := ⟨r, 0, none⟩) (.inr rfl) (.int .i64 0)).setCell (p := ⟨r, 1, none⟩) (.inr rfl) (.int .i64 x1)).setCell (p := ⟨r, 2, none⟩) (.inr rfl) (.int .i64 x2)).setCell (p := ⟨r, 3, none⟩) (.inr rfl) (.int .i64 x3)).setCell (p := ⟨r, 4, none⟩) (.inr rfl) (.int .i64 x4)).setCell (p := ⟨r, 5, none⟩) (.inr rfl) (.int .i64 x5)).setCell (p := ⟨r, 6, none⟩) (.inr rfl) (.int .i64 0))
theorem pkW_box {W : World} {r : Nat} (h : Box W r 29 zC7) (x1 x2 x3 x4 x5 : Int) : Box (pkW W r x1 x2 x3 x4 x5) r 29 #[.int .i64 0, .int .i64 x1, .int .i64 x2, .int .i64 x3, .int .i64 x4, .int .i64 x5, .int .i64 0] := by
 have hb := (((((((h.set_ 0 (.int .i64 0)).set_ 1 (.int .i64 x1)).set_ 2 (.int .i64 x2)).set_ 3 (.int .i64 x3)).set_ 4 (.int .i64 x4)).set_ 5 (.int .i64 x5)).set_ 6 (.int .i64 0)); simp only [sx] at hb; exact hb
def pkP (W : World) (r : Nat) (p : Pk) : World := (((((((W.setCell ⟨r, 0, none⟩ (.int .i64 p.s)).setCell ⟨r, 1, none⟩ (.int .i64 p.k)).setCell ⟨r, 2, none⟩ (.int .i64 p.f)).setCell ⟨r, 3, none⟩ (.int .i64 p.t)).setCell ⟨r, 4, none⟩ (.int .i64 p.m)).setCell ⟨r, 5, none⟩ (.int .i64 p.u)).setCell ⟨r, 6, none⟩ (.int .i64 p.v))
theorem pkP_keeps (W : World) (r : Nat) (p : Pk) : Keeps (fun b => b = r) W (pkP W r p) := ((((((((Keeps.refl (fun b => b = r) W).setCell (p := ⟨r, 0, none⟩) (.inr rfl) (.int .i64 p.s)).setCell (p := ⟨r, 1, none⟩) (.inr rfl) (.int .i64 p.k)).setCell (p := ⟨r, 2, none⟩) (.inr rfl) (.int .i64 p.f)).setCell (p := ⟨r, 3, none⟩) (.inr rfl) (.int .i64 p.t)).setCell (p := ⟨r, 4, none⟩) (.inr rfl) (.int .i64 p.m)).setCell (p := ⟨r, 5, none⟩) (.inr rfl) (.int .i64 p.u)).setCell (p := ⟨r, 6, none⟩) (.inr rfl) (.int .i64 p.v))
theorem pkP_box {W : World} {r : Nat} (h : Box W r 29 zC7) (p : Pk) : Box (pkP W r p) r 29 (pkC p) := by
 have hb := (((((((h.set_ 0 (.int .i64 p.s)).set_ 1 (.int .i64 p.k)).set_ 2 (.int .i64 p.f)).set_ 3 (.int .i64 p.t)).set_ 4 (.int .i64 p.m)).set_ 5 (.int .i64 p.u)).set_ 6 (.int .i64 p.v)); simp only [sx] at hb; exact hb
def RetEv (w : World) (g : Nat) (lim : Int) (e : Ending) (w' : World) : Prop := ∃ ev : Ev, e = .returned ev.val ∧ Rd w' g (lim + 20) ∧ Keeps (one g) w w'
theorem ev_end {w W WF : World} {g r : Nat} {lim lim' : Int} (ev : Ev) (hr : Rd W g lim') (hl : lim' ≤ lim + 20) (hk : Keeps (one g) w W) (kS : Keeps (fun b => b = r) W WF) (h1 : w.heap.size ≤ r) (h2 : g < w.heap.size) : RetEv w g lim (.returned ev.val) WF :=
 ⟨ev, rfl, (hr.keeps kS fun b hb h => by omega).more hl, hk.then kS fun i hi h => by omega⟩
end Go.Proofs.YtjcbeihoeanhaaaDoor

/-! PlE1 -/
namespace Go.Proofs.YtjcbeihoeanhaaaDoor
open Go.RowKit

def firstBlk : Code → Option Code
 | .seq a b => match firstBlk a with
  | some c => some c
  | none => firstBlk b
 | .block i c => some (.block i c)
 | .scope c => firstBlk c
 | .cond _ a b => match firstBlk a with
  | some c => some c
  | none => firstBlk b
 | _ => none
noncomputable def evSw : Code := (Tryd.f80.body.bind firstBlk).getD .skip
def EvR (G : Nat → Nat) (m : WdM) (g : Nat) (lim : Int) (q n0 : Nat) (w w1 : World) (ch : Int) (me ot : ChM) (a' : Act) (w' : World) : Prop :=
 ∃ u8 u9 u10 u11 u12 u13 u14 u15 u16 u17 u18 u19 u20 u21 u22 u23 u24 u25 u26 u27 u28 u29 u30 u31 u32 u33 u34 u35 u36 u37 u38 u39 u40 u41 u42 u43 u44 u45 u46 u47 u48 u49 u50 u51 u52 u53 u54 u55 u56 u57 u58 u59 u60 u61 u62 u63 u64 u65 u66 u67 u68 u69 u70 u71 u72 u73 u74 u75 u76 u77 u78 u79 u80 u81 u82 u83 u84 u85 u86 u87 u88 u89 u90 u91 u92 u93 u94 u95 u96 u97 u98 u99 u100 u101 u102 u103 u104 u105 u106 u107 u108 u109 u110 u111 u112 u113 u114 u115 u116 u117 u118 u119 u120 u121 u122 u123 u124 u125 u126 u127 u128 u129 u130 u131 u132 u133 u134 u135 u136 u137 u138 u139 u140 u141 u142 u143 u144 u145 u146 u147 u148 u149 u150 u151 u152 u153 u154 u155 u156 u157 u158 u159 u160 u161 u162 u163 u164 u165 u166 u167 u168 u169 u170 u171 u172 u173 u174 u175 u176 u177 u178 u179 u180 u181 u182 u183 u184 : Value, (∃ hv : Int, u8 = .int .i64 hv ∧ Pl G w' m g (lim + 9) q n0 ∧ Box w' (w.heap.size) 87 #[.slice (some ⟨m.g, 0, none⟩) 2 2] ∧ Box w' (w.heap.size + 1) 102 #[.int .i64 0, .int .i64 0, .int .i64 0, .int .i64 0, .int .i64 0, .int .i64 0, .int .i64 0, .int .i64 0, .int .i64 0, .int .i64 0, .int .i64 0] ∧ Box w' (w1.heap.size) 94 #[.int .i64 me.id, .slice me.bk.A1 me.bk.b.own.length me.bk.c1, .slice me.bk.A2 me.bk.b.notes.length me.bk.c2, .int .i64 me.bk.b.locked, .int .i64 me.st.x.way, .int .i64 me.st.x.ver, .int .i64 me.st.x.want, .slice me.st.A1 me.st.x.sent.length me.st.c1, .slice me.st.A2 me.st.x.live.length me.st.c2, .slice me.st.A3 me.st.x.back.length me.st.c3, .slice me.st.A4 me.st.x.got.length me.st.c4, .slice me.pA me.past.length me.pc, .slice me.kA me.knows.length me.kc] ∧ Box w' (w1.heap.size + 1) 94 #[.int .i64 ot.id, .slice ot.bk.A1 ot.bk.b.own.length ot.bk.c1, .slice ot.bk.A2 ot.bk.b.notes.length ot.bk.c2, .int .i64 ot.bk.b.locked, .int .i64 ot.st.x.way, .int .i64 ot.st.x.ver, .int .i64 ot.st.x.want, .slice ot.st.A1 ot.st.x.sent.length ot.st.c1, .slice ot.st.A2 ot.st.x.live.length ot.st.c2, .slice ot.st.A3 ot.st.x.back.length ot.st.c3, .slice ot.st.A4 ot.st.x.got.length ot.st.c4, .slice ot.pA ot.past.length ot.pc, .slice ot.kA ot.knows.length ot.kc] ∧ Keeps (one g) w w') ∧ a' = ⟨#[.pointer (some ⟨g, 0, none⟩), .agg #[.slice (some ⟨m.g, 0, none⟩) 2 2], undef, .pointer (some ⟨w.heap.size, 0, none⟩), .pointer (some ⟨w.heap.size + 1, 0, none⟩), .int .i64 ch, .pointer (some ⟨w1.heap.size, 0, none⟩), .pointer (some ⟨w1.heap.size + 1, 0, none⟩), u8, u9, u10, u11, u12, u13, u14, u15, u16, u17, u18, u19, u20, u21, u22, u23, u24, u25, u26, u27, u28, u29, u30, u31, u32, u33, u34, u35, u36, u37, u38, u39, u40, u41, u42, u43, u44, u45, u46, u47, u48, u49, u50, u51, u52, u53, u54, u55, u56, u57, u58, u59, u60, u61, u62, u63, u64, u65, u66, u67, u68, u69, u70, u71, u72, u73, u74, u75, u76, u77, u78, u79, u80, u81, u82, u83, u84, u85, u86, u87, u88, u89, u90, u91, u92, u93, u94, u95, u96, u97, u98, u99, u100, u101, u102, u103, u104, u105, u106, u107, u108, u109, u110, u111, u112, u113, u114, u115, u116, u117, u118, u119, u120, u121, u122, u123, u124, u125, u126, u127, u128, u129, u130, u131, u132, u133, u134, u135, u136, u137, u138, u139, u140, u141, u142, u143, u144, u145, u146, u147, u148, u149, u150, u151, u152, u153, u154, u155, u156, u157, u158, u159, u160, u161, u162, u163, u164, u165, u166, u167, u168, u169, u170, u171, u172, u173, u174, u175, u176, u177, u178, u179, u180, u181, u182, u183, u184, undef, undef, undef, undef, undef, undef, undef, undef, undef, undef, undef, undef, undef, undef, undef, undef, undef, undef, undef, undef, undef, undef, undef, undef, undef, undef, undef, undef, undef, undef, undef, undef, undef, undef, undef, undef, undef, undef, undef, undef, undef, undef, undef, undef, undef, undef, undef, undef, undef], []⟩
theorem evc0 {G : Nat → Nat} {m : WdM} {g : Nat} {lim : Int} {q n0 : Nat} {w w1 w4 : World} {ch hv p4 : Int} {me ot : ChM} (u14 u15 u16 u17 u18 u19 u20 u21 u22 u23 u24 u25 u26 u27 u28 u29 u30 u31 u32 u33 u34 u35 u36 u37 u38 u39 u40 u41 u42 u43 u44 u45 u46 u47 u48 u49 u50 u51 u52 u53 u54 u55 : Value) {J K' : Act → World → Prop}
  (hl : lim ≤ 1000000) (hq : q ≤ 1000) (hgn : g < w.heap.size) (hng : ¬ m.g = g) (hnz : ∀ b, w.heap.size ≤ b → G b = 0) (hlg : m.g < w.heap.size) (hch : ch = 1 ∨ ch = 2) (lka : me.knows.length ≤ q) (hpo : ot.past.length ≤ 90) (hse : ot.st.x.sent.length ≤ 8)
  (hat : ∀ W l, Pl G W m g l q n0 → ChAt W me ∧ ChAt W ot) (hw9 : w.heap.size + 2 ≤ w1.heap.size) (szc : w1.heap.size + 2 ≤ w4.heap.size) (a4 : 0 ≤ p4) (b4 : p4 < 12)
  (hbv : Box w4 (w.heap.size) 87 #[.slice (some ⟨m.g, 0, none⟩) 2 2]) (hbr : Box w4 (w.heap.size + 1) 102 zC11) (hbc : Box w4 (w1.heap.size) 94 (chC me)) (hbo : Box w4 (w1.heap.size + 1) 94 (chC ot)) (hk : Keeps (one g) w w4) (hpl : Pl G w4 m g (lim + 4) q n0)
  (hJ : ∀ a' w', EvR G m g lim q n0 w w1 ch me ot  a' w' → J a' w') (hK : ∀ a' w', Met J a' w' → K' a' w') (hp : p4 = 0 ∨ p4 = 1) :
  Code.wp Tryd.prog evSw (Exit.then K' (bodyPost Tryd.prog Tryd.f80 (RetEv w g lim))) ⟨#[.pointer (some ⟨g, 0, none⟩), .agg #[.slice (some ⟨m.g, 0, none⟩) 2 2], undef, .pointer (some ⟨w.heap.size, 0, none⟩), .pointer (some ⟨w.heap.size + 1, 0, none⟩), .int .i64 ch, .pointer (some ⟨w1.heap.size, 0, none⟩), .pointer (some ⟨w1.heap.size + 1, 0, none⟩), .int .i64 hv, undef, undef, undef, undef, undef, u14, u15, u16, u17, u18, u19, u20, u21, u22, u23, u24, u25, u26, u27, u28, u29, u30, u31, u32, u33, u34, u35, u36, u37, u38, u39, u40, u41, u42, u43, u44, u45, u46, u47, u48, u49, u50, u51, u52, u53, u54, u55, .pointer (some ⟨g, 0, none⟩), .int .i64 p4, undef, undef, undef, undef, undef, undef, undef, undef, undef, undef, undef, undef, undef, undef, undef, undef, undef, undef, undef, undef, undef, undef, undef, undef, undef, undef, undef, undef, undef, undef, undef, undef, undef, undef, undef, undef, undef, undef, undef, undef, undef, undef, undef, undef, undef, undef, undef, undef, undef, undef, undef, undef, undef, undef, undef, undef, undef, undef, undef, undef, undef, undef, undef, undef, undef, undef, undef, undef, undef, undef, undef, undef, undef, undef, undef, undef, undef, undef, undef, undef, undef, undef, undef, undef, undef, undef, undef, undef, undef, undef, undef, undef, undef, undef, undef, undef, undef, undef, undef, undef, undef, undef, undef, undef, undef, undef, undef, undef, undef, undef, undef, undef, undef, undef, undef, undef, undef, undef, undef, undef, undef, undef, undef, undef, undef, undef, undef, undef, undef, undef, undef, undef, undef, undef, undef, undef, undef, undef, undef, undef, undef, undef, undef, undef, undef, undef, undef, undef, undef, undef, undef, undef, undef, undef, undef, undef, undef, undef, undef, undef, undef, undef, undef, undef, undef, undef, undef, undef, undef, undef, undef, undef, undef, undef, undef, undef], []⟩ w4 := by
 have HNZ := hH hnz; have HAT := hH hat; have HBv := hH hbv; have HBr := hH hbr; have HBc := hH hbc; have HBo := hH hbo; have HK := hH hk; have HPL := hH hpl; clear hnz hat hbv hbr hbc hbo hk hpl; unfold EvR at hJ
 have hcc : ((p4 == 0) = true ∧ (p4 == 1) = false) ∨ ((p4 == 0) = false ∧ (p4 == 1) = true) := by
  rcases hp with rfl | rfl <;> simp
 clear hp
 conv => arg 2; whnf
 rcases hcc with ⟨e0, e1⟩ | ⟨e0, e1⟩
 all_goals
  have hb := HBr.out; obtain ⟨r0, r1, r2, r3, r4, r5, r6, r7, r8, r9, r10⟩ := hb.cells11; obtain ⟨rf0, rf1, rf2, rf3, rf4, rf5, rf6, rf7, rf8, rf9, rf10⟩ := hb.fz11; have zr := hb.lt; clear hb; go_wp2; have kS := evW_keeps w4 (w.heap.size + 1) (⟨1, ch, 0, 0, ⟨0, 0, 0, 0, 0, 0, 0⟩⟩ : Ev); obtain ⟨s10, s11, s12, s13, s14, s15, s16, s17, s18, s19, s20⟩ := evW_cells HBr.out (⟨1, ch, 0, 0, ⟨0, 0, 0, 0, 0, 0, 0⟩⟩ : Ev); change bodyPost _ _ _ _ _ (evW w4 (w.heap.size + 1) (⟨1, ch, 0, 0, ⟨0, 0, 0, 0, 0, 0, 0⟩⟩ : Ev)); generalize evW w4 (w.heap.size + 1) (⟨1, ch, 0, 0, ⟨0, 0, 0, 0, 0, 0, 0⟩⟩ : Ev) = WF at kS s10 s11 s12 s13 s14 s15 s16 s17 s18 s19 s20 ⊢; refine bodyPost_ret (v := Ev.val (⟨1, ch, 0, 0, ⟨0, 0, 0, 0, 0, 0, 0⟩⟩ : Ev)) (by simp [results, Tryd.results80, go_sem, Ev.val, s10, s11, s12, s13, s14, s15, s16, s17, s18, s19, s20]) rfl ?_; exact ev_end (⟨1, ch, 0, 0, ⟨0, 0, 0, 0, 0, 0, 0⟩⟩ : Ev) HPL.out.rd (by omega) HK.out kS (by omega) (by omega)
theorem evc10 {G : Nat → Nat} {m : WdM} {g : Nat} {lim : Int} {q n0 : Nat} {w w1 w4 : World} {ch hv p4 : Int} {me ot : ChM} (u14 u15 u16 u17 u18 u19 u20 u21 u22 u23 u24 u25 u26 u27 u28 u29 u30 u31 u32 u33 u34 u35 u36 u37 u38 u39 u40 u41 u42 u43 u44 u45 u46 u47 u48 u49 u50 u51 u52 u53 u54 u55 : Value) {J K' : Act → World → Prop}
  (hl : lim ≤ 1000000) (hq : q ≤ 1000) (hgn : g < w.heap.size) (hng : ¬ m.g = g) (hnz : ∀ b, w.heap.size ≤ b → G b = 0) (hlg : m.g < w.heap.size) (hch : ch = 1 ∨ ch = 2) (lka : me.knows.length ≤ q) (hpo : ot.past.length ≤ 90) (hse : ot.st.x.sent.length ≤ 8)
  (hat : ∀ W l, Pl G W m g l q n0 → ChAt W me ∧ ChAt W ot) (hw9 : w.heap.size + 2 ≤ w1.heap.size) (szc : w1.heap.size + 2 ≤ w4.heap.size) (a4 : 0 ≤ p4) (b4 : p4 < 12)
  (hbv : Box w4 (w.heap.size) 87 #[.slice (some ⟨m.g, 0, none⟩) 2 2]) (hbr : Box w4 (w.heap.size + 1) 102 zC11) (hbc : Box w4 (w1.heap.size) 94 (chC me)) (hbo : Box w4 (w1.heap.size + 1) 94 (chC ot)) (hk : Keeps (one g) w w4) (hpl : Pl G w4 m g (lim + 4) q n0)
  (hJ : ∀ a' w', EvR G m g lim q n0 w w1 ch me ot  a' w' → J a' w') (hK : ∀ a' w', Met J a' w' → K' a' w') (hp : 10 ≤ p4) :
  Code.wp Tryd.prog evSw (Exit.then K' (bodyPost Tryd.prog Tryd.f80 (RetEv w g lim))) ⟨#[.pointer (some ⟨g, 0, none⟩), .agg #[.slice (some ⟨m.g, 0, none⟩) 2 2], undef, .pointer (some ⟨w.heap.size, 0, none⟩), .pointer (some ⟨w.heap.size + 1, 0, none⟩), .int .i64 ch, .pointer (some ⟨w1.heap.size, 0, none⟩), .pointer (some ⟨w1.heap.size + 1, 0, none⟩), .int .i64 hv, undef, undef, undef, undef, undef, u14, u15, u16, u17, u18, u19, u20, u21, u22, u23, u24, u25, u26, u27, u28, u29, u30, u31, u32, u33, u34, u35, u36, u37, u38, u39, u40, u41, u42, u43, u44, u45, u46, u47, u48, u49, u50, u51, u52, u53, u54, u55, .pointer (some ⟨g, 0, none⟩), .int .i64 p4, undef, undef, undef, undef, undef, undef, undef, undef, undef, undef, undef, undef, undef, undef, undef, undef, undef, undef, undef, undef, undef, undef, undef, undef, undef, undef, undef, undef, undef, undef, undef, undef, undef, undef, undef, undef, undef, undef, undef, undef, undef, undef, undef, undef, undef, undef, undef, undef, undef, undef, undef, undef, undef, undef, undef, undef, undef, undef, undef, undef, undef, undef, undef, undef, undef, undef, undef, undef, undef, undef, undef, undef, undef, undef, undef, undef, undef, undef, undef, undef, undef, undef, undef, undef, undef, undef, undef, undef, undef, undef, undef, undef, undef, undef, undef, undef, undef, undef, undef, undef, undef, undef, undef, undef, undef, undef, undef, undef, undef, undef, undef, undef, undef, undef, undef, undef, undef, undef, undef, undef, undef, undef, undef, undef, undef, undef, undef, undef, undef, undef, undef, undef, undef, undef, undef, undef, undef, undef, undef, undef, undef, undef, undef, undef, undef, undef, undef, undef, undef, undef, undef, undef, undef, undef, undef, undef, undef, undef, undef, undef, undef, undef, undef, undef, undef, undef, undef, undef, undef, undef, undef, undef, undef, undef, undef, undef], []⟩ w4 := by
 have HNZ := hH hnz; have HAT := hH hat; have HBv := hH hbv; have HBr := hH hbr; have HBc := hH hbc; have HBo := hH hbo; have HK := hH hk; have HPL := hH hpl; clear hnz hat hbv hbr hbc hbo hk hpl; unfold EvR at hJ
 have e0 : (p4 == 0) = false := by simp; omega
 have e1 : (p4 == 1) = false := by simp; omega
 have e2 : (p4 == 2) = false := by simp; omega
 have e3 : (p4 == 3) = false := by simp; omega
 have e4 : (p4 == 4) = false := by simp; omega
 have e5 : (p4 == 5) = false := by simp; omega
 have e6 : (p4 == 6) = false := by simp; omega
 have e7 : (p4 == 7) = false := by simp; omega
 have e8 : (p4 == 8) = false := by simp; omega
 have e9 : (p4 == 9) = false := by simp; omega
 clear hp
 conv => arg 2; whnf
 go_wp2_with fail
 go_meet
 exact ⟨hv, rfl, HPL.out.more (Nat.le_refl _) (by omega), HBv.out, HBr.out, HBc.out, HBo.out, HK.out⟩

theorem evc2 {G : Nat → Nat} {m : WdM} {g : Nat} {lim : Int} {q n0 : Nat} {w w1 w4 : World} {ch hv p4 : Int} {me ot : ChM} (u14 u15 u16 u17 u18 u19 u20 u21 u22 u23 u24 u25 u26 u27 u28 u29 u30 u31 u32 u33 u34 u35 u36 u37 u38 u39 u40 u41 u42 u43 u44 u45 u46 u47 u48 u49 u50 u51 u52 u53 u54 u55 : Value) {J K' : Act → World → Prop}
  (hl : lim ≤ 1000000) (hq : q ≤ 1000) (hgn : g < w.heap.size) (hng : ¬ m.g = g) (hnz : ∀ b, w.heap.size ≤ b → G b = 0) (hlg : m.g < w.heap.size) (hch : ch = 1 ∨ ch = 2) (lka : me.knows.length ≤ q) (hpo : ot.past.length ≤ 90) (hse : ot.st.x.sent.length ≤ 8)
  (hat : ∀ W l, Pl G W m g l q n0 → ChAt W me ∧ ChAt W ot) (hw9 : w.heap.size + 2 ≤ w1.heap.size) (szc : w1.heap.size + 2 ≤ w4.heap.size) (a4 : 0 ≤ p4) (b4 : p4 < 12)
  (hbv : Box w4 (w.heap.size) 87 #[.slice (some ⟨m.g, 0, none⟩) 2 2]) (hbr : Box w4 (w.heap.size + 1) 102 zC11) (hbc : Box w4 (w1.heap.size) 94 (chC me)) (hbo : Box w4 (w1.heap.size + 1) 94 (chC ot)) (hk : Keeps (one g) w w4) (hpl : Pl G w4 m g (lim + 4) q n0)
  (hJ : ∀ a' w', EvR G m g lim q n0 w w1 ch me ot  a' w' → J a' w') (hK : ∀ a' w', Met J a' w' → K' a' w') (hp : p4 = 2 ∨ p4 = 3) :
  Code.wp Tryd.prog evSw (Exit.then K' (bodyPost Tryd.prog Tryd.f80 (RetEv w g lim))) ⟨#[.pointer (some ⟨g, 0, none⟩), .agg #[.slice (some ⟨m.g, 0, none⟩) 2 2], undef, .pointer (some ⟨w.heap.size, 0, none⟩), .pointer (some ⟨w.heap.size + 1, 0, none⟩), .int .i64 ch, .pointer (some ⟨w1.heap.size, 0, none⟩), .pointer (some ⟨w1.heap.size + 1, 0, none⟩), .int .i64 hv, undef, undef, undef, undef, undef, u14, u15, u16, u17, u18, u19, u20, u21, u22, u23, u24, u25, u26, u27, u28, u29, u30, u31, u32, u33, u34, u35, u36, u37, u38, u39, u40, u41, u42, u43, u44, u45, u46, u47, u48, u49, u50, u51, u52, u53, u54, u55, .pointer (some ⟨g, 0, none⟩), .int .i64 p4, undef, undef, undef, undef, undef, undef, undef, undef, undef, undef, undef, undef, undef, undef, undef, undef, undef, undef, undef, undef, undef, undef, undef, undef, undef, undef, undef, undef, undef, undef, undef, undef, undef, undef, undef, undef, undef, undef, undef, undef, undef, undef, undef, undef, undef, undef, undef, undef, undef, undef, undef, undef, undef, undef, undef, undef, undef, undef, undef, undef, undef, undef, undef, undef, undef, undef, undef, undef, undef, undef, undef, undef, undef, undef, undef, undef, undef, undef, undef, undef, undef, undef, undef, undef, undef, undef, undef, undef, undef, undef, undef, undef, undef, undef, undef, undef, undef, undef, undef, undef, undef, undef, undef, undef, undef, undef, undef, undef, undef, undef, undef, undef, undef, undef, undef, undef, undef, undef, undef, undef, undef, undef, undef, undef, undef, undef, undef, undef, undef, undef, undef, undef, undef, undef, undef, undef, undef, undef, undef, undef, undef, undef, undef, undef, undef, undef, undef, undef, undef, undef, undef, undef, undef, undef, undef, undef, undef, undef, undef, undef, undef, undef, undef, undef, undef, undef, undef, undef, undef, undef, undef, undef, undef, undef, undef, undef], []⟩ w4 := by
 have HNZ := hH hnz; have HAT := hH hat; have HBv := hH hbv; have HBr := hH hbr; have HBc := hH hbc; have HBo := hH hbo; have HK := hH hk; have HPL := hH hpl; clear hnz hat hbv hbr hbc hbo hk hpl; unfold EvR at hJ
 have e0 : (p4 == 0) = false := by simp; omega
 have e1 : (p4 == 1) = false := by simp; omega
 have hcc : ((p4 == 2) = true ∧ (p4 == 3) = false) ∨ ((p4 == 2) = false ∧ (p4 == 3) = true) := by
  rcases hp with rfl | rfl <;> simp
 clear hp
 conv => arg 2; whnf
 rcases hcc with ⟨e2, e3⟩ | ⟨e2, e3⟩
 all_goals
  have hb := HBo.out; have o11 := hb.cell 11; simp at o11; have zo := hb.lt; clear hb
  go_upto_region 15 with fail
  go_cut [66] from 67 to 75 (fun _ wx => ∃ ev : Ev, Box wx (w.heap.size + 1) 102 ev.cs.toArray ∧ Rd wx g (lim + 5) ∧ Keeps (one g) w wx)
  case first =>
   go_region_with (go_at_call 43; refine (pick_any g (lim + 4) 8 _ (HPL.out.rd.drewN 1) (by omega) (by omega) (by omega)).mono ?_; rintro e w5 ⟨p5, rfl, a5, b5, hrd, hk⟩; have hq := ((Keeps.refl (one g) w4).drewN 1).trans hk; clear o11 zo; replace HBv := hH (HBv.out.keeps hq (nq (by omega))); replace HBr := hH (HBr.out.keeps hq (nq (by omega))); replace HBc := hH (HBc.out.keeps hq (nq (by omega))); replace HBo := hH (HBo.out.keeps hq (nq (by omega))); replace HK := hH (HK.out.trans hq); replace HPL := hH (HPL.out.one hq (hrd.more (lim' := lim + 5) (by omega))); have sz5 := hq.size; (try simp at sz5); clear hrd hk hq; have hb := HBo.out; have o11 := hb.cell 11; simp at o11; have zo := hb.lt; clear hb; have hb := HBr.out; obtain ⟨r0, r1, r2, r3, r4, r5, r6, r7, r8, r9, r10⟩ := hb.cells11; obtain ⟨rf0, rf1, rf2, rf3, rf4, rf5, rf6, rf7, rf8, rf9, rf10⟩ := hb.fz11; have zr := hb.lt; clear hb; skip)
   all_goals generalize max (IntKind.i64.wrap (((ot.past.length : Nat) : Int) - IntKind.i64.wrap (Int.tdiv p5 7))) 0 = hh9
   all_goals clear o11 zo rf0 rf1 rf2 rf3 rf4 rf5 rf6 rf7 rf8 rf9 rf10 r0 r1 r2 r3 r4 r5 r6 r7 r8 r9 r10 zr
   all_goals go_wp2_with fail
   all_goals have kW := evW_keeps w5 (w.heap.size + 1) (⟨2, ch, hh9, 0, ⟨0, 0, 0, 0, 0, 0, 0⟩⟩ : Ev)
   all_goals have bW := evW_box HBr.out (⟨2, ch, hh9, 0, ⟨0, 0, 0, 0, 0, 0, 0⟩⟩ : Ev)
   all_goals change Met _ _ (evW w5 (w.heap.size + 1) (⟨2, ch, hh9, 0, ⟨0, 0, 0, 0, 0, 0, 0⟩⟩ : Ev))
   all_goals generalize evW w5 (w.heap.size + 1) (⟨2, ch, hh9, 0, ⟨0, 0, 0, 0, 0, 0, 0⟩⟩ : Ev) = WE at kW bW ⊢
   all_goals go_meet
   all_goals exact ⟨_, bW, (HPL.out.rd.keeps kW fun b hb h => by omega), HK.out.then kW fun i hi h => by omega⟩
  case rest =>
   obtain ⟨ev, hbr, hrd, hkk⟩ := hcut; obtain ⟨kd9, ch9, h9, n9, ⟨e9s, e9k, e9f, e9t, e9m, e9u, e9v⟩⟩ := ev; have s10 := hbr.cell 0; have s11 := hbr.cell 1; have s12 := hbr.cell 2; have s13 := hbr.cell 3; have s14 := hbr.cell 4; have s15 := hbr.cell 5; have s16 := hbr.cell 6; have s17 := hbr.cell 7; have s18 := hbr.cell 8; have s19 := hbr.cell 9; have s20 := hbr.cell 10; simp [Ev.cs] at s10 s11 s12 s13 s14 s15 s16 s17 s18 s19 s20; have zr := hbr.lt; have HRD9 := hH hrd; have HK9 := hH hkk; clear hbr hrd hkk HPL HBv HBr HBc HBo HK; go_wp2; refine bodyPost_ret (v := (⟨kd9, ch9, h9, n9, ⟨e9s, e9k, e9f, e9t, e9m, e9u, e9v⟩⟩ : Ev).val) (by simp [results, Tryd.results80, go_sem, Ev.val, s10, s11, s12, s13, s14, s15, s16, s17, s18, s19, s20]) rfl ?_; exact ⟨(⟨kd9, ch9, h9, n9, ⟨e9s, e9k, e9f, e9t, e9m, e9u, e9v⟩⟩ : Ev), rfl, HRD9.out.more (by omega), HK9.out⟩

theorem evc6 {G : Nat → Nat} {m : WdM} {g : Nat} {lim : Int} {q n0 : Nat} {w w1 w4 : World} {ch hv p4 : Int} {me ot : ChM} (u14 u15 u16 u17 u18 u19 u20 u21 u22 u23 u24 u25 u26 u27 u28 u29 u30 u31 u32 u33 u34 u35 u36 u37 u38 u39 u40 u41 u42 u43 u44 u45 u46 u47 u48 u49 u50 u51 u52 u53 u54 u55 : Value) {J K' : Act → World → Prop}
  (hl : lim ≤ 1000000) (hq : q ≤ 1000) (hgn : g < w.heap.size) (hng : ¬ m.g = g) (hnz : ∀ b, w.heap.size ≤ b → G b = 0) (hlg : m.g < w.heap.size) (hch : ch = 1 ∨ ch = 2) (lka : me.knows.length ≤ q) (hpo : ot.past.length ≤ 90) (hse : ot.st.x.sent.length ≤ 8)
  (hat : ∀ W l, Pl G W m g l q n0 → ChAt W me ∧ ChAt W ot) (hw9 : w.heap.size + 2 ≤ w1.heap.size) (szc : w1.heap.size + 2 ≤ w4.heap.size) (a4 : 0 ≤ p4) (b4 : p4 < 12)
  (hbv : Box w4 (w.heap.size) 87 #[.slice (some ⟨m.g, 0, none⟩) 2 2]) (hbr : Box w4 (w.heap.size + 1) 102 zC11) (hbc : Box w4 (w1.heap.size) 94 (chC me)) (hbo : Box w4 (w1.heap.size + 1) 94 (chC ot)) (hk : Keeps (one g) w w4) (hpl : Pl G w4 m g (lim + 4) q n0)
  (hJ : ∀ a' w', EvR G m g lim q n0 w w1 ch me ot  a' w' → J a' w') (hK : ∀ a' w', Met J a' w' → K' a' w') (hp : p4 = 6 ∨ p4 = 7 ∨ p4 = 8) :
  Code.wp Tryd.prog evSw (Exit.then K' (bodyPost Tryd.prog Tryd.f80 (RetEv w g lim))) ⟨#[.pointer (some ⟨g, 0, none⟩), .agg #[.slice (some ⟨m.g, 0, none⟩) 2 2], undef, .pointer (some ⟨w.heap.size, 0, none⟩), .pointer (some ⟨w.heap.size + 1, 0, none⟩), .int .i64 ch, .pointer (some ⟨w1.heap.size, 0, none⟩), .pointer (some ⟨w1.heap.size + 1, 0, none⟩), .int .i64 hv, undef, undef, undef, undef, undef, u14, u15, u16, u17, u18, u19, u20, u21, u22, u23, u24, u25, u26, u27, u28, u29, u30, u31, u32, u33, u34, u35, u36, u37, u38, u39, u40, u41, u42, u43, u44, u45, u46, u47, u48, u49, u50, u51, u52, u53, u54, u55, .pointer (some ⟨g, 0, none⟩), .int .i64 p4, undef, undef, undef, undef, undef, undef, undef, undef, undef, undef, undef, undef, undef, undef, undef, undef, undef, undef, undef, undef, undef, undef, undef, undef, undef, undef, undef, undef, undef, undef, undef, undef, undef, undef, undef, undef, undef, undef, undef, undef, undef, undef, undef, undef, undef, undef, undef, undef, undef, undef, undef, undef, undef, undef, undef, undef, undef, undef, undef, undef, undef, undef, undef, undef, undef, undef, undef, undef, undef, undef, undef, undef, undef, undef, undef, undef, undef, undef, undef, undef, undef, undef, undef, undef, undef, undef, undef, undef, undef, undef, undef, undef, undef, undef, undef, undef, undef, undef, undef, undef, undef, undef, undef, undef, undef, undef, undef, undef, undef, undef, undef, undef, undef, undef, undef, undef, undef, undef, undef, undef, undef, undef, undef, undef, undef, undef, undef, undef, undef, undef, undef, undef, undef, undef, undef, undef, undef, undef, undef, undef, undef, undef, undef, undef, undef, undef, undef, undef, undef, undef, undef, undef, undef, undef, undef, undef, undef, undef, undef, undef, undef, undef, undef, undef, undef, undef, undef, undef, undef, undef, undef, undef, undef, undef, undef, undef], []⟩ w4 := by
 have HNZ := hH hnz; have HAT := hH hat; have HBv := hH hbv; have HBr := hH hbr; have HBc := hH hbc; have HBo := hH hbo; have HK := hH hk; have HPL := hH hpl; clear hnz hat hbv hbr hbc hbo hk hpl; unfold EvR at hJ
 have e0 : (p4 == 0) = false := by simp; omega
 have e1 : (p4 == 1) = false := by simp; omega
 have e2 : (p4 == 2) = false := by simp; omega
 have e3 : (p4 == 3) = false := by simp; omega
 have e4 : (p4 == 4) = false := by simp; omega
 have e5 : (p4 == 5) = false := by simp; omega
 have hcc : ((p4 == 6) = true ∧ (p4 == 7) = false ∧ (p4 == 8) = false) ∨ ((p4 == 6) = false ∧ (p4 == 7) = true ∧ (p4 == 8) = false) ∨ ((p4 == 6) = false ∧ (p4 == 7) = false ∧ (p4 == 8) = true) := by
  rcases hp with rfl | rfl | rfl <;> simp
 clear hp
 conv => arg 2; whnf
 rcases hcc with ⟨e6, e7, e8⟩ | ⟨e6, e7, e8⟩ | ⟨e6, e7, e8⟩
 all_goals
  have hb := HBv.out; have v0 := hb.cell 0; simp at v0; have zv := hb.lt; clear hb; go_wp2_with fail; refine (sumPlan_any _ _ _ _ _ HPL.out.wat ch hch).mono ?_; rintro e w5 ⟨l, hll, PA, pc, rfl, hev, hge, hk⟩
  have hq := hk.more (T := one g) fun _ _ h => h.elim
  clear v0 zv; replace HBv := hH (HBv.out.keeps hq (nq (by omega))); replace HBr := hH (HBr.out.keeps hq (nq (by omega))); replace HBc := hH (HBc.out.keeps hq (nq (by omega))); replace HBo := hH (HBo.out.keeps hq (nq (by omega))); replace HK := hH (HK.out.trans hq); replace HPL := hH (HPL.out.kept hk); have sz5 := hk.size; have HEV := hH hev; have HGE := hH hge; clear hev hge hk hq
  by_cases hl0 : l.length = 0
  ·have hd : decide ((0 : Int) < (l.length : Int)) = false := decide_eq_false (by omega)
   have hdn : decide (0 < l.length) = false := decide_eq_false (by omega)
   have hdp : ¬ 0 < l.length := by omega
   have hdq : ¬ (0 : Int) < (l.length : Int) := by omega
   clear hl0; go_wp2_with fail
   go_meet
   exact ⟨hv, rfl, HPL.out.more (Nat.le_refl _) (by omega), HBv.out, HBr.out, HBc.out, HBo.out, HK.out⟩
  ·have hd : decide ((0 : Int) < (l.length : Int)) = true := decide_eq_true (by omega)
   have hdn : decide (0 < l.length) = true := decide_eq_true (by omega)
   have hdp : 0 < l.length := by omega
   have hdq : (0 : Int) < (l.length : Int) := by omega
   clear hl0; obtain ⟨be, oe, rfl, hbe⟩ := HEV.out.addr (by omega); have HNE := hH (show ∀ b, blk (some ⟨be, oe, none⟩) l.length b → ¬ b = g from fun b hb => by have := HGE.out b hb; have := hw9; omega); go_wp2_with fail; refine (pick_any g (lim + 4) _ _ HPL.out.rd (by omega) (by omega) (by omega)).mono ?_; rintro e w6 ⟨p6, rfl, a6, b6, hrd, hk⟩
   have hev := HEV.out.keeps hk fun b hb h => HNE.out b hb h
   obtain ⟨pn, rfl⟩ := Int.eq_ofNat_of_zero_le a6
   have hip : pn < l.length := by omega
   have hii : (pn : Int) < (l.length : Int) := by omega
   have d0 := hev.at2 hip 0 (.int .i64 (l.getD pn ev0).kd) rfl; have d1 := hev.at2 hip 1 (.int .i64 (l.getD pn ev0).ch) rfl; have d2 := hev.at2 hip 2 (.int .i64 (l.getD pn ev0).h) rfl; have d3 := hev.at2 hip 3 (.int .i64 (l.getD pn ev0).n) rfl; have d4 := hev.at2 hip 4 (.int .i64 (l.getD pn ev0).p.s) rfl; have d5 := hev.at2 hip 5 (.int .i64 (l.getD pn ev0).p.k) rfl; have d6 := hev.at2 hip 6 (.int .i64 (l.getD pn ev0).p.f) rfl; have d7 := hev.at2 hip 7 (.int .i64 (l.getD pn ev0).p.t) rfl; have d8 := hev.at2 hip 8 (.int .i64 (l.getD pn ev0).p.m) rfl; have d9 := hev.at2 hip 9 (.int .i64 (l.getD pn ev0).p.u) rfl; have d10 := hev.at2 hip 10 (.int .i64 (l.getD pn ev0).p.v) rfl; simp only [Nat.add_zero, ← Nat.add_assoc] at d0 d1 d2 d3 d4 d5 d6 d7 d8 d9 d10; generalize l.getD pn ev0 = ee at d0 d1 d2 d3 d4 d5 d6 d7 d8 d9 d10; have hbz : be < w6.heap.size := hev.lt ⟨by omega, _, rfl, rfl⟩; clear hev; replace HBv := hH (HBv.out.keeps hk (nq (by omega))); replace HBr := hH (HBr.out.keeps hk (nq (by omega))); replace HBc := hH (HBc.out.keeps hk (nq (by omega))); replace HBo := hH (HBo.out.keeps hk (nq (by omega))); replace HK := hH (HK.out.trans hk); replace HPL := hH (HPL.out.one hk (hrd.more (lim' := lim + 5) (by omega))); clear hrd hk
   have hber : ¬ be = w.heap.size + 1 := by have := HGE.out be ⟨by omega, _, rfl, rfl⟩; omega
   have hber' : ¬ w.heap.size + 1 = be := fun h => hber h.symm
   have hb := HBr.out; obtain ⟨r0, r1, r2, r3, r4, r5, r6, r7, r8, r9, r10⟩ := hb.cells11; obtain ⟨rf0, rf1, rf2, rf3, rf4, rf5, rf6, rf7, rf8, rf9, rf10⟩ := hb.fz11; have zr := hb.lt; clear hb; go_wp2; have kS := evW_keeps w6 (w.heap.size + 1) (⟨ee.kd, ee.ch, ee.h, ee.n, ⟨ee.p.s, ee.p.k, ee.p.f, ee.p.t, ee.p.m, ee.p.u, ee.p.v⟩⟩ : Ev); obtain ⟨s10, s11, s12, s13, s14, s15, s16, s17, s18, s19, s20⟩ := evW_cells HBr.out (⟨ee.kd, ee.ch, ee.h, ee.n, ⟨ee.p.s, ee.p.k, ee.p.f, ee.p.t, ee.p.m, ee.p.u, ee.p.v⟩⟩ : Ev); change bodyPost _ _ _ _ _ (evW w6 (w.heap.size + 1) (⟨ee.kd, ee.ch, ee.h, ee.n, ⟨ee.p.s, ee.p.k, ee.p.f, ee.p.t, ee.p.m, ee.p.u, ee.p.v⟩⟩ : Ev)); generalize evW w6 (w.heap.size + 1) (⟨ee.kd, ee.ch, ee.h, ee.n, ⟨ee.p.s, ee.p.k, ee.p.f, ee.p.t, ee.p.m, ee.p.u, ee.p.v⟩⟩ : Ev) = WF at kS s10 s11 s12 s13 s14 s15 s16 s17 s18 s19 s20 ⊢; refine bodyPost_ret (v := Ev.val (⟨ee.kd, ee.ch, ee.h, ee.n, ⟨ee.p.s, ee.p.k, ee.p.f, ee.p.t, ee.p.m, ee.p.u, ee.p.v⟩⟩ : Ev)) (by simp [results, Tryd.results80, go_sem, Ev.val, s10, s11, s12, s13, s14, s15, s16, s17, s18, s19, s20]) rfl ?_; exact ev_end (⟨ee.kd, ee.ch, ee.h, ee.n, ⟨ee.p.s, ee.p.k, ee.p.f, ee.p.t, ee.p.m, ee.p.u, ee.p.v⟩⟩ : Ev) HPL.out.rd (by omega) HK.out kS (by omega) (by omega)
end Go.Proofs.YtjcbeihoeanhaaaDoor
