/- DrawStateOk of the model. -/
import Derived.Test.YtjcbeihoeanhaaaDoorUPlL
set_option maxRecDepth 100000
set_option maxHeartbeats 8000000
set_option linter.unusedVariables false
set_option linter.unusedSimpArgs false
namespace Go.Proofs.YtjcbeihoeanhaaaDoor
open Go.RowKit

def bkSet (s : StM) (k : Nat) : StM := { s with x := { s.x with back := s.x.back.set k true } }
theorem bkSet_bl {s : StM} {k b : Nat} (h : (bkSet s k).bl b) : s.bl b := by
 unfold bkSet at h
 rcases h with h | h | h | h
 ·exact .inl h
 ·exact .inr (.inl h)
 ·dsimp only at h
  rw [List.length_set] at h; exact .inr (.inr (.inl h))
 ·exact .inr (.inr (.inr h))
theorem bkW_addr {w : World} {lo : Nat} {s : StM} (h : BkW w lo s) (hz : 0 < s.x.back.length) : ∃ b, s.A3 = some ⟨b, 0, none⟩ ∧ lo ≤ b ∧ ¬ blk s.A1 s.x.sent.length b ∧ ¬ blk s.A2 s.x.live.length b ∧ ¬ blk s.A4 s.x.got.length b := by
 obtain ⟨_, h1, h2⟩ := owns_cells h.1
 cases e : s.A3 with
 | none => have := (h1 e).1; omega
 | some a =>
  obtain ⟨g, rfl, _⟩ := h2 a e; exact ⟨g, rfl, h.2 g (by rw [e]; rfl)⟩
theorem bkW_cell {w : World} {lo b k : Nat} {s : StM} (h : BkW w lo s) (e : s.A3 = some ⟨b, 0, none⟩) (hk : k < s.x.back.length) : w.cell? ⟨b, k, none⟩ = some (.bool (s.x.back.getD k false)) ∧ w.frozen? ⟨b, k, none⟩ = false ∧ b < w.heap.size := by
 obtain ⟨_, _, h2⟩ := owns_cells h.1; obtain ⟨g, e2, hg, hc, hf⟩ := h2 _ e
 injection e2 with e3 e4
 subst e3; have c := hc k (.bool (s.x.back.getD k false)) (by rw [vBs, List.getElem?_map, getD_some false hk]; rfl); have f := hf k; rw [Nat.zero_add] at c f; exact ⟨c, f, hg⟩
theorem bkW_set {w : World} {lo b k : Nat} {s : StM} (h : BkW w lo s) (ha : s.At w) (e : s.A3 = some ⟨b, 0, none⟩) (hk : k < s.x.back.length) : (bkSet s k).At (w.setCell ⟨b, k, none⟩ (.bool true)) := by
 obtain ⟨_, n1, n2, n4⟩ := h.2 b (by rw [e]; rfl); have kS := (Keeps.refl (fun i => i = b) w).setCell (p := ⟨b, k, none⟩) (.inr rfl) (.bool true); have hrow := h.1; rw [e] at hrow; have q3 := (hrow.stored k (.bool true)).1
 have evs : (vBs s.x.back).set k (.bool true) = vBs (s.x.back.set k true) := by simp [vBs, List.map_set]
 have hle : (s.x.back.set k true).length = s.x.back.length := List.length_set
 have q4 : World.ownsRow (w.setCell ⟨b, k, none⟩ (.bool true)) 0 4 1 (.slice (some ⟨b, 0, none⟩) (s.x.back.set k true).length s.c3) (s.x.back.set k true).length (vBs (s.x.back.set k true)) := by rw [hle, ← evs]; exact q3
 have q5 := owns_bools q4; refine ⟨⟨ha.1.1.keeps kS fun i hi hS => n1 (by have h' : i = b := hS; rwa [h'] at hi), ha.1.2.1.keeps kS fun i hi hS => n2 (by have h' : i = b := hS; rwa [h'] at hi), ?_, ha.1.2.2.2.keeps kS fun i hi hS => n4 (by have h' : i = b := hS; rwa [h'] at hi)⟩, ha.2.1, ha.2.2.1, ?_, ha.2.2.2.2⟩
 ·show Bools _ s.A3 (s.x.back.set k true).length _
  rw [e]; exact q5
 ·show (s.x.back.set k true).length ≤ maxLen
  rw [hle]; exact ha.2.2.2.1
theorem drawStOk_any (A : Option Addr) (n c : Nat) (zs : List Int) (w : World) (h : Bytes w A n zs) (hc : n ≤ c) (hcm : c ≤ maxLen) :
  Calls Tryd.prog 30 #[.slice A n c] w (RetDS w) := by
 have HBr := hH (Box.new w _ rfl 27 zCS); have HK := hH ((Keeps.refl noBlk w).alloc (.cells zCS 27)); have H := hH (h.keeps ((Keeps.refl noBlk w).alloc (.cells zCS 27)) fun _ _ x => x)
 have hs0 : w.heap.size + 1 = (w.alloc (.cells zCS 27)).heap.size := by simp
 clear h
 go_enter Tryd.func30, Tryd.ntmps30
 go_wp2_with fail; generalize (w.alloc (.cells zCS 27)) = w0 at HBr HK H hs0 ⊢; refine (l6Open_any A n _ zs w0 H.out hc hcm).mono ?_; rintro e w1 ⟨g, rfl, hg, hrd, hk⟩
 have hg0 : w0.heap.size ≤ g := by omega
 clear hg; replace HBr := hH (HBr.out.keeps hk (fun h => h)); replace HK := hH (HK.out.then hk (fun _ _ h => h.elim)); have HRD := hH hrd; have hg1 := hrd.lt; clear hrd hk H; go_wp2_with fail; refine (l71State_any g 0 w1 HRD.out (by omega)).mono ?_; rintro e w2 ⟨s, x, rfl, hx, hsp, hat, hge, hbw, hrd, hk⟩; replace HBr := hH (HBr.out.keeps hk (nq (by omega))); replace HK := hH (HK.out.then hk (fun i hi h => by have h' : i = g := h; omega)); have HAT := hH hat; have HLT := hH (fun b (hb : s.bl b) => StAt.lt hat hb); have HGE := hH (fun b (hb : s.bl b) => (show w1.heap.size ≤ b ∧ True from ⟨hge b hb, trivial⟩)); have HBW := hH (hbw : BkW _ w1.heap.size s); have HS8 := hH (hsp.back8 hx); replace HRD := hH (hrd.more (lim' := 1010) (by omega)); clear hat hge hrd hx hsp hbw; have sz2 := hk.size; clear hk; have hl8 : s.x.back.length ≤ 8 := HS8.out
 have hl8i : (s.x.back.length : Int) ≤ 8 := by omega
 unfold StM.val
 go_upto_region 3 with fail
 have HGS := hH (fun b (hb : s.bl b) => (show w1.heap.size ≤ b ∧ ¬ b = w2.heap.size from ⟨(HGE.out b hb).1, fun e => by have := HLT.out b hb; omega⟩)); replace HBr := hH (HBr.out.alloc (.cells (smC s) 27)); replace HAT := hH (HAT.out.kept ((Keeps.refl noBlk w2).alloc (.cells (smC s) 27))); replace HBW := hH (HBW.out.keeps ((Keeps.refl noBlk w2).alloc (.cells (smC s) 27)) (Nat.le_refl _) (fun _ _ _ h => h)); replace HK := hH (HK.out.alloc (.cells (smC s) 27)); replace HRD := hH (HRD.out.alloc (.cells (smC s) 27)); have HBs := hH (Box.new w2 _ rfl 27 (smC s))
 have sz3 : w2.heap.size + 1 = (w2.alloc (.cells (smC s) 27)).heap.size := by simp
 generalize w2.alloc (.cells (smC s) 27) = w3 at HBr HBs HAT HRD HBW HK sz3 ⊢; go_wp2_with fail; refine (pick_any g (1010) 6 _ HRD.out (by omega) (by omega) (by omega)).mono ?_; rintro e w4 ⟨p, rfl, pa, pb, hrd, hk⟩; replace HBr := hH (HBr.out.keeps hk (nq (by omega))); replace HBs := hH (HBs.out.keeps hk (nq (by omega))); replace HAT := hH (HAT.out.keeps hk (fun b hb h => by have h' : b = g := h; have := (HGE.out b hb).1; omega)); replace HBW := hH (HBW.out.keeps hk (Nat.le_refl _) (fun b h1 _ h => by have h' : b = g := h; omega)); replace HK := hH (HK.out.then hk (fun i hi h => by have h' : i = g := h; omega)); replace HRD := hH (hrd.more (lim' := 1010 + 1) (by omega)); clear hrd; have sz4 := hk.size; clear hk
 by_cases hp : p = 0
 ·have hpb : (p == 0) = true := by simp [hp]
  by_cases hz : 0 < s.x.back.length
  ·have hzb : decide ((0 : Int) < (s.x.back.length : Int)) = true := decide_eq_true (by omega)
   have hzn : decide (0 < s.x.back.length) = true := decide_eq_true hz; have hb := HBs.out; have s5 := hb.cell 5; simp at s5; have zs := hb.lt; clear hb; obtain ⟨bb, eB, hbw9, hne1, hne2, hne4⟩ := bkW_addr HBW.out hz; have HEB := hH eB; have HN := hH (And.intro hne1 (And.intro hne2 hne4)); clear eB hne1 hne2 hne4; rw [HEB.out] at s5
   have hbg : ¬ bb = g := by omega
   have hbs : ¬ bb = w2.heap.size := fun e9 => by have := HLT.out bb (.inr (.inr (.inl ⟨hz, _, HEB.out, rfl⟩))); omega
   have hbs' : ¬ w2.heap.size = bb := fun h => hbs h.symm
   have hbr : ¬ bb = w.heap.size := by omega
   have hbr' : ¬ w.heap.size = bb := by omega
   have TK1 : True := trivial; go_wp2_with fail
   go_region_held3 (fun w' => w'.cell? ⟨w2.heap.size, 5, none⟩ = some (.slice (some ⟨bb, 0, none⟩) s.x.back.length s.c3))
    (((try dsimp only); (repeat' apply And.intro) <;> (first | with_reducible assumption | (go_keep; done) | ((repeat rw [World.cell?_setCell_other _ _ _ _ (by intro e; injection e with e _; omega)]); with_reducible assumption))))
    (first | (go_at_call 43; have _t := TK1; clear _t; refine (pick_any g (1010 + 1 + 0) _ _ ((HRD.out.drewN 1).more (by omega)) (by omega) (by omega) (by omega)).mono ?_; rintro e v1 ⟨x1, rfl, xa1, xb1, hrd, hk⟩; clear TK1; have TK2 : True := trivial; have HQ1 := hH (((Keeps.refl (one g) w4).drewN 1).trans hk); have HRD1 := hH (hrd.more (lim' := 1010 + 1 + 1) (by omega)); have sq1 := HQ1.out.size; obtain ⟨pn, rfl⟩ := Int.eq_ofNat_of_zero_le xa1; have hpn : pn < s.x.back.length := (by omega); have hip : (pn : Int) < (s.x.back.length : Int) := (by omega); have hb9 := HBs.out.keeps HQ1.out (nq (by omega)); obtain ⟨a0, a1, a2, a3, a4, a5, a6⟩ := hb9.cells7; have az := hb9.lt; clear hb9; rw [HEB.out] at a5; obtain ⟨gc, gf, gz⟩ := bkW_cell (HBW.out.keeps HQ1.out (Nat.le_refl _) (fun b h1 h2 h => by have h' : b = g := h; omega)) HEB.out hpn; clear hrd hk))
   have HBW1 := hH (HBW.out.keeps HQ1.out (Nat.le_refl _) (fun b h1 h2 h => by have h' : b = g := h; omega)); replace HBr := hH (HBr.out.keeps HQ1.out (nq (by omega))); replace HBs := hH (HBs.out.keeps HQ1.out (nq (by omega))); replace HAT := hH (HAT.out.keeps HQ1.out (fun b hb h => by have h' : b = g := h; have := (HGE.out b hb).1; omega)); replace HK := hH (HK.out.then HQ1.out (fun i hi h => by have h' : i = g := h; omega)); clear HRD; have HRD := HRD1; clear HRD1; have kS := (Keeps.refl (fun b => b = bb) v1).setCell (p := ⟨bb, pn, none⟩) (.inr rfl) (.bool true); have HBs2 := hH (HBs.out.keeps kS (fun h => by omega)); have HBr2 := hH (HBr.out.keeps kS (fun h => by omega)); have HK2 := hH (HK.out.then kS fun i hi h => by have h' : i = bb := h; omega); have HAT2 := hH (bkW_set HBW1.out HAT.out HEB.out hpn); have HGE2 := hH (fun b (hb : StM.bl (bkSet s pn) b) => HGE.out b (bkSet_bl hb)); have hs9 := HBs2.out; obtain ⟨c0, c1, c2, c3, c4, c5, c6⟩ := hs9.cells7; have cz := hs9.lt; have hr9 := HBr2.out; have r0 := hr9.cell 0; have rf0 := hr9.frozen 0; have r1 := hr9.cell 1; have rf1 := hr9.frozen 1; have r2 := hr9.cell 2; have rf2 := hr9.frozen 2; have r3 := hr9.cell 3; have rf3 := hr9.frozen 3; have r4 := hr9.cell 4; have rf4 := hr9.frozen 4; have r5 := hr9.cell 5; have rf5 := hr9.frozen 5; have r6 := hr9.cell 6; have rf6 := hr9.frozen 6; simp at r0 r1 r2 r3 r4 r5 r6; have rz := hr9.lt; clear hs9 hr9 HBs HBr HK HAT HGE kS
   have : ¬ w2.heap.size = w.heap.size := by omega
   have : ¬ w.heap.size = w2.heap.size := by omega
   go_wp2; have HGE := HGE2; have HAT := HAT2; have HK := HK2; have HBr := HBr2; clear HGE2 HAT2 HK2 HBr2; have kF := stW_keeps (v1.setCell ⟨bb, pn, none⟩ (.bool true)) (w.heap.size) (bkSet s pn); obtain ⟨s10, s11, s12, s13, s14, s15, s16⟩ := stW_cells HBr.out (bkSet s pn); have hln : (s.x.back.set pn true).length = s.x.back.length := List.length_set
   have hW : stW (v1.setCell ⟨bb, pn, none⟩ (.bool true)) (w.heap.size) (bkSet s pn) = stW (v1.setCell ⟨bb, pn, none⟩ (.bool true)) (w.heap.size) s := by unfold stW bkSet; dsimp only; rw [hln]
   rw [hW] at kF s10 s11 s12 s13 s14 s15 s16; dsimp only [bkSet] at s10 s11 s12 s13 s14 s15 s16; rw [hln, HEB.out] at s15
   have hW2 : stW (v1.setCell ⟨bb, pn, none⟩ (.bool true)) (w.heap.size) s = stW (v1.setCell ⟨bb, pn, none⟩ (.bool true)) (w.heap.size) ({ s with A3 := some ⟨bb, 0, none⟩ } : StM) := by unfold stW; dsimp only; rw [HEB.out]
   rw [hW2] at kF s10 s11 s12 s13 s14 s15 s16; change bodyPost _ _ _ _ _ (stW (v1.setCell ⟨bb, pn, none⟩ (.bool true)) (w.heap.size) ({ s with A3 := some ⟨bb, 0, none⟩ } : StM)); generalize stW (v1.setCell ⟨bb, pn, none⟩ (.bool true)) (w.heap.size) ({ s with A3 := some ⟨bb, 0, none⟩ } : StM) = WF at kF s10 s11 s12 s13 s14 s15 s16 ⊢; refine bodyPost_ret (v := (bkSet s pn).val) (by simp [results, Tryd.results30, go_sem, StM.val, bkSet, List.length_set, HEB.out, s10, s11, s12, s13, s14, s15, s16]) rfl ?_; exact ⟨bkSet s pn, rfl, HAT.out.keeps kF (fun b hb h => by have h' : b = w.heap.size := h; have := (HGE.out b hb).1; omega), HK.out.then kF fun i hi h => by have h' : i = w.heap.size := h; omega⟩
  ·have hzb : decide ((0 : Int) < (s.x.back.length : Int)) = false := decide_eq_false (by omega)
   have hzn : decide (0 < s.x.back.length) = false := decide_eq_false hz; have hb := HBs.out; obtain ⟨s0, s1, s2, s3, s4, s5, s6⟩ := hb.cells7; have zs := hb.lt; clear hb; have hb := HBr.out; obtain ⟨r0, r1, r2, r3, r4, r5, r6⟩ := hb.cells7; obtain ⟨rf0, rf1, rf2, rf3, rf4, rf5, rf6⟩ := hb.fz7; have zr := hb.lt; clear hb
   have : ¬ w2.heap.size = w.heap.size := by omega
   have : ¬ w.heap.size = w2.heap.size := by omega
   go_wp2; have kF := stW_keeps w4 (w.heap.size) s; obtain ⟨s10, s11, s12, s13, s14, s15, s16⟩ := stW_cells HBr.out s; change bodyPost _ _ _ _ _ (stW w4 (w.heap.size) s); generalize stW w4 (w.heap.size) s = WF at kF s10 s11 s12 s13 s14 s15 s16 ⊢; refine bodyPost_ret (v := s.val) (by simp [results, Tryd.results30, go_sem, StM.val, s10, s11, s12, s13, s14, s15, s16]) rfl ?_; exact ⟨s, rfl, HAT.out.keeps kF (fun b hb h => by have h' : b = w.heap.size := h; have := (HGE.out b hb).1; omega), HK.out.then kF fun i hi h => by have h' : i = w.heap.size := h; omega⟩
 ·have hpb : (p == 0) = false := by simp [hp]
  have hb := HBs.out; obtain ⟨s0, s1, s2, s3, s4, s5, s6⟩ := hb.cells7; have zs := hb.lt; clear hb; have hb := HBr.out; obtain ⟨r0, r1, r2, r3, r4, r5, r6⟩ := hb.cells7; obtain ⟨rf0, rf1, rf2, rf3, rf4, rf5, rf6⟩ := hb.fz7; have zr := hb.lt; clear hb
  have : ¬ w2.heap.size = w.heap.size := by omega
  have : ¬ w.heap.size = w2.heap.size := by omega
  go_wp2; have kF := stW_keeps w4 (w.heap.size) s; obtain ⟨s10, s11, s12, s13, s14, s15, s16⟩ := stW_cells HBr.out s; change bodyPost _ _ _ _ _ (stW w4 (w.heap.size) s); generalize stW w4 (w.heap.size) s = WF at kF s10 s11 s12 s13 s14 s15 s16 ⊢; refine bodyPost_ret (v := s.val) (by simp [results, Tryd.results30, go_sem, StM.val, s10, s11, s12, s13, s14, s15, s16]) rfl ?_; exact ⟨s, rfl, HAT.out.keeps kF (fun b hb h => by have h' : b = w.heap.size := h; have := (HGE.out b hb).1; omega), HK.out.then kF fun i hi h => by have h' : i = w.heap.size := h; omega⟩
end Go.Proofs.YtjcbeihoeanhaaaDoor
