/- DrawStateGot of the model. -/
import Derived.Test.YtjcbeihoeanhaaaDoorUPlL
set_option maxHeartbeats 8000000
set_option maxRecDepth 100000
set_option linter.unusedVariables false
set_option linter.unusedSimpArgs false
namespace Go.Proofs.YtjcbeihoeanhaaaDoor
open Go.RowKit

theorem drawStGot_any (A : Option Addr) (n c : Nat) (zs : List Int) (w : World) (h : Bytes w A n zs) (hc : n ≤ c) (hcm : c ≤ maxLen) :
  Calls Tryd.prog 20 #[.slice A n c] w (RetDSI w) := by
 have HBr := hH (Box.new w _ rfl 27 zCS)
 have HK := hH ((Keeps.refl noBlk w).alloc (.cells zCS 27))
 have H := hH (h.keeps ((Keeps.refl noBlk w).alloc (.cells zCS 27)) fun _ _ x => x)
 have hs0 : w.heap.size + 1 = (w.alloc (.cells zCS 27)).heap.size := by simp
 clear h
 go_enter Tryd.func20, Tryd.ntmps20
 go_wp2_with fail
 generalize (w.alloc (.cells zCS 27)) = w0 at HBr HK H hs0 ⊢
 refine (l6Open_any A n _ zs w0 H.out hc hcm).mono ?_
 rintro e w1 ⟨g, rfl, hg, hrd, hk⟩
 have hg0 : w0.heap.size ≤ g := by omega
 clear hg
 replace HBr := hH (HBr.out.keeps hk (fun h => h))
 replace HK := hH (HK.out.then hk (fun _ _ h => h.elim))
 have HRD := hH hrd
 have hg1 := hrd.lt
 clear hrd hk H
 go_wp2_with fail
 refine (l71State0_any g 0 w1 HRD.out (by omega)).mono ?_
 rintro e w2 ⟨s, x, rfl, hx, hsp, hat, hge, hrd, hk⟩
 replace HBr := hH (HBr.out.keeps hk (nq (by omega)))
 replace HK := hH (HK.out.then hk (fun i hi h => by have h' : i = g := h; omega))
 have HAT := hH hat
 have HLT := hH (fun b (hb : s.bl b) => StAt.lt hat hb)
 have HS8 := hH (hsp.sent8 hx)
 have HGE := hH (fun b (hb : s.bl b) => (show w1.heap.size ≤ b ∧ True from ⟨hge b hb, trivial⟩))
 replace HRD := hH (hrd.more (lim' := 1010) (by omega))
 clear hat hge hrd hx hsp
 have sz2 := hk.size
 clear hk
 unfold StM.val
 go_upto_region 3 with fail
 replace HBr := hH (HBr.out.alloc (.cells (smC s) 27))
 replace HAT := hH (HAT.out.kept ((Keeps.refl noBlk w2).alloc (.cells (smC s) 27)))
 replace HK := hH (HK.out.alloc (.cells (smC s) 27))
 replace HRD := hH (HRD.out.alloc (.cells (smC s) 27))
 have HGS := hH (fun b (hb : s.bl b) => (show w1.heap.size ≤ b ∧ ¬ b = w2.heap.size from ⟨(HGE.out b hb).1, fun e => by have := HLT.out b hb; omega⟩))
 have HBs := hH (Box.new w2 _ rfl 27 (smC s))
 have sz3 : w2.heap.size + 1 = (w2.alloc (.cells (smC s) 27)).heap.size := by simp
 generalize w2.alloc (.cells (smC s) 27) = w3 at HBr HBs HAT HRD HK sz3 ⊢
 go_wp2
 go_loopg [6] (12) (fun gk i wr => ∃ (s : StM) (k : Nat), k + gk = 12 ∧ i = .int .i64 k ∧ s.At wr ∧ (∀ b, s.bl b → w1.heap.size ≤ b ∧ ¬ b = w2.heap.size) ∧ Rd wr g (20000 - 1100 * gk) ∧ Box wr (w.heap.size) 27 zCS ∧ Box wr (w2.heap.size) 27 (smC s) ∧ Keeps noBlk w wr ∧ w3.heap.size ≤ wr.heap.size)
 case atStart => exact ⟨s, 0, rfl, rfl, HAT.out, HGS.out, HRD.out.more (by omega), HBr.out, HBs.out, HK.out, Nat.le_refl _⟩
 case round =>
  clear HAT HLT HS8 HGE HGS HRD HBs HBr HK
  obtain ⟨s, k, hk12, rfl, hat, hge, hrd, hbr, hbs, hkk, hsr⟩ := hrel
  have HAT := hH hat
  have HGE := hH hge
  have HRD := hH hrd
  have HBr := hH hbr
  have HBs := hH hbs
  have HK := hH hkk
  clear hat hge hrd hbr hbs hkk
  by_cases h12 : k < 12
  ·have h12b : decide ((k : Int) < 12) = true := decide_eq_true (by omega)
   have h12a : (k : Int) < 12 := by omega
   go_wp2_with fail
   refine (pick_any g (20000 - 1100 * gk) 8 _ HRD.out (by omega) (by omega) (by omega)).mono ?_
   rintro e w6 ⟨p, rfl, pa, pb, hrd, hk⟩
   replace HBr := hH (HBr.out.keeps hk (nq (by omega)))
   replace HBs := hH (HBs.out.keeps hk (nq (by omega)))
   replace HAT := hH (HAT.out.keeps hk (fun b hb h => by have h' : b = g := h; have := (HGE.out b hb).1; omega))
   replace HK := hH (HK.out.then hk (fun i hi h => by have h' : i = g := h; omega))
   replace HRD := hH (hrd.more (lim' := 20000 - 1100 * gk + 1) (by omega))
   clear hrd
   have sz6 := hk.size
   clear hk
   have hw1 : IntKind.i64.wrap (1 + p) = 1 + p := IntWalk.i64_in _ (by omega)
   have hb := HBs.out
   obtain ⟨s0, s1, s2, s3, s4, s5, s6⟩ := hb.cells7
   have zs := hb.lt
   clear hb
   go_wp2_with fail
   refine (specGot_any s.x s.A1 s.A2 s.A3 s.A4 s.c1 s.c2 s.c3 s.c4 (1 + p) _ HAT.out).mono ?_
   rintro e w7 ⟨rfl, hk⟩
   clear s0 s1 s2 s3 s4 s5 s6 zs
   replace HBr := hH (HBr.out.keeps hk (fun h => h))
   replace HBs := hH (HBs.out.keeps hk (fun h => h))
   replace HAT := hH (HAT.out.keeps hk (fun _ _ h => h))
   replace HK := hH (HK.out.then hk (fun _ _ h => h.elim))
   replace HRD := hH (HRD.out.keeps hk fun _ _ h => h)
   have sz7 := hk.size
   clear hk
   generalize gotN s.x (1 + p) = gn
   by_cases hgn : 0 < gn
   ·have hgb : decide (0 < gn) = true := decide_eq_true hgn
    have hb := HBs.out
    obtain ⟨s0, s1, s2, s3, s4, s5, s6⟩ := hb.cells7
    have zs := hb.lt
    clear hb
    have hb := HBr.out
    obtain ⟨r0, r1, r2, r3, r4, r5, r6⟩ := hb.cells7
    obtain ⟨rf0, rf1, rf2, rf3, rf4, rf5, rf6⟩ := hb.fz7
    have zr := hb.lt
    clear hb
    have : ¬ w2.heap.size = w.heap.size := by omega
    have : ¬ w.heap.size = w2.heap.size := by omega
    go_wp2
    have kF := stW_keeps w7 (w.heap.size) s
    obtain ⟨s10, s11, s12, s13, s14, s15, s16⟩ := stW_cells HBr.out s
    change bodyPost _ _ _ _ _ (stW w7 (w.heap.size) s)
    generalize stW w7 (w.heap.size) s = WF at kF s10 s11 s12 s13 s14 s15 s16 ⊢
    refine bodyPost_ret (v := .tuple #[s.val, .int .i64 (1 + p)]) (by simp [results, Tryd.results20, go_sem, StM.val, s10, s11, s12, s13, s14, s15, s16]) rfl ?_
    exact ⟨s, _, rfl, HAT.out.keeps kF (fun b hb h => by have h' : b = w.heap.size := h; have := (HGE.out b hb).1; omega), HK.out.then kF fun i hi h => by have h' : i = w.heap.size := h; omega⟩
   ·have hgb : decide (0 < gn) = false := decide_eq_false hgn
    have hgq : gn ≤ 0 := by omega
    have hm4 : ((k : Int) % 4 == 3) = decide (k % 4 = 3) := by rw [Bool.eq_iff_iff]; simp; omega
    have hm5 : (((k : Int).tmod 4) == 3) = decide (k % 4 = 3) := by rw [Int.tmod_eq_emod_of_nonneg (by omega)]; exact hm4
    by_cases h43 : k % 4 = 3
    ·rw [decide_eq_true h43] at hm4 hm5
     go_wp2_with fail
     refine (l71State0_any g (20000 - 1100 * gk + 1) _ HRD.out (by omega)).mono ?_
     rintro e w8 ⟨t, y, rfl, -, -, hat, hge, hrd, hk⟩
     clear HAT HGE
     replace HBr := hH (HBr.out.keeps hk (nq (by omega)))
     replace HBs := hH (HBs.out.keeps hk (nq (by omega)))
     replace HK := hH (HK.out.then hk (fun i hi h => by have h' : i = g := h; omega))
     have szt := hk.size
     have HAT := hH hat
     have HGE := hH hge
     replace HRD := hH hrd
     clear hat hge hrd hk
     have hb := HBs.out
     obtain ⟨s0, s1, s2, s3, s4, s5, s6⟩ := hb.cells7
     obtain ⟨sf0, sf1, sf2, sf3, sf4, sf5, sf6⟩ := hb.fz7
     have zs := hb.lt
     clear hb
     unfold StM.val
     go_wp2
     have kS := stW_keeps w8 (w2.heap.size) t
     have bS := stW_box HBs.out t
     have szs := kS.size
     go_roundg (gk - 1)
     case measure => omega
     case rel =>
     exact ⟨t, k + 1, by omega, by go_num, HAT.out.keeps kS (fun b hb h => by have h' : b = w2.heap.size := h; have := HGE.out b hb; omega), fun b hb => ⟨by have := HGE.out b hb; omega, by have := HGE.out b hb; omega⟩, (HRD.out.keeps kS fun b hb h => by have h' : b = w2.heap.size := h; omega).more (by omega), HBr.out.keeps kS (nq (by omega)), bS, HK.out.then kS (fun i hi h => by have h' : i = w2.heap.size := h; omega), Nat.le_trans hsr (Nat.le_trans (show wr.heap.size ≤ w8.heap.size by omega) kS.size)⟩
    ·rw [decide_eq_false h43] at hm4 hm5
     go_wp2
     go_roundg (gk - 1)
     case measure => omega
     case rel =>
     exact ⟨s, k + 1, by omega, by go_num, HAT.out, HGE.out, HRD.out.more (by omega), HBr.out, HBs.out, HK.out, by omega⟩
  ·have h12b : decide ((k : Int) < 12) = false := decide_eq_false (by omega)
   have h12a : ¬ (k : Int) < 12 := by omega
   have hb := HBs.out
   obtain ⟨s0, s1, s2, s3, s4, s5, s6⟩ := hb.cells7
   have zs := hb.lt
   clear hb
   have hb := HBr.out
   obtain ⟨r0, r1, r2, r3, r4, r5, r6⟩ := hb.cells7
   obtain ⟨rf0, rf1, rf2, rf3, rf4, rf5, rf6⟩ := hb.fz7
   have zr := hb.lt
   clear hb
   have : ¬ w2.heap.size = w.heap.size := by omega
   have : ¬ w.heap.size = w2.heap.size := by omega
   go_wp2_with fail
   go_region_held3 (fun w' => w'.cell? ⟨w2.heap.size, 0, none⟩ = some (.int .i64 s.x.way) ∧ w'.cell? ⟨w2.heap.size, 1, none⟩ = some (.int .i64 s.x.ver) ∧ w'.cell? ⟨w2.heap.size, 2, none⟩ = some (.int .i64 s.x.want) ∧ w'.cell? ⟨w2.heap.size, 3, none⟩ = some (.slice s.A1 s.x.sent.length s.c1) ∧ w'.cell? ⟨w2.heap.size, 4, none⟩ = some (.slice s.A2 s.x.live.length s.c2) ∧ w'.cell? ⟨w2.heap.size, 5, none⟩ = some (.slice s.A3 s.x.back.length s.c3) ∧ w'.cell? ⟨w2.heap.size, 6, none⟩ = some (.slice s.A4 s.x.got.length s.c4))
    (((try dsimp only); (repeat' apply And.intro) <;> (first | with_reducible assumption | (go_keep; done))))
    (first | (go_at_call 43; refine (pick_any g (20000) _ _ ((HRD.out.more (lim' := 20000) (by omega)).drewN 1) (by omega) (by omega) (by omega)).mono ?_; rintro e v1 ⟨x1, rfl, xa1, xb1, hrd, hk⟩; have HQ1 := hH (((Keeps.refl (one g) wr).drewN 1).trans hk); have sq := HQ1.out.size; have hb9 := HBs.out.keeps HQ1.out (nq (by omega)); have hr9 := HBr.out.keeps HQ1.out (nq (by omega)); obtain ⟨a0, a1, a2, a3, a4, a5, a6⟩ := hb9.cells7; have b0 := hr9.cell 0; have bf0 := hr9.frozen 0; have b1 := hr9.cell 1; have bf1 := hr9.frozen 1; have b2 := hr9.cell 2; have bf2 := hr9.frozen 2; have b3 := hr9.cell 3; have bf3 := hr9.frozen 3; have b4 := hr9.cell 4; have bf4 := hr9.frozen 4; have b5 := hr9.cell 5; have bf5 := hr9.frozen 5; have b6 := hr9.cell 6; have bf6 := hr9.frozen 6; simp at b0 b1 b2 b3 b4 b5 b6; have za := hb9.lt; have zb := hr9.lt; have HB9 := hH hr9; clear hrd hk hb9 hr9))
   go_wp2
   replace HAT := hH (HAT.out.keeps HQ1.out (fun b hb h => by have h' : b = g := h; have := (HGE.out b hb).1; omega))
   replace HK := hH (HK.out.then HQ1.out (fun i hi h => by have h' : i = g := h; omega))
   clear HBr
   have HBr := HB9
   have kF := stW_keeps v1 (w.heap.size) s
   obtain ⟨s10, s11, s12, s13, s14, s15, s16⟩ := stW_cells HBr.out s
   change bodyPost _ _ _ _ _ (stW v1 (w.heap.size) s)
   generalize stW v1 (w.heap.size) s = WF at kF s10 s11 s12 s13 s14 s15 s16 ⊢
   refine bodyPost_ret (v := .tuple #[s.val, .int .i64 x1]) (by simp [results, Tryd.results20, go_sem, StM.val, s10, s11, s12, s13, s14, s15, s16]) rfl ?_
   exact ⟨s, _, rfl, HAT.out.keeps kF (fun b hb h => by have h' : b = w.heap.size := h; have := (HGE.out b hb).1; omega), HK.out.then kF fun i hi h => by have h' : i = w.heap.size := h; omega⟩
end Go.Proofs.YtjcbeihoeanhaaaDoor
