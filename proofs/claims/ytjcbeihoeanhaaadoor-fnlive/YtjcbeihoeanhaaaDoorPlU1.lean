/- DrawStateLive of the model. -/
import Derived.Test.YtjcbeihoeanhaaaDoorUPlL
set_option maxHeartbeats 8000000
set_option maxRecDepth 100000
set_option linter.unusedVariables false
set_option linter.unusedSimpArgs false
namespace Go.Proofs.YtjcbeihoeanhaaaDoor
open Go.RowKit

theorem drawStLive_any (A : Option Addr) (n c : Nat) (zs : List Int) (w : World) (h : Bytes w A n zs) (hc : n ≤ c) (hcm : c ≤ maxLen) :
  Calls Tryd.prog 27 #[.slice A n c] w (RetDS w) := by
 have HBr := hH (Box.new w _ rfl 27 zCS)
 have HK := hH ((Keeps.refl noBlk w).alloc (.cells zCS 27))
 have H := hH (h.keeps ((Keeps.refl noBlk w).alloc (.cells zCS 27)) fun _ _ x => x)
 have hs0 : w.heap.size + 1 = (w.alloc (.cells zCS 27)).heap.size := by simp
 clear h
 go_enter Tryd.func27, Tryd.ntmps27
 go_wp2_with fail
 generalize (w.alloc (.cells zCS 27)) = w0 at HBr HK H hs0 ⊢
 refine (l6Open_any A n _ zs w0 H.out hc hcm).mono ?_
 rintro e w1 ⟨g, rfl, hg, hrd, hk⟩
 have hg0 : w0.heap.size ≤ g := by omega
 clear hg
 replace HBr := hH (HBr.out.keeps hk (fun h => h))
 replace HK := hH (HK.out.then hk (fun _ _ h => h.elim))
 have HRD := hH hrd
 have hg1 := hrd.lt
 clear hrd hk H
 go_wp2_with fail
 refine (l71Sent_any g 0 w1 HRD.out (by omega)).mono ?_
 rintro e w2 ⟨s, x, rfl, hx, hsp, hat, hge, hrd, hk⟩
 replace HBr := hH (HBr.out.keeps hk (nq (by omega)))
 replace HK := hH (HK.out.then hk (fun i hi h => by have h' : i = g := h; omega))
 have HAT := hH hat
 have HLT := hH (fun b (hb : s.bl b) => StAt.lt hat hb)
 have HS8 := hH (hsp.sent8 hx)
 have HGE := hH (fun b (hb : s.bl b) => (show w1.heap.size ≤ b ∧ True from ⟨hge b hb, trivial⟩))
 replace HRD := hH (hrd.more (lim' := 6000) (by omega))
 clear hat hge hrd hx hsp
 have sz2 := hk.size
 clear hk
 have hb := HBr.out
 obtain ⟨r0, r1, r2, r3, r4, r5, r6⟩ := hb.cells7
 obtain ⟨rf0, rf1, rf2, rf3, rf4, rf5, rf6⟩ := hb.fz7
 have zr := hb.lt
 clear hb
 have : ¬ w.heap.size = w2.heap.size := by omega
 unfold StM.val
 go_wp2_with fail
 have kF := stW_keeps w2 (w.heap.size) s
 obtain ⟨s10, s11, s12, s13, s14, s15, s16⟩ := stW_cells HBr.out s
 change bodyPost _ _ _ _ _ (stW w2 (w.heap.size) s)
 generalize stW w2 (w.heap.size) s = WF at kF s10 s11 s12 s13 s14 s15 s16 ⊢
 refine bodyPost_ret (v := s.val) (by simp [results, Tryd.results27, go_sem, StM.val, s10, s11, s12, s13, s14, s15, s16]) rfl ?_
 exact ⟨s, rfl, HAT.out.keeps kF (fun b hb h => by have h' : b = w.heap.size := h; have := (HGE.out b hb).1; omega), HK.out.then kF fun i hi h => by have h' : i = w.heap.size := h; omega⟩
end Go.Proofs.YtjcbeihoeanhaaaDoor
