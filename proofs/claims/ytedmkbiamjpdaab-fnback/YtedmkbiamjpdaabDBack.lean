/- DrawBankBack is DrawBankAway. -/
import Derived.Test.YtedmkbiamjpdaabDAway
set_option linter.unusedVariables false
set_option linter.unusedSimpArgs false
namespace Go.Proofs.Ytedmkbiamjpdaab
open Go.RowKit

set_option maxHeartbeats 400000 in
theorem drawBack_any (A : Option Addr) (n c : Nat) (zs : List Int) (w : World) (h : Bytes w A n zs) (hc : n ≤ c) (hcm : c ≤ maxLen) :
    Calls Try.prog 5 #[.slice A n c] w (RetDA w) := by
  have H := Lib.hid h
  clear h
  go_enter Try.func5, Try.ntmps5
  go_wp2_with fail
  refine (drawAway_any A n _ zs _ (H.out.keeps ((Keeps.refl noBlk w).alloc _) fun _ _ x => x) hc hcm).mono ?_
  rintro e w1 ⟨v, ⟨xs, ys, L⟩, k, f, s, rfl, ⟨⟨A1, n1, c1, A2, n2, c2, rfl, hA1, hA2, hAd, k1, k2, m1, m2⟩, hk1, hL1, hL2, ho, hn⟩, g1, g2, g3, g4, g5, g6⟩
  have hR := (Box.new w _ rfl 25 #[.slice none 0 0, .slice none 0 0, .int .i64 0]).keeps hk1 fun x => x
  have r0 := hR.cell 0
  have r1 := hR.cell 1
  have r2 := hR.cell 2
  have f0 := hR.frozen 0
  have f1 := hR.frozen 1
  have f2 := hR.frozen 2
  simp at r0 r1 r2
  have hS : Keeps (one w.heap.size) w1 (((w1.setCell ⟨w.heap.size, 0, none⟩ (.slice A1 n1 c1)).setCell ⟨w.heap.size, 1, none⟩ (.slice A2 n2 c2)).setCell ⟨w.heap.size, 2, none⟩ (.int .i64 L)) := (((Keeps.refl _ w1).set1 _ _).set1 _ _).set1 _ _
  have hx1 := ((hA1.keeps hS fun i hi h => by have h' : i = w.heap.size := h; have := hA1.ge hi; simp at this; omega)).less (lo' := w.heap.size) (by simp)
  have hx2 := ((hA2.keeps hS fun i hi h => by have h' : i = w.heap.size := h; have := hA2.ge hi; simp at this; omega)).less (lo' := w.heap.size) (by simp)
  have hK := (((Keeps.refl noBlk w).alloc (.cells #[.slice none 0 0, .slice none 0 0, .int .i64 0] 25)).trans hk1).then hS fun i hi h => by have h' : i = w.heap.size := h; omega
  have HX1 := Lib.hid hx1
  have HX2 := Lib.hid hx2
  have HD := Lib.hid hAd
  have HKK := Lib.hid hK
  clear hR hS hx1 hx2 hK hA1 hA2 hAd hk1
  go_wp2
  refine bodyPost_ret (v := .tuple #[.agg #[.slice A1 n1 c1, .slice A2 n2 c2, .int .i64 L], .int .i64 k, .int .i64 f, .int .i64 s]) (by simp [results, Try.results5, go_sem, r0, r1, r2]) rfl ?_
  exact ⟨_, ⟨xs, ys, L⟩, _, _, _, rfl, ⟨⟨A1, n1, c1, A2, n2, c2, rfl, HX1.out, HX2.out, HD.out, k1, k2, m1, m2⟩, HKK.out, hL1, hL2, ho, hn⟩, g1, g2, g3, g4, g5, g6⟩
end Go.Proofs.Ytedmkbiamjpdaab
