/- What DrawBankAll of the model hands back. -/
import Derived.Test.YtjbllfnfnkghgabDAway
set_option linter.unusedVariables false
set_option linter.unusedSimpArgs false
namespace Go.Proofs.Ytjbllfnfnkghgab
open Go.RowKit

def RetD1 (w : World) (e : Ending) (w' : World) : Prop := ∃ v b, e = .returned v ∧ Drawn w w' v b

set_option maxHeartbeats 1000000 in
theorem drawAll_any (A : Option Addr) (n c : Nat) (zs : List Int) (w : World) (h : Bytes w A n zs) (hc : n ≤ c) (hcm : c ≤ maxLen) :
    Calls Try.prog 10 #[.slice A n c] w (RetD1 w) := by
  have H := Lib.hid h
  clear h
  go_enter Try.func10, Try.ntmps10
  go_wp2_with fail
  refine (l6Open_any A n _ zs _ (H.out.keeps ((Keeps.refl noBlk w).alloc _) fun _ _ x => x) hc hcm).mono ?_
  rintro e w1 ⟨g, rfl, hg, hrd, hk1⟩
  simp at hg
  have hgw : w.heap.size < g := by omega
  clear hg
  have hres := (Box.new w _ rfl 25 #[.slice none 0 0, .slice none 0 0, .int .i64 0]).keeps hk1 fun x => x
  have s1 := hk1.size
  simp at s1
  have HK1 := Lib.hid hk1
  have HRES := Lib.hid hres
  clear hk1 hres
  have hlt := hrd.lt
  have HRD := Lib.hid hrd
  clear hrd
  go_wp2_with fail
  refine (l71Bank_any g 0 _ HRD.out (by omega)).mono ?_
  rintro e w2 ⟨v, b, rfl, ⟨A1, n1, c1, A2, n2, c2, rfl, hr1, hr2, hd, k1, k2, m1, m2⟩, hrd2, hk2, hL1, hL2, ho, hn⟩
  have s2 := hk2.size
  have HK2 := Lib.hid hk2
  have HR1 := Lib.hid hr1
  have HR2 := Lib.hid hr2
  have HD := Lib.hid hd
  have HRD2 := Lib.hid hrd2
  clear hk2 hr1 hr2 hd hrd2 HRD
  have hR8 := HRES.out.keeps HK2.out fun h => by have h' : w.heap.size = g := h; omega
  have r0 := hR8.cell 0
  have r1 := hR8.cell 1
  have r2 := hR8.cell 2
  have f0 := hR8.frozen 0
  have f1 := hR8.frozen 1
  have f2 := hR8.frozen 2
  simp at r0 r1 r2
  have hzr : w.heap.size < w2.heap.size := hR8.lt
  have hS : Keeps (one w.heap.size) w2 (((w2.setCell ⟨w.heap.size, 0, none⟩ (.slice A1 n1 c1)).setCell ⟨w.heap.size, 1, none⟩ (.slice A2 n2 c2)).setCell ⟨w.heap.size, 2, none⟩ (.int .i64 b.locked)) := (((Keeps.refl _ w2).set1 _ _).set1 _ _).set1 _ _
  have g1 : ∀ i, blk A1 n1 i → g < i := fun i hi => by have := HR1.out.ge hi; omega
  have g2 : ∀ i, blk A2 n2 i → g < i := fun i hi => by have := HR2.out.ge hi; omega
  have hx1 := (HR1.out.keeps hS fun i hi h => by have h' : i = w.heap.size := h; have := g1 i hi; omega).less (lo' := w.heap.size) (by omega)
  have hx2 := (HR2.out.keeps hS fun i hi h => by have h' : i = w.heap.size := h; have := g2 i hi; omega).less (lo' := w.heap.size) (by omega)
  have hK := ((((Keeps.refl noBlk w).alloc (.cells #[.slice none 0 0, .slice none 0 0, .int .i64 0] 25)).trans HK1.out).then HK2.out fun i hi h => by have h' : i = g := h; omega).then hS fun i hi h => by have h' : i = w.heap.size := h; omega
  have HX1 := Lib.hid hx1
  have HX2 := Lib.hid hx2
  have HKK := Lib.hid hK
  clear hR8 hS g1 g2 hx1 hx2 hK
  go_wp2
  refine bodyPost_ret (v := .agg #[.slice A1 n1 c1, .slice A2 n2 c2, .int .i64 b.locked]) (by simp [results, Try.results10, go_sem, r0, r1, r2]) rfl ?_
  exact ⟨_, b, rfl, ⟨⟨A1, n1, c1, A2, n2, c2, rfl, HX1.out, HX2.out, HD.out, k1, k2, m1, m2⟩, HKK.out, hL1, hL2, ho, hn⟩⟩
end Go.Proofs.Ytjbllfnfnkghgab
