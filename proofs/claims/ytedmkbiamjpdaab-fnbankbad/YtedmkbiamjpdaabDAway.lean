/- What the drawing functions of the model hand back: a bank with fresh rows, and small numbers. -/
import Derived.Test.YtedmkbiamjpdaabDraw
import Derived.Deep.RegionHeld3
set_option linter.unusedVariables false
set_option linter.unusedSimpArgs false
namespace Go.Proofs.Ytedmkbiamjpdaab
open Go.RowKit

def Drawn (w : World) (w' : World) (v : Value) (b : BankL) : Prop :=
  BankAt w' w.heap.size v b ∧ Keeps noBlk w w' ∧ -100 ≤ b.locked ∧ b.locked ≤ 100 ∧ b.own.length ≤ 3 ∧ b.notes.length = 3
def RetDA (w : World) (e : Ending) (w' : World) : Prop :=
  ∃ v b k f s, e = .returned (.tuple #[v, .int .i64 k, .int .i64 f, .int .i64 s]) ∧ Drawn w w' v b ∧ 1 ≤ k ∧ k ≤ 3 ∧ 1 ≤ f ∧ f ≤ 4 ∧ -9 ≤ s ∧ s ≤ 8

theorem quo23 {p : Int} (h0 : 0 ≤ p) (h1 : p < 24) : 0 ≤ p.tdiv 23 ∧ p.tdiv 23 ≤ 1 := by
  rw [Int.tdiv_eq_ediv_of_nonneg h0]
  omega

set_option maxHeartbeats 1000000 in
theorem drawAway_any (A : Option Addr) (n c : Nat) (zs : List Int) (w : World) (h : Bytes w A n zs) (hc : n ≤ c) (hcm : c ≤ maxLen) :
    Calls Try.prog 14 #[.slice A n c] w (RetDA w) := by
  have H := Lib.hid h
  clear h
  go_enter Try.func14, Try.ntmps14
  go_wp2_with fail
  refine (l6Open_any A n _ zs _ (H.out.keeps ((Keeps.refl noBlk w).alloc _) fun _ _ x => x) hc hcm).mono ?_
  rintro e w1 ⟨g, rfl, hg, hrd, hk1⟩
  simp at hg
  have hgw : w.heap.size < g := by omega
  clear hg
  have hres := (Box.new w _ rfl 25 #[.slice none 0 0, .slice none 0 0, .int .i64 0]).keeps hk1 fun x => x
  have s1 := hk1.size
  simp at s1
  have HK1 := Lib.hid hk1
  have HRES := Lib.hid hres
  clear hk1 hres
  have hlt := hrd.lt
  have HRD := Lib.hid hrd
  clear hrd
  go_wp2_with fail
  refine (l71Bank_any g 0 _ HRD.out (by omega)).mono ?_
  rintro e w2 ⟨v, b, rfl, ⟨A1, n1, c1, A2, n2, c2, rfl, hr1, hr2, hd, k1, k2, m1, m2⟩, hrd2, hk2, hL1, hL2, ho, hn⟩
  have s2 := hk2.size
  have HK2 := Lib.hid hk2
  have HR1 := Lib.hid hr1
  have HR2 := Lib.hid hr2
  have HD := Lib.hid hd
  have HRD2 := Lib.hid hrd2
  clear hk2 hr1 hr2 hd hrd2 HRD
  go_wp2_with fail
  refine (pick_any g (0 + 500) 2 _ HRD2.out (by omega) (by omega) (by omega)).mono ?_
  rintro e w3 ⟨p1, rfl, p1a, p1b, hrd3, hk3⟩
  have s3 := hk3.size
  have HK3 := Lib.hid hk3
  have HRD3 := Lib.hid hrd3
  clear hk3 hrd3
  go_wp2_with fail
  refine (pick_any g (0 + 500 + 1) 24 _ HRD3.out (by omega) (by omega) (by omega)).mono ?_
  rintro e w4 ⟨p2, rfl, p2a, p2b, hrd4, hk4⟩
  have s4 := hk4.size
  have HK4 := Lib.hid hk4
  have HRD4 := Lib.hid hrd4
  clear hk4 hrd4
  have p2q := quo23 p2a p2b
  go_wp2_with fail
  refine (pick_any g (0 + 500 + 1 + 1) 3 _ HRD4.out (by omega) (by omega) (by omega)).mono ?_
  rintro e w5 ⟨p3, rfl, p3a, p3b, hrd5, hk5⟩
  have s5 := hk5.size
  have HK5 := Lib.hid hk5
  have HRD5 := Lib.hid hrd5
  clear hk5 hrd5
  go_wp2_with fail
  refine (pick_any g (0 + 500 + 1 + 1 + 1) 24 _ HRD5.out (by omega) (by omega) (by omega)).mono ?_
  rintro e w6 ⟨p4, rfl, p4a, p4b, hrd6, hk6⟩
  have s6 := hk6.size
  have HK6 := Lib.hid hk6
  have HRD6 := Lib.hid hrd6
  clear hk6 hrd6
  have p4q := quo23 p4a p4b
  go_wp2_with fail
  refine (pick_any g (0 + 500 + 1 + 1 + 1 + 1) 9 _ HRD6.out (by omega) (by omega) (by omega)).mono ?_
  rintro e w7 ⟨p5, rfl, p5a, p5b, hrd7, hk7⟩
  have s7 := hk7.size
  have HK7 := Lib.hid hk7
  have HRD7 := Lib.hid hrd7
  clear hk7 hrd7
  go_wp2_with fail
  refine (pick_any g (0 + 500 + 1 + 1 + 1 + 1 + 1) 24 _ HRD7.out (by omega) (by omega) (by omega)).mono ?_
  rintro e w8 ⟨p6, rfl, p6a, p6b, hrd8, hk8⟩
  have s8 := hk8.size
  have HK8 := Lib.hid hk8
  have HRD8 := Lib.hid hrd8
  clear hk8 hrd8
  have p6q := quo23 p6a p6b
  have hkA := ((((((HK2.out.trans HK3.out).trans HK4.out).trans HK5.out).trans HK6.out).trans HK7.out)).trans HK8.out
  have hkB := (((((HK3.out).trans HK4.out).trans HK5.out).trans HK6.out).trans HK7.out).trans HK8.out
  have hR8 := HRES.out.keeps hkA fun h => by have h' : w.heap.size = g := h; omega
  have r0 := hR8.cell 0
  have r1 := hR8.cell 1
  have r2 := hR8.cell 2
  have f0 := hR8.frozen 0
  have f1 := hR8.frozen 1
  have f2 := hR8.frozen 2
  simp at r0 r1 r2
  have hzr : w.heap.size < w8.heap.size := hR8.lt
  have hS : Keeps (one w.heap.size) w8 (((w8.setCell ⟨w.heap.size, 0, none⟩ (.slice A1 n1 c1)).setCell ⟨w.heap.size, 1, none⟩ (.slice A2 n2 c2)).setCell ⟨w.heap.size, 2, none⟩ (.int .i64 b.locked)) := (((Keeps.refl _ w8).set1 _ _).set1 _ _).set1 _ _
  have g1 : ∀ i, blk A1 n1 i → g < i := fun i hi => by have := HR1.out.ge hi; omega
  have g2 : ∀ i, blk A2 n2 i → g < i := fun i hi => by have := HR2.out.ge hi; omega
  have hx1 := ((HR1.out.keeps hkB fun i hi h => by have h' : i = g := h; have := g1 i hi; omega).keeps hS fun i hi h => by have h' : i = w.heap.size := h; have := g1 i hi; omega).less (lo' := w.heap.size) (by omega)
  have hx2 := ((HR2.out.keeps hkB fun i hi h => by have h' : i = g := h; have := g2 i hi; omega).keeps hS fun i hi h => by have h' : i = w.heap.size := h; have := g2 i hi; omega).less (lo' := w.heap.size) (by omega)
  have hK := ((((Keeps.refl noBlk w).alloc (.cells #[.slice none 0 0, .slice none 0 0, .int .i64 0] 25)).trans HK1.out).then hkA fun i hi h => by have h' : i = g := h; omega).then hS fun i hi h => by have h' : i = w.heap.size := h; omega
  have HX1 := Lib.hid hx1
  have HX2 := Lib.hid hx2
  have HKK := Lib.hid hK
  clear hkA hkB hR8 hS g1 g2 hx1 hx2 hK
  go_wp2
  refine bodyPost_ret (v := .tuple #[.agg #[.slice A1 n1 c1, .slice A2 n2 c2, .int .i64 b.locked], .int .i64 (1 + p1 + p2.tdiv 23), .int .i64 (1 + p3 + p4.tdiv 23), .int .i64 (p5 - p6.tdiv 23 * 9)]) (by simp [results, Try.results14, go_sem, r0, r1, r2]) rfl ?_
  exact ⟨_, b, _, _, _, rfl, ⟨⟨A1, n1, c1, A2, n2, c2, rfl, HX1.out, HX2.out, HD.out, k1, k2, m1, m2⟩, HKK.out, hL1, hL2, ho, hn⟩, by omega, by omega, by omega, by omega, by omega, by omega⟩
end Go.Proofs.Ytedmkbiamjpdaab
