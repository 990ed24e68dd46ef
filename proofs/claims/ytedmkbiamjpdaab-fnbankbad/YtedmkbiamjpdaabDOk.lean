/- What DrawBankOk of the model hands back: a bank, with one amount turned, or not. -/
import Derived.Test.YtedmkbiamjpdaabDAll
import Derived.Deep.RegionHeld3
set_option linter.unusedVariables false
set_option linter.unusedSimpArgs false
namespace Go.Proofs.Ytedmkbiamjpdaab
open Go.RowKit

set_option maxRecDepth 100000 in
set_option maxHeartbeats 4000000 in
theorem drawOk_any (A : Option Addr) (n c : Nat) (zs : List Int) (w : World) (h : Bytes w A n zs) (hc : n ≤ c) (hcm : c ≤ maxLen) :
    Calls Try.prog 13 #[.slice A n c] w (RetD1 w) := by
  have H := Lib.hid h
  clear h
  go_enter Try.func13, Try.ntmps13
  go_wp2_with fail
  refine (l6Open_any A n _ zs _ (H.out.keeps ((Keeps.refl noBlk w).alloc _) fun _ _ x => x) hc hcm).mono ?_
  rintro e w1 ⟨g, rfl, hg, hrd, hk1⟩
  simp at hg
  have hgw : w.heap.size < g := by omega
  clear hg
  have hres := (Box.new w _ rfl 25 #[.slice none 0 0, .slice none 0 0, .int .i64 0]).keeps hk1 fun x => x
  have HK1 := Lib.hid (((Keeps.refl noBlk w).alloc (.cells #[.slice none 0 0, .slice none 0 0, .int .i64 0] 25)).trans hk1)
  have HRES := Lib.hid hres
  clear hk1 hres
  have hlt := hrd.lt
  have HRD := Lib.hid hrd
  clear hrd
  go_wp2_with fail
  refine (l71Bank_any g 0 _ HRD.out (by omega)).mono ?_
  rintro e w2 ⟨v, ⟨xs, ys, L⟩, rfl, ⟨A1, n1, c1, A2, n2, c2, rfl, hr1, hr2, hd, k1, k2, m1, m2⟩, hrd2, hk2, hL1, hL2, ho, hn⟩
  dsimp only at hL1 hL2 ho hn hr1 hr2
  have HN1 := Lib.hid hr1.1.1
  have s2 := hk2.size
  have HRES2 := Lib.hid ((HRES.out.keeps hk2 fun h => by have h' : w.heap.size = g := h; omega).alloc (.cells #[.slice A1 n1 c1, .slice A2 n2 c2, .int .i64 L] 25))
  have HB2 := Lib.hid (Box.new w2 _ rfl 25 #[.slice A1 n1 c1, .slice A2 n2 c2, .int .i64 L])
  have HR1 := Lib.hid (hr1.alloc (.cells #[.slice A1 n1 c1, .slice A2 n2 c2, .int .i64 L] 25))
  have HR2 := Lib.hid (hr2.alloc (.cells #[.slice A1 n1 c1, .slice A2 n2 c2, .int .i64 L] 25))
  have G1 := Lib.hid (fun i (hi : blk A1 n1 i) => (show w.heap.size < i ∧ g < i ∧ i < w2.heap.size from ⟨by have := hr1.ge hi; omega, by have := hr1.ge hi; omega, hr1.lt hi⟩))
  have G2 := Lib.hid (fun i (hi : blk A2 n2 i) => (show w.heap.size < i ∧ g < i ∧ i < w2.heap.size from ⟨by have := hr2.ge hi; omega, by have := hr2.ge hi; omega, hr2.lt hi⟩))
  have HD := Lib.hid hd
  have HRD2 := Lib.hid (hrd2.alloc (.cells #[.slice A1 n1 c1, .slice A2 n2 c2, .int .i64 L] 25))
  have hK2 := (HK1.out.then hk2 fun i hi h => by have h' : i = g := h; have := HK1.out.size; omega).alloc (.cells #[.slice A1 n1 c1, .slice A2 n2 c2, .int .i64 L] 25)
  have HK2 := Lib.hid hK2
  have hlt2 : g < w2.heap.size := by omega
  clear hk2 hr1 hr2 hd hrd2 hK2 HRD HRES
  go_wp2_with fail
  refine (pick_any g _ 5 _ HRD2.out (by omega) (by omega) (by omega)).mono ?_
  rintro e w3 ⟨p, rfl, hp0, hp5, hrd3, hk3⟩
  have hRES3 := HRES2.out.keeps hk3 fun h => by have h' : w.heap.size = g := h; omega
  have hB3 := HB2.out.keeps hk3 fun h => by have h' : w2.heap.size = g := h; omega
  have hr13 := HR1.out.keeps hk3 fun i hi h => by have h' : i = g := h; have := G1.out i hi; omega
  have hr23 := HR2.out.keeps hk3 fun i hi h => by have h' : i = g := h; have := G2.out i hi; omega
  have hK3 := HK2.out.then hk3 fun i hi h => by have h' : i = g := h; have := HK1.out.size; omega
  have HRD3 := Lib.hid hrd3
  clear hk3 hrd3 HRD2
  by_cases hp : p = 0
  · subst hp
    rcases Nat.eq_zero_or_pos n1 with h0 | h0
    · have hdg : decide ((0 : Int) < (n1 : Int)) = false := by simp; omega
      have hdn : ¬ 0 < n1 := by omega
      have hdm : decide (0 < n1) = false := by simpa using hdn
      clear h0
      have HR9 := Lib.hid hRES3
      have HB9 := Lib.hid hB3
      have HX1 := Lib.hid hr13
      have HX2 := Lib.hid hr23
      have HKK := Lib.hid hK3
      clear hRES3 hB3 hr13 hr23 hK3
      have hR8 := HR9.out
      have r0 := hR8.cell 0
      have r1 := hR8.cell 1
      have r2 := hR8.cell 2
      have f0 := hR8.frozen 0
      have f1 := hR8.frozen 1
      have f2 := hR8.frozen 2
      have hb9 := HB9.out
      have b0 := hb9.cell 0
      have b1 := hb9.cell 1
      have b2 := hb9.cell 2
      simp at r0 r1 r2 b0 b1 b2
      have hzr := hR8.lt
      have hzb := hb9.lt
      have hS : Keeps (one w.heap.size) w3 (((w3.setCell ⟨w.heap.size, 0, none⟩ (.slice A1 n1 c1)).setCell ⟨w.heap.size, 1, none⟩ (.slice A2 n2 c2)).setCell ⟨w.heap.size, 2, none⟩ (.int .i64 L)) := (((Keeps.refl _ _).set1 _ _).set1 _ _).set1 _ _
      have hx1 := (HX1.out.keeps hS fun i hi h => by have h' : i = w.heap.size := h; have := G1.out i hi; omega).less (lo' := w.heap.size) (by omega)
      have hx2 := (HX2.out.keeps hS fun i hi h => by have h' : i = w.heap.size := h; have := G2.out i hi; omega).less (lo' := w.heap.size) (by omega)
      have hK := HKK.out.then hS fun i hi h => by have h' : i = w.heap.size := h; omega
      have HY1 := Lib.hid hx1
      have HY2 := Lib.hid hx2
      have HK9 := Lib.hid hK
      clear hR8 hb9 hS hx1 hx2 hK
      go_wp2
      refine bodyPost_ret (v := .agg #[.slice A1 n1 c1, .slice A2 n2 c2, .int .i64 L]) (by simp [results, Try.results13, go_sem, r0, r1, r2]) rfl ?_
      exact ⟨_, ⟨xs, ys, L⟩, rfl, ⟨⟨A1, n1, c1, A2, n2, c2, rfl, HY1.out, HY2.out, HD.out, k1, k2, m1, m2⟩, HK9.out, hL1, hL2, ho, hn⟩⟩
    · have hb := hB3
      have b0 := hb.cell 0
      have b1 := hb.cell 1
      have b2 := hb.cell 2
      simp at b0 b1 b2
      have hgt : (0 : Int) < (n1 : Int) := by omega
      have hdg : decide ((0 : Int) < (n1 : Int)) = true := by simpa using hgt
      have hdm : decide (0 < n1) = true := by simpa using h0
      obtain ⟨a1, o1, rfl, hge1, hlt1, hc1, hf1⟩ := hr13.at_ (k := 0) h0
      simp at hc1 hf1
      have HR3 := Lib.hid hRES3
      have HBB3 := Lib.hid hB3
      have HX13 := Lib.hid hr13
      have HX23 := Lib.hid hr23
      have HKK3 := Lib.hid hK3
      have hzb := hb.lt
      have ha1 := G1.out a1 ⟨h0, _, rfl, rfl⟩
      clear hb hRES3 hB3 hr13 hr23 hK3
      go_wp2_with fail
      go_region_held3 (fun w' => w'.cell? ⟨w2.heap.size, 0, none⟩ = some (.slice (some ⟨a1, o1, none⟩) n1 c1))
        (((try dsimp only); (first | with_reducible assumption | (rw [World.cell?_setCell_other _ _ _ _ (by intro e; injection e with e _; omega)]; with_reducible assumption) | (go_keep; done))))
        ((go_at_call 30; refine (pick_any g _ 14 _ (HRD3.out.drewN 1) (by omega) (by omega) (by omega)).mono ?_; rintro e w4 ⟨q, rfl, hq0, hq5, hrd4, hk4⟩; have b0 := (hk4.cell (o := 0) hzb (fun h => by have h' : w2.heap.size = g := h; omega)).trans b0; have hc1 := (hk4.cell (o := o1) hlt1 (fun h => by have h' : a1 = g := h; omega)).trans hc1; have hf1 := (hk4.frozen (o := o1) hlt1 (fun h => by have h' : a1 = g := h; omega)).trans hf1; have HK4 := Lib.hid hk4; clear hk4 hrd4))
      have hS5 : Keeps (one a1) w4 (w4.setCell ⟨a1, o1, none⟩ (.int .i64 (IntKind.i64.wrap (q - 1)))) := (Keeps.refl _ w4).set1 o1 _
      have hR4 := ((HR3.out.drewN 1).keeps HK4.out fun h => by have h' : w.heap.size = g := h; omega).keeps hS5 fun h => by have h' : w.heap.size = a1 := h; omega
      have hB4 := ((HBB3.out.drewN 1).keeps HK4.out fun h => by have h' : w2.heap.size = g := h; omega).keeps hS5 fun h => by have h' : w2.heap.size = a1 := h; omega
      have hx14 := ((HX13.out.drewN 1).keeps HK4.out fun i hi h => by have h' : i = g := h; have := G1.out i hi; omega).set_ (k := 0) h0 (IntKind.i64.wrap (q - 1))
      have hx24 := ((HX23.out.drewN 1).keeps HK4.out fun i hi h => by have h' : i = g := h; have := G2.out i hi; omega).keeps hS5 fun i hi h => by
        have h' : i = a1 := h
        exact HD.out i (by rw [h']; exact ⟨h0, _, rfl, rfl⟩) hi
      have hK4 := ((HKK3.out.drewN 1).then HK4.out fun i hi h => by have h' : i = g := h; omega).then hS5 fun i hi h => by have h' : i = a1 := h; omega
      have HR9 := Lib.hid hR4
      have HB9 := Lib.hid hB4
      have HX1 := Lib.hid hx14
      have HX2 := Lib.hid hx24
      have HKK := Lib.hid hK4
      have HOW := Lib.hid (show (xs.set 0 (IntKind.i64.wrap (q - 1))).length ≤ 3 by rw [List.length_set]; exact ho)
      clear hS5 hR4 hB4 hx14 hx24 hK4 b0 b1 b2 hc1 hf1 HK4
      rw [Nat.add_zero] at HX1
      generalize (w4.setCell ⟨a1, o1, none⟩ (.int .i64 (IntKind.i64.wrap (q - 1)))) = w5 at HR9 HB9 HX1 HX2 HKK ⊢
      have hR8 := HR9.out
      have r0 := hR8.cell 0
      have r1 := hR8.cell 1
      have r2 := hR8.cell 2
      have f0 := hR8.frozen 0
      have f1 := hR8.frozen 1
      have f2 := hR8.frozen 2
      have hb9 := HB9.out
      have b0 := hb9.cell 0
      have b1 := hb9.cell 1
      have b2 := hb9.cell 2
      simp at r0 r1 r2 b0 b1 b2
      have hzr := hR8.lt
      have hzb := hb9.lt
      have hS : Keeps (one w.heap.size) w5 (((w5.setCell ⟨w.heap.size, 0, none⟩ (.slice (some ⟨a1, o1, none⟩) n1 c1)).setCell ⟨w.heap.size, 1, none⟩ (.slice A2 n2 c2)).setCell ⟨w.heap.size, 2, none⟩ (.int .i64 L)) := (((Keeps.refl _ _).set1 _ _).set1 _ _).set1 _ _
      have hx1 := (HX1.out.keeps hS fun i hi h => by have h' : i = w.heap.size := h; have := G1.out i hi; omega).less (lo' := w.heap.size) (by omega)
      have hx2 := (HX2.out.keeps hS fun i hi h => by have h' : i = w.heap.size := h; have := G2.out i hi; omega).less (lo' := w.heap.size) (by omega)
      have hK := HKK.out.then hS fun i hi h => by have h' : i = w.heap.size := h; omega
      have HY1 := Lib.hid hx1
      have HY2 := Lib.hid hx2
      have HK9 := Lib.hid hK
      clear hR8 hb9 hS hx1 hx2 hK
      go_wp2
      refine bodyPost_ret (v := .agg #[.slice (some ⟨a1, o1, none⟩) n1 c1, .slice A2 n2 c2, .int .i64 L]) (by simp [results, Try.results13, go_sem, r0, r1, r2]) rfl ?_
      exact ⟨_, ⟨xs.set 0 (IntKind.i64.wrap (q - 1)), ys, L⟩, rfl, ⟨⟨(some ⟨a1, o1, none⟩), n1, c1, A2, n2, c2, rfl, HY1.out, HY2.out, HD.out, k1, k2, m1, m2⟩, HK9.out, hL1, hL2, HOW.out, hn⟩⟩
  · have hpn : (p == 0) = false := by simpa using hp
    have HR9 := Lib.hid hRES3
    have HB9 := Lib.hid hB3
    have HX1 := Lib.hid hr13
    have HX2 := Lib.hid hr23
    have HKK := Lib.hid hK3
    clear hRES3 hB3 hr13 hr23 hK3
    have hR8 := HR9.out
    have r0 := hR8.cell 0
    have r1 := hR8.cell 1
    have r2 := hR8.cell 2
    have f0 := hR8.frozen 0
    have f1 := hR8.frozen 1
    have f2 := hR8.frozen 2
    have hb9 := HB9.out
    have b0 := hb9.cell 0
    have b1 := hb9.cell 1
    have b2 := hb9.cell 2
    simp at r0 r1 r2 b0 b1 b2
    have hzr := hR8.lt
    have hzb := hb9.lt
    have hS : Keeps (one w.heap.size) w3 (((w3.setCell ⟨w.heap.size, 0, none⟩ (.slice A1 n1 c1)).setCell ⟨w.heap.size, 1, none⟩ (.slice A2 n2 c2)).setCell ⟨w.heap.size, 2, none⟩ (.int .i64 L)) := (((Keeps.refl _ _).set1 _ _).set1 _ _).set1 _ _
    have hx1 := (HX1.out.keeps hS fun i hi h => by have h' : i = w.heap.size := h; have := G1.out i hi; omega).less (lo' := w.heap.size) (by omega)
    have hx2 := (HX2.out.keeps hS fun i hi h => by have h' : i = w.heap.size := h; have := G2.out i hi; omega).less (lo' := w.heap.size) (by omega)
    have hK := HKK.out.then hS fun i hi h => by have h' : i = w.heap.size := h; omega
    have HY1 := Lib.hid hx1
    have HY2 := Lib.hid hx2
    have HK9 := Lib.hid hK
    clear hR8 hb9 hS hx1 hx2 hK
    go_wp2
    refine bodyPost_ret (v := .agg #[.slice A1 n1 c1, .slice A2 n2 c2, .int .i64 L]) (by simp [results, Try.results13, go_sem, r0, r1, r2]) rfl ?_
    exact ⟨_, ⟨xs, ys, L⟩, rfl, ⟨⟨A1, n1, c1, A2, n2, c2, rfl, HY1.out, HY2.out, HD.out, k1, k2, m1, m2⟩, HK9.out, hL1, hL2, ho, hn⟩⟩
end Go.Proofs.Ytedmkbiamjpdaab
