/- DrawPacketText, DrawPacketOk hand back some packet. -/
import Derived.Test.YtjbllfnfnkghgaaDoorPkDraw
set_option linter.unusedVariables false
set_option linter.unusedSimpArgs false
namespace Go.Proofs.YtjbllfnfnkghgaaDoor
open Go.RowKit

set_option maxRecDepth 100000 in
set_option maxHeartbeats 1000000 in
theorem drawPkText_any (A : Option Addr) (n c : Nat) (zs : List Int) (w : World) (h : Bytes w A n zs) (hc : n ≤ c) (hcm : c ≤ maxLen) :
    Calls Tryd.prog 12 #[.slice A n c] w (RetDP w) := by
  have H := Lib.hid h
  clear h
  go_enter Tryd.func12, Tryd.ntmps12
  go_wp2_with fail
  refine (l6Open_any A n _ zs _ (H.out.keeps ((Keeps.refl noBlk w).alloc _) fun _ _ x => x) hc hcm).mono ?_
  rintro e w1 ⟨g, rfl, hg, hrd, hk1⟩
  simp at hg
  have hgw : w.heap.size < g := by omega
  clear hg
  have HR := Lib.hid ((Box.new w _ rfl 24 #[.int .i64 0, .int .i64 0, .int .i64 0, .int .i64 0, .int .i64 0, .int .i64 0, .int .i64 0]).keeps hk1 fun x => x)
  have HK1 := Lib.hid (((Keeps.refl noBlk w).alloc (.cells #[.int .i64 0, .int .i64 0, .int .i64 0, .int .i64 0, .int .i64 0, .int .i64 0, .int .i64 0] 24)).trans hk1)
  have HRD := Lib.hid hrd
  clear hrd hk1
  go_wp2_with fail
  refine (l71Packet_any g 0 _ HRD.out (by omega)).mono ?_
  rintro e w2 ⟨s, k, f, t, m, u, x, rfl, hrd, hk2⟩
  have HR2 := Lib.hid (HR.out.keeps hk2 (fun h => by have h' : w.heap.size = g := h; omega))
  have HK2 := Lib.hid (HK1.out.then hk2 (fun i hi h => by have h' : i = g := h; omega))
  clear hrd hk2
  have r0 := HR2.out.cell 0
  have r1 := HR2.out.cell 1
  have r2 := HR2.out.cell 2
  have r3 := HR2.out.cell 3
  have r4 := HR2.out.cell 4
  have r5 := HR2.out.cell 5
  have r6 := HR2.out.cell 6
  simp at r0 r1 r2 r3 r4 r5 r6
  have rf0 := HR2.out.frozen 0
  have rf1 := HR2.out.frozen 1
  have rf2 := HR2.out.frozen 2
  have rf3 := HR2.out.frozen 3
  have rf4 := HR2.out.frozen 4
  have rf5 := HR2.out.frozen 5
  have rf6 := HR2.out.frozen 6
  go_wp2
  refine bodyPost_ret (v := .agg #[.int .i64 s, .int .i64 k, .int .i64 f, .int .i64 t, .int .i64 m, .int .i64 u, .int .i64 x]) (by simp [results, Tryd.results12, go_sem, r0, r1, r2, r3, r4, r5, r6]) rfl ?_
  refine ⟨_, _, _, _, _, _, _, rfl, ?_⟩
  repeat (first | with_reducible exact HK2.out | with_reducible refine Keeps.setCell ?_ (.inl (Nat.le_refl _)) _)

set_option maxRecDepth 100000 in
set_option maxHeartbeats 2000000 in
theorem drawPkOk_any (A : Option Addr) (n c : Nat) (zs : List Int) (w : World) (h : Bytes w A n zs) (hc : n ≤ c) (hcm : c ≤ maxLen) :
    Calls Tryd.prog 19 #[.slice A n c] w (RetDP w) := by
  have H := Lib.hid h
  clear h
  go_enter Tryd.func19, Tryd.ntmps19
  go_wp2_with fail
  refine (l6Open_any A n _ zs _ (H.out.keeps ((Keeps.refl noBlk w).alloc _) fun _ _ x => x) hc hcm).mono ?_
  rintro e w1 ⟨g, rfl, hg, hrd, hk1⟩
  simp at hg
  have hgw : w.heap.size < g := by omega
  clear hg
  have HR := Lib.hid ((Box.new w _ rfl 24 #[.int .i64 0, .int .i64 0, .int .i64 0, .int .i64 0, .int .i64 0, .int .i64 0, .int .i64 0]).keeps hk1 fun x => x)
  have HK1 := Lib.hid (((Keeps.refl noBlk w).alloc (.cells #[.int .i64 0, .int .i64 0, .int .i64 0, .int .i64 0, .int .i64 0, .int .i64 0, .int .i64 0] 24)).trans hk1)
  have HRD := Lib.hid hrd
  clear hrd hk1
  go_wp2_with fail
  refine (l71Packet_any g 0 _ HRD.out (by omega)).mono ?_
  rintro e w2 ⟨s, k, f, t, m, u, x, rfl, hrd, hk2⟩
  have HR2 := Lib.hid (HR.out.keeps hk2 (fun h => by have h' : w.heap.size = g := h; omega))
  have HK2 := Lib.hid (HK1.out.then hk2 (fun i hi h => by have h' : i = g := h; omega))
  have HRD2 := Lib.hid hrd
  have hg2 := hrd.lt
  clear hrd hk2
  go_wp2_with fail
  refine (pick_any g (0 + 20) 5 _ (HRD2.out.alloc (.cells #[.int .i64 s, .int .i64 k, .int .i64 f, .int .i64 t, .int .i64 m, .int .i64 u, .int .i64 x] 24)) (by omega) (by omega) (by omega)).mono ?_
  rintro e w3 ⟨q0, rfl, qa0, qb0, hrd, hk3⟩
  have HR3 := Lib.hid ((HR2.out.alloc _).keeps hk3 (fun h => by have h' : w.heap.size = g := h; omega))
  have HP3 := Lib.hid ((Box.new w2 _ rfl 24 #[.int .i64 s, .int .i64 k, .int .i64 f, .int .i64 t, .int .i64 m, .int .i64 u, .int .i64 x]).keeps hk3 (fun h => by have h' : w2.heap.size = g := h; omega))
  have HK3 := Lib.hid ((HK2.out.alloc _).then hk3 (fun i hi h => by have h' : i = g := h; omega))
  have HRD3 := Lib.hid hrd
  have s2 := HK2.out.size
  clear hrd hk3
  by_cases hq : q0 = 0
  · have d0 : (q0 == 0) = true := by simp; exact hq
    clear hq
    go_wp2_with fail
    refine (pick_any g (0 + 20 + 1) 4 _ HRD3.out (by omega) (by omega) (by omega)).mono ?_
    rintro e w4 ⟨q1, rfl, qa1, qb1, hrd, hk4⟩
    have HR4 := Lib.hid (HR3.out.keeps hk4 (fun h => by have h' : w.heap.size = g := h; omega))
    have HP4 := Lib.hid (HP3.out.keeps hk4 (fun h => by have h' : w2.heap.size = g := h; omega))
    have HK4 := Lib.hid (HK3.out.then hk4 (fun i hi h => by have h' : i = g := h; omega))
    clear hrd hk4
    have r0 := HR4.out.cell 0
    have r1 := HR4.out.cell 1
    have r2 := HR4.out.cell 2
    have r3 := HR4.out.cell 3
    have r4 := HR4.out.cell 4
    have r5 := HR4.out.cell 5
    have r6 := HR4.out.cell 6
    simp at r0 r1 r2 r3 r4 r5 r6
    have rf0 := HR4.out.frozen 0
    have rf1 := HR4.out.frozen 1
    have rf2 := HR4.out.frozen 2
    have rf3 := HR4.out.frozen 3
    have rf4 := HR4.out.frozen 4
    have rf5 := HR4.out.frozen 5
    have rf6 := HR4.out.frozen 6
    have c0 := HP4.out.cell 0
    have c1 := HP4.out.cell 1
    have c2 := HP4.out.cell 2
    have c3 := HP4.out.cell 3
    have c4 := HP4.out.cell 4
    have c5 := HP4.out.cell 5
    have c6 := HP4.out.cell 6
    simp at c0 c1 c2 c3 c4 c5 c6
    have cf0 := HP4.out.frozen 0
    have cf1 := HP4.out.frozen 1
    have cf2 := HP4.out.frozen 2
    have cf3 := HP4.out.frozen 3
    have cf4 := HP4.out.frozen 4
    have cf5 := HP4.out.frozen 5
    have cf6 := HP4.out.frozen 6
    have zz : w.heap.size < w2.heap.size := by omega
    go_wp2
    refine bodyPost_ret (v := .agg #[.int .i64 s, .int .i64 q1, .int .i64 f, .int .i64 t, .int .i64 m, .int .i64 u, .int .i64 x]) (by simp [results, Tryd.results19, go_sem, r0, r1, r2, r3, r4, r5, r6]) rfl ?_
    refine ⟨_, _, _, _, _, _, _, rfl, ?_⟩
    repeat (first | with_reducible exact HK4.out | with_reducible refine Keeps.setCell ?_ (.inl (by dsimp only; omega)) _)
  · have d0 : (q0 == 0) = false := by simp; exact hq
    clear hq
    have r0 := HR3.out.cell 0
    have r1 := HR3.out.cell 1
    have r2 := HR3.out.cell 2
    have r3 := HR3.out.cell 3
    have r4 := HR3.out.cell 4
    have r5 := HR3.out.cell 5
    have r6 := HR3.out.cell 6
    simp at r0 r1 r2 r3 r4 r5 r6
    have rf0 := HR3.out.frozen 0
    have rf1 := HR3.out.frozen 1
    have rf2 := HR3.out.frozen 2
    have rf3 := HR3.out.frozen 3
    have rf4 := HR3.out.frozen 4
    have rf5 := HR3.out.frozen 5
    have rf6 := HR3.out.frozen 6
    have c0 := HP3.out.cell 0
    have c1 := HP3.out.cell 1
    have c2 := HP3.out.cell 2
    have c3 := HP3.out.cell 3
    have c4 := HP3.out.cell 4
    have c5 := HP3.out.cell 5
    have c6 := HP3.out.cell 6
    simp at c0 c1 c2 c3 c4 c5 c6
    have zz : w.heap.size < w2.heap.size := by omega
    go_wp2
    refine bodyPost_ret (v := .agg #[.int .i64 s, .int .i64 k, .int .i64 f, .int .i64 t, .int .i64 m, .int .i64 u, .int .i64 x]) (by simp [results, Tryd.results19, go_sem, r0, r1, r2, r3, r4, r5, r6]) rfl ?_
    refine ⟨_, _, _, _, _, _, _, rfl, ?_⟩
    repeat (first | with_reducible exact HK3.out | with_reducible refine Keeps.setCell ?_ (.inl (by dsimp only; omega)) _)
end Go.Proofs.YtjbllfnfnkghgaaDoor
