/- The draws of packets: l71Packet, DrawPacketOk, DrawPacketText hand back some packet; only new memory turns. -/
import Derived.Test.YtjbllfnfnkghgaaDoorPick
import Derived.Test.YtjbllfnfnkghgaaDoorPk0
set_option linter.unusedVariables false
set_option linter.unusedSimpArgs false
namespace Go.Proofs.YtjbllfnfnkghgaaDoor
open Go.RowKit

def above (g b : Nat) : Prop := g < b
theorem Keeps.up {g : Nat} {a w : World} (h : Keeps (above g) a w) {b o : Nat} (hb : g < b) (u : Value) : Keeps (above g) a (w.setCell ⟨b, o, none⟩ u) := h.setCell (p := ⟨b, o, none⟩) (.inr hb) u
theorem Rd.up {w w' : World} {g : Nat} {lim : Int} (h : Rd w g lim) (hk : Keeps (above g) w w') : Rd w' g lim := h.keeps hk fun b hb hS => Nat.lt_irrefl _ (Nat.lt_of_lt_of_le hS hb)
def RetPkt (w : World) (g : Nat) (lim : Int) (e : Ending) (w' : World) : Prop :=
  ∃ s k f t m u x : Int, e = .returned (.agg #[.int .i64 s, .int .i64 k, .int .i64 f, .int .i64 t, .int .i64 m, .int .i64 u, .int .i64 x]) ∧ Rd w' g (lim + 20) ∧ Keeps (one g) w w'

set_option maxRecDepth 100000 in
set_option maxHeartbeats 4000000 in
theorem l71Packet_any (g : Nat) (lim : Int) (w : World) (hr : Rd w g lim) (hl : lim ≤ 1000000) :
    Calls Tryd.prog 23 #[.pointer (some ⟨g, 0, none⟩)] w (RetPkt w g lim) := by
  have hgw := hr.lt
  have HRD0 := Lib.hid (hr.alloc (.cells #[.int .i64 0, .int .i64 0, .int .i64 0, .int .i64 0, .int .i64 0, .int .i64 0, .int .i64 0] 24))
  have HR0 := Lib.hid (Box.new w _ rfl 24 #[.int .i64 0, .int .i64 0, .int .i64 0, .int .i64 0, .int .i64 0, .int .i64 0, .int .i64 0])
  have HK0 := Lib.hid ((Keeps.refl (one g) w).alloc (.cells #[.int .i64 0, .int .i64 0, .int .i64 0, .int .i64 0, .int .i64 0, .int .i64 0, .int .i64 0] 24))
  clear hr
  go_enter Tryd.func23, Tryd.ntmps23
  go_wp2_with fail
  refine (pick_any g (lim) 4 _ HRD0.out (by omega) (by omega) (by omega)).mono ?_
  rintro e w1 ⟨p0, rfl, a0, b0, hrd, hk⟩
  have HRD1 := Lib.hid hrd
  have HR1 := Lib.hid (HR0.out.keeps hk (fun h => by have h' : w.heap.size = g := h; omega))
  have HK1 := Lib.hid (HK0.out.trans hk)
  have z1 := HR1.out.lt
  clear hrd hk HRD0 HR0 HK0
  go_wp2_with fail
  refine (pick_any g (lim + 1) 2 _ HRD1.out (by omega) (by omega) (by omega)).mono ?_
  rintro e w2 ⟨p1, rfl, a1, b1, hrd, hk⟩
  have HRD2 := Lib.hid hrd
  have HR2 := Lib.hid (HR1.out.keeps hk (fun h => by have h' : w.heap.size = g := h; omega))
  have HK2 := Lib.hid (HK1.out.trans hk)
  have z2 := HR2.out.lt
  clear hrd hk HRD1 HR1 HK1 z1
  go_wp2_with fail
  refine (pick_any g (lim + 1 + 1) 3 _ HRD2.out (by omega) (by omega) (by omega)).mono ?_
  rintro e w3 ⟨p2, rfl, a2, b2, hrd, hk⟩
  have HRD3 := Lib.hid hrd
  have HR3 := Lib.hid (HR2.out.keeps hk (fun h => by have h' : w.heap.size = g := h; omega))
  have HK3 := Lib.hid (HK2.out.trans hk)
  have z3 := HR3.out.lt
  clear hrd hk HRD2 HR2 HK2 z2
  go_wp2_with fail
  refine (pick_any g (lim + 1 + 1 + 1) 3 _ HRD3.out (by omega) (by omega) (by omega)).mono ?_
  rintro e w4 ⟨p3, rfl, a3, b3, hrd, hk⟩
  have HRD4 := Lib.hid hrd
  have HR4 := Lib.hid (HR3.out.keeps hk (fun h => by have h' : w.heap.size = g := h; omega))
  have HK4 := Lib.hid (HK3.out.trans hk)
  have z4 := HR4.out.lt
  clear hrd hk HRD3 HR3 HK3 z3
  go_wp2_with fail
  refine (pick_any g (lim + 1 + 1 + 1 + 1) 9 _ HRD4.out (by omega) (by omega) (by omega)).mono ?_
  rintro e w5 ⟨p4, rfl, a4, b4, hrd, hk⟩
  have HRD5 := Lib.hid hrd
  have HR5 := Lib.hid (HR4.out.keeps hk (fun h => by have h' : w.heap.size = g := h; omega))
  have HK5 := Lib.hid (HK4.out.trans hk)
  have z5 := HR5.out.lt
  clear hrd hk HRD4 HR4 HK4 z4
  go_wp2_with fail
  refine (pick_any g (lim + 1 + 1 + 1 + 1 + 1) 40 _ HRD5.out (by omega) (by omega) (by omega)).mono ?_
  rintro e w6 ⟨p5, rfl, a5, b5, hrd, hk⟩
  have HRD6 := Lib.hid hrd
  have HR6 := Lib.hid (HR5.out.keeps hk (fun h => by have h' : w.heap.size = g := h; omega))
  have HK6 := Lib.hid (HK5.out.trans hk)
  have z6 := HR6.out.lt
  clear hrd hk HRD5 HR5 HK5 z5
  go_wp2_with fail
  refine (pick_any g (lim + 1 + 1 + 1 + 1 + 1 + 1) 2 _ HRD6.out (by omega) (by omega) (by omega)).mono ?_
  rintro e w7 ⟨p6, rfl, a6, b6, hrd, hk⟩
  have HRD7 := Lib.hid hrd
  have HR7 := Lib.hid (HR6.out.keeps hk (fun h => by have h' : w.heap.size = g := h; omega))
  have HK7 := Lib.hid (HK6.out.trans hk)
  have z7 := HR7.out.lt
  clear hrd hk HRD6 HR6 HK6 z6
  go_wp2_with fail
  refine (pick_any g (lim + 1 + 1 + 1 + 1 + 1 + 1 + 1) 20 _ (HRD7.out.alloc (.cells #[.int .i64 (1 + p0), .int .i64 (1 + p1), .int .i64 (1 + p2), .int .i64 (1 + p3), .int .i64 (1 + p4), .int .i64 (1 + p5), .int .i64 (1 + p6)] 24)) (by omega) (by omega) (by omega)).mono ?_
  rintro e w8 ⟨p7, rfl, a7, b7, hrd, hk⟩
  have hP := (Box.new w7 _ rfl 24 #[.int .i64 (1 + p0), .int .i64 (1 + p1), .int .i64 (1 + p2), .int .i64 (1 + p3), .int .i64 (1 + p4), .int .i64 (1 + p5), .int .i64 (1 + p6)]).keeps hk (fun h => by have h' : w7.heap.size = g := h; omega)
  have hR := (HR7.out.alloc _).keeps hk (fun h => by have h' : w.heap.size = g := h; omega)
  have hK := (HK7.out.alloc _).trans hk
  have z8 := hk.size
  simp at z8
  have HRD8 := Lib.hid hrd
  have HP := Lib.hid hP
  have HR := Lib.hid hR
  have HK := Lib.hid hK
  clear hrd hk hK hP hR HRD7 HR7 HK7
  have zr : w.heap.size < w8.heap.size := HR.out.lt
  have zp : w7.heap.size < w8.heap.size := HP.out.lt
  obtain hc | hc | hc | hc | hc | hc : p7 = 0 ∨ p7 = 1 ∨ p7 = 2 ∨ p7 = 3 ∨ p7 = 4 ∨ 5 ≤ p7 := by omega
  · have hcc := hc
    have d0 : (p7 == 0) = true := by simp; omega
    clear hc hcc
    go_wp2_with fail
    refine (pick_any g (lim + 1 + 1 + 1 + 1 + 1 + 1 + 1 + 1) 10 _ HRD8.out (by omega) (by omega) (by omega)).mono ?_
    rintro e w9 ⟨q0, rfl, qa0, qb0, hrd, hk⟩
    have HRDx0 := Lib.hid hrd
    have HPx0 := Lib.hid (HP.out.keeps hk (fun h => by have h' : w7.heap.size = g := h; omega))
    have HRx0 := Lib.hid (HR.out.keeps hk (fun h => by have h' : w.heap.size = g := h; omega))
    have HKx0 := Lib.hid (HK.out.trans hk)
    have zz0 := hk.size
    clear hrd hk HRD8 HP HR HK
    have c0 := HPx0.out.cell 0
    have c1 := HPx0.out.cell 1
    have c2 := HPx0.out.cell 2
    have c3 := HPx0.out.cell 3
    have c4 := HPx0.out.cell 4
    have c5 := HPx0.out.cell 5
    have c6 := HPx0.out.cell 6
    simp at c0 c1 c2 c3 c4 c5 c6
    have cf0 := HPx0.out.frozen 0
    have cf1 := HPx0.out.frozen 1
    have cf2 := HPx0.out.frozen 2
    have cf3 := HPx0.out.frozen 3
    have cf4 := HPx0.out.frozen 4
    have cf5 := HPx0.out.frozen 5
    have cf6 := HPx0.out.frozen 6
    have r0 := HRx0.out.cell 0
    have r1 := HRx0.out.cell 1
    have r2 := HRx0.out.cell 2
    have r3 := HRx0.out.cell 3
    have r4 := HRx0.out.cell 4
    have r5 := HRx0.out.cell 5
    have r6 := HRx0.out.cell 6
    simp at r0 r1 r2 r3 r4 r5 r6
    have rf0 := HRx0.out.frozen 0
    have rf1 := HRx0.out.frozen 1
    have rf2 := HRx0.out.frozen 2
    have rf3 := HRx0.out.frozen 3
    have rf4 := HRx0.out.frozen 4
    have rf5 := HRx0.out.frozen 5
    have rf6 := HRx0.out.frozen 6
    have hS : Keeps (above g) w9 ((((((((w9.setCell ⟨w7.heap.size, 0, none⟩ (.int .i64 (q0))).setCell ⟨w.heap.size, 0, none⟩ (.int .i64 (q0))).setCell ⟨w.heap.size, 1, none⟩ (.int .i64 (1 + p1))).setCell ⟨w.heap.size, 2, none⟩ (.int .i64 (1 + p2))).setCell ⟨w.heap.size, 3, none⟩ (.int .i64 (1 + p3))).setCell ⟨w.heap.size, 4, none⟩ (.int .i64 (1 + p4))).setCell ⟨w.heap.size, 5, none⟩ (.int .i64 (1 + p5))).setCell ⟨w.heap.size, 6, none⟩ (.int .i64 (1 + p6))) := by
      repeat (first | with_reducible exact Keeps.refl _ _ | with_reducible refine Keeps.up ?_ (by omega) _)
    have hKf : Keeps (one g) w ((((((((w9.setCell ⟨w7.heap.size, 0, none⟩ (.int .i64 (q0))).setCell ⟨w.heap.size, 0, none⟩ (.int .i64 (q0))).setCell ⟨w.heap.size, 1, none⟩ (.int .i64 (1 + p1))).setCell ⟨w.heap.size, 2, none⟩ (.int .i64 (1 + p2))).setCell ⟨w.heap.size, 3, none⟩ (.int .i64 (1 + p3))).setCell ⟨w.heap.size, 4, none⟩ (.int .i64 (1 + p4))).setCell ⟨w.heap.size, 5, none⟩ (.int .i64 (1 + p5))).setCell ⟨w.heap.size, 6, none⟩ (.int .i64 (1 + p6))) := by
      repeat (first | with_reducible exact HKx0.out | with_reducible refine Keeps.setCell ?_ (.inl (by dsimp only; omega)) _)
    have hRf := (HRDx0.out.up hS).more (lim' := lim + 20) (by omega)
    have HS := Lib.hid hKf
    have HT := Lib.hid hRf
    clear hS hKf hRf
    go_wp2
    refine bodyPost_ret (v := .agg #[.int .i64 (q0), .int .i64 (1 + p1), .int .i64 (1 + p2), .int .i64 (1 + p3), .int .i64 (1 + p4), .int .i64 (1 + p5), .int .i64 (1 + p6)]) (by simp [results, Tryd.results23, go_sem, r0, r1, r2, r3, r4, r5, r6]) rfl ?_
    exact ⟨_, _, _, _, _, _, _, rfl, HT.out, HS.out⟩
  · have hcc := hc
    have d0 : (p7 == 0) = false := by simp; omega
    have d1 : (p7 == 1) = true := by simp; omega
    clear hc hcc
    go_wp2_with fail
    refine (pick_any g (lim + 1 + 1 + 1 + 1 + 1 + 1 + 1 + 1) 5 _ HRD8.out (by omega) (by omega) (by omega)).mono ?_
    rintro e w9 ⟨q0, rfl, qa0, qb0, hrd, hk⟩
    have HRDx0 := Lib.hid hrd
    have HPx0 := Lib.hid (HP.out.keeps hk (fun h => by have h' : w7.heap.size = g := h; omega))
    have HRx0 := Lib.hid (HR.out.keeps hk (fun h => by have h' : w.heap.size = g := h; omega))
    have HKx0 := Lib.hid (HK.out.trans hk)
    have zz0 := hk.size
    clear hrd hk HRD8 HP HR HK
    go_wp2_with fail
    refine (pick_any g (lim + 1 + 1 + 1 + 1 + 1 + 1 + 1 + 1 + 1) 2 _ HRDx0.out (by omega) (by omega) (by omega)).mono ?_
    rintro e w10 ⟨q1, rfl, qa1, qb1, hrd, hk⟩
    have HRDx1 := Lib.hid hrd
    have HPx1 := Lib.hid (HPx0.out.keeps hk (fun h => by have h' : w7.heap.size = g := h; omega))
    have HRx1 := Lib.hid (HRx0.out.keeps hk (fun h => by have h' : w.heap.size = g := h; omega))
    have HKx1 := Lib.hid (HKx0.out.trans hk)
    have zz1 := hk.size
    clear hrd hk HRDx0 HPx0 HRx0 HKx0
    have c0 := HPx1.out.cell 0
    have c1 := HPx1.out.cell 1
    have c2 := HPx1.out.cell 2
    have c3 := HPx1.out.cell 3
    have c4 := HPx1.out.cell 4
    have c5 := HPx1.out.cell 5
    have c6 := HPx1.out.cell 6
    simp at c0 c1 c2 c3 c4 c5 c6
    have cf0 := HPx1.out.frozen 0
    have cf1 := HPx1.out.frozen 1
    have cf2 := HPx1.out.frozen 2
    have cf3 := HPx1.out.frozen 3
    have cf4 := HPx1.out.frozen 4
    have cf5 := HPx1.out.frozen 5
    have cf6 := HPx1.out.frozen 6
    have r0 := HRx1.out.cell 0
    have r1 := HRx1.out.cell 1
    have r2 := HRx1.out.cell 2
    have r3 := HRx1.out.cell 3
    have r4 := HRx1.out.cell 4
    have r5 := HRx1.out.cell 5
    have r6 := HRx1.out.cell 6
    simp at r0 r1 r2 r3 r4 r5 r6
    have rf0 := HRx1.out.frozen 0
    have rf1 := HRx1.out.frozen 1
    have rf2 := HRx1.out.frozen 2
    have rf3 := HRx1.out.frozen 3
    have rf4 := HRx1.out.frozen 4
    have rf5 := HRx1.out.frozen 5
    have rf6 := HRx1.out.frozen 6
    have hS : Keeps (above g) w10 ((((((((w10.setCell ⟨w7.heap.size, 3, none⟩ (.int .i64 (q0 - q1))).setCell ⟨w.heap.size, 0, none⟩ (.int .i64 (1 + p0))).setCell ⟨w.heap.size, 1, none⟩ (.int .i64 (1 + p1))).setCell ⟨w.heap.size, 2, none⟩ (.int .i64 (1 + p2))).setCell ⟨w.heap.size, 3, none⟩ (.int .i64 (q0 - q1))).setCell ⟨w.heap.size, 4, none⟩ (.int .i64 (1 + p4))).setCell ⟨w.heap.size, 5, none⟩ (.int .i64 (1 + p5))).setCell ⟨w.heap.size, 6, none⟩ (.int .i64 (1 + p6))) := by
      repeat (first | with_reducible exact Keeps.refl _ _ | with_reducible refine Keeps.up ?_ (by omega) _)
    have hKf : Keeps (one g) w ((((((((w10.setCell ⟨w7.heap.size, 3, none⟩ (.int .i64 (q0 - q1))).setCell ⟨w.heap.size, 0, none⟩ (.int .i64 (1 + p0))).setCell ⟨w.heap.size, 1, none⟩ (.int .i64 (1 + p1))).setCell ⟨w.heap.size, 2, none⟩ (.int .i64 (1 + p2))).setCell ⟨w.heap.size, 3, none⟩ (.int .i64 (q0 - q1))).setCell ⟨w.heap.size, 4, none⟩ (.int .i64 (1 + p4))).setCell ⟨w.heap.size, 5, none⟩ (.int .i64 (1 + p5))).setCell ⟨w.heap.size, 6, none⟩ (.int .i64 (1 + p6))) := by
      repeat (first | with_reducible exact HKx1.out | with_reducible refine Keeps.setCell ?_ (.inl (by dsimp only; omega)) _)
    have hRf := (HRDx1.out.up hS).more (lim' := lim + 20) (by omega)
    have HS := Lib.hid hKf
    have HT := Lib.hid hRf
    clear hS hKf hRf
    go_wp2
    refine bodyPost_ret (v := .agg #[.int .i64 (1 + p0), .int .i64 (1 + p1), .int .i64 (1 + p2), .int .i64 (q0 - q1), .int .i64 (1 + p4), .int .i64 (1 + p5), .int .i64 (1 + p6)]) (by simp [results, Tryd.results23, go_sem, r0, r1, r2, r3, r4, r5, r6]) rfl ?_
    exact ⟨_, _, _, _, _, _, _, rfl, HT.out, HS.out⟩
  · have hcc := hc
    have d0 : (p7 == 0) = false := by simp; omega
    have d1 : (p7 == 1) = false := by simp; omega
    have d2 : (p7 == 2) = true := by simp; omega
    clear hc hcc
    go_wp2_with fail
    refine (pick_any g (lim + 1 + 1 + 1 + 1 + 1 + 1 + 1 + 1) 12 _ HRD8.out (by omega) (by omega) (by omega)).mono ?_
    rintro e w9 ⟨q0, rfl, qa0, qb0, hrd, hk⟩
    have HRDx0 := Lib.hid hrd
    have HPx0 := Lib.hid (HP.out.keeps hk (fun h => by have h' : w7.heap.size = g := h; omega))
    have HRx0 := Lib.hid (HR.out.keeps hk (fun h => by have h' : w.heap.size = g := h; omega))
    have HKx0 := Lib.hid (HK.out.trans hk)
    have zz0 := hk.size
    clear hrd hk HRD8 HP HR HK
    have c0 := HPx0.out.cell 0
    have c1 := HPx0.out.cell 1
    have c2 := HPx0.out.cell 2
    have c3 := HPx0.out.cell 3
    have c4 := HPx0.out.cell 4
    have c5 := HPx0.out.cell 5
    have c6 := HPx0.out.cell 6
    simp at c0 c1 c2 c3 c4 c5 c6
    have cf0 := HPx0.out.frozen 0
    have cf1 := HPx0.out.frozen 1
    have cf2 := HPx0.out.frozen 2
    have cf3 := HPx0.out.frozen 3
    have cf4 := HPx0.out.frozen 4
    have cf5 := HPx0.out.frozen 5
    have cf6 := HPx0.out.frozen 6
    have r0 := HRx0.out.cell 0
    have r1 := HRx0.out.cell 1
    have r2 := HRx0.out.cell 2
    have r3 := HRx0.out.cell 3
    have r4 := HRx0.out.cell 4
    have r5 := HRx0.out.cell 5
    have r6 := HRx0.out.cell 6
    simp at r0 r1 r2 r3 r4 r5 r6
    have rf0 := HRx0.out.frozen 0
    have rf1 := HRx0.out.frozen 1
    have rf2 := HRx0.out.frozen 2
    have rf3 := HRx0.out.frozen 3
    have rf4 := HRx0.out.frozen 4
    have rf5 := HRx0.out.frozen 5
    have rf6 := HRx0.out.frozen 6
    have hS : Keeps (above g) w9 ((((((((w9.setCell ⟨w7.heap.size, 4, none⟩ (.int .i64 (q0 - 1))).setCell ⟨w.heap.size, 0, none⟩ (.int .i64 (1 + p0))).setCell ⟨w.heap.size, 1, none⟩ (.int .i64 (1 + p1))).setCell ⟨w.heap.size, 2, none⟩ (.int .i64 (1 + p2))).setCell ⟨w.heap.size, 3, none⟩ (.int .i64 (1 + p3))).setCell ⟨w.heap.size, 4, none⟩ (.int .i64 (q0 - 1))).setCell ⟨w.heap.size, 5, none⟩ (.int .i64 (1 + p5))).setCell ⟨w.heap.size, 6, none⟩ (.int .i64 (1 + p6))) := by
      repeat (first | with_reducible exact Keeps.refl _ _ | with_reducible refine Keeps.up ?_ (by omega) _)
    have hKf : Keeps (one g) w ((((((((w9.setCell ⟨w7.heap.size, 4, none⟩ (.int .i64 (q0 - 1))).setCell ⟨w.heap.size, 0, none⟩ (.int .i64 (1 + p0))).setCell ⟨w.heap.size, 1, none⟩ (.int .i64 (1 + p1))).setCell ⟨w.heap.size, 2, none⟩ (.int .i64 (1 + p2))).setCell ⟨w.heap.size, 3, none⟩ (.int .i64 (1 + p3))).setCell ⟨w.heap.size, 4, none⟩ (.int .i64 (q0 - 1))).setCell ⟨w.heap.size, 5, none⟩ (.int .i64 (1 + p5))).setCell ⟨w.heap.size, 6, none⟩ (.int .i64 (1 + p6))) := by
      repeat (first | with_reducible exact HKx0.out | with_reducible refine Keeps.setCell ?_ (.inl (by dsimp only; omega)) _)
    have hRf := (HRDx0.out.up hS).more (lim' := lim + 20) (by omega)
    have HS := Lib.hid hKf
    have HT := Lib.hid hRf
    clear hS hKf hRf
    go_wp2
    refine bodyPost_ret (v := .agg #[.int .i64 (1 + p0), .int .i64 (1 + p1), .int .i64 (1 + p2), .int .i64 (1 + p3), .int .i64 (q0 - 1), .int .i64 (1 + p5), .int .i64 (1 + p6)]) (by simp [results, Tryd.results23, go_sem, r0, r1, r2, r3, r4, r5, r6]) rfl ?_
    exact ⟨_, _, _, _, _, _, _, rfl, HT.out, HS.out⟩
  · have hcc := hc
    have d0 : (p7 == 0) = false := by simp; omega
    have d1 : (p7 == 1) = false := by simp; omega
    have d2 : (p7 == 2) = false := by simp; omega
    have d3 : (p7 == 3) = true := by simp; omega
    clear hc hcc
    go_wp2_with fail
    refine (pick_any g (lim + 1 + 1 + 1 + 1 + 1 + 1 + 1 + 1) 100 _ HRD8.out (by omega) (by omega) (by omega)).mono ?_
    rintro e w9 ⟨q0, rfl, qa0, qb0, hrd, hk⟩
    have HRDx0 := Lib.hid hrd
    have HPx0 := Lib.hid (HP.out.keeps hk (fun h => by have h' : w7.heap.size = g := h; omega))
    have HRx0 := Lib.hid (HR.out.keeps hk (fun h => by have h' : w.heap.size = g := h; omega))
    have HKx0 := Lib.hid (HK.out.trans hk)
    have zz0 := hk.size
    clear hrd hk HRD8 HP HR HK
    have c0 := HPx0.out.cell 0
    have c1 := HPx0.out.cell 1
    have c2 := HPx0.out.cell 2
    have c3 := HPx0.out.cell 3
    have c4 := HPx0.out.cell 4
    have c5 := HPx0.out.cell 5
    have c6 := HPx0.out.cell 6
    simp at c0 c1 c2 c3 c4 c5 c6
    have cf0 := HPx0.out.frozen 0
    have cf1 := HPx0.out.frozen 1
    have cf2 := HPx0.out.frozen 2
    have cf3 := HPx0.out.frozen 3
    have cf4 := HPx0.out.frozen 4
    have cf5 := HPx0.out.frozen 5
    have cf6 := HPx0.out.frozen 6
    have r0 := HRx0.out.cell 0
    have r1 := HRx0.out.cell 1
    have r2 := HRx0.out.cell 2
    have r3 := HRx0.out.cell 3
    have r4 := HRx0.out.cell 4
    have r5 := HRx0.out.cell 5
    have r6 := HRx0.out.cell 6
    simp at r0 r1 r2 r3 r4 r5 r6
    have rf0 := HRx0.out.frozen 0
    have rf1 := HRx0.out.frozen 1
    have rf2 := HRx0.out.frozen 2
    have rf3 := HRx0.out.frozen 3
    have rf4 := HRx0.out.frozen 4
    have rf5 := HRx0.out.frozen 5
    have rf6 := HRx0.out.frozen 6
    have hS : Keeps (above g) w9 ((((((((w9.setCell ⟨w7.heap.size, 5, none⟩ (.int .i64 (q0))).setCell ⟨w.heap.size, 0, none⟩ (.int .i64 (1 + p0))).setCell ⟨w.heap.size, 1, none⟩ (.int .i64 (1 + p1))).setCell ⟨w.heap.size, 2, none⟩ (.int .i64 (1 + p2))).setCell ⟨w.heap.size, 3, none⟩ (.int .i64 (1 + p3))).setCell ⟨w.heap.size, 4, none⟩ (.int .i64 (1 + p4))).setCell ⟨w.heap.size, 5, none⟩ (.int .i64 (q0))).setCell ⟨w.heap.size, 6, none⟩ (.int .i64 (1 + p6))) := by
      repeat (first | with_reducible exact Keeps.refl _ _ | with_reducible refine Keeps.up ?_ (by omega) _)
    have hKf : Keeps (one g) w ((((((((w9.setCell ⟨w7.heap.size, 5, none⟩ (.int .i64 (q0))).setCell ⟨w.heap.size, 0, none⟩ (.int .i64 (1 + p0))).setCell ⟨w.heap.size, 1, none⟩ (.int .i64 (1 + p1))).setCell ⟨w.heap.size, 2, none⟩ (.int .i64 (1 + p2))).setCell ⟨w.heap.size, 3, none⟩ (.int .i64 (1 + p3))).setCell ⟨w.heap.size, 4, none⟩ (.int .i64 (1 + p4))).setCell ⟨w.heap.size, 5, none⟩ (.int .i64 (q0))).setCell ⟨w.heap.size, 6, none⟩ (.int .i64 (1 + p6))) := by
      repeat (first | with_reducible exact HKx0.out | with_reducible refine Keeps.setCell ?_ (.inl (by dsimp only; omega)) _)
    have hRf := (HRDx0.out.up hS).more (lim' := lim + 20) (by omega)
    have HS := Lib.hid hKf
    have HT := Lib.hid hRf
    clear hS hKf hRf
    go_wp2
    refine bodyPost_ret (v := .agg #[.int .i64 (1 + p0), .int .i64 (1 + p1), .int .i64 (1 + p2), .int .i64 (1 + p3), .int .i64 (1 + p4), .int .i64 (q0), .int .i64 (1 + p6)]) (by simp [results, Tryd.results23, go_sem, r0, r1, r2, r3, r4, r5, r6]) rfl ?_
    exact ⟨_, _, _, _, _, _, _, rfl, HT.out, HS.out⟩
  · have hcc := hc
    have d0 : (p7 == 0) = false := by simp; omega
    have d1 : (p7 == 1) = false := by simp; omega
    have d2 : (p7 == 2) = false := by simp; omega
    have d3 : (p7 == 3) = false := by simp; omega
    have d4 : (p7 == 4) = true := by simp; omega
    clear hc hcc
    go_wp2_with fail
    refine (pick_any g (lim + 1 + 1 + 1 + 1 + 1 + 1 + 1 + 1) 11 _ HRD8.out (by omega) (by omega) (by omega)).mono ?_
    rintro e w9 ⟨q0, rfl, qa0, qb0, hrd, hk⟩
    have HRDx0 := Lib.hid hrd
    have HPx0 := Lib.hid (HP.out.keeps hk (fun h => by have h' : w7.heap.size = g := h; omega))
    have HRx0 := Lib.hid (HR.out.keeps hk (fun h => by have h' : w.heap.size = g := h; omega))
    have HKx0 := Lib.hid (HK.out.trans hk)
    have zz0 := hk.size
    clear hrd hk HRD8 HP HR HK
    have c0 := HPx0.out.cell 0
    have c1 := HPx0.out.cell 1
    have c2 := HPx0.out.cell 2
    have c3 := HPx0.out.cell 3
    have c4 := HPx0.out.cell 4
    have c5 := HPx0.out.cell 5
    have c6 := HPx0.out.cell 6
    simp at c0 c1 c2 c3 c4 c5 c6
    have cf0 := HPx0.out.frozen 0
    have cf1 := HPx0.out.frozen 1
    have cf2 := HPx0.out.frozen 2
    have cf3 := HPx0.out.frozen 3
    have cf4 := HPx0.out.frozen 4
    have cf5 := HPx0.out.frozen 5
    have cf6 := HPx0.out.frozen 6
    have r0 := HRx0.out.cell 0
    have r1 := HRx0.out.cell 1
    have r2 := HRx0.out.cell 2
    have r3 := HRx0.out.cell 3
    have r4 := HRx0.out.cell 4
    have r5 := HRx0.out.cell 5
    have r6 := HRx0.out.cell 6
    simp at r0 r1 r2 r3 r4 r5 r6
    have rf0 := HRx0.out.frozen 0
    have rf1 := HRx0.out.frozen 1
    have rf2 := HRx0.out.frozen 2
    have rf3 := HRx0.out.frozen 3
    have rf4 := HRx0.out.frozen 4
    have rf5 := HRx0.out.frozen 5
    have rf6 := HRx0.out.frozen 6
    have hS : Keeps (above g) w9 ((((((((w9.setCell ⟨w7.heap.size, 6, none⟩ (.int .i64 (q0))).setCell ⟨w.heap.size, 0, none⟩ (.int .i64 (1 + p0))).setCell ⟨w.heap.size, 1, none⟩ (.int .i64 (1 + p1))).setCell ⟨w.heap.size, 2, none⟩ (.int .i64 (1 + p2))).setCell ⟨w.heap.size, 3, none⟩ (.int .i64 (1 + p3))).setCell ⟨w.heap.size, 4, none⟩ (.int .i64 (1 + p4))).setCell ⟨w.heap.size, 5, none⟩ (.int .i64 (1 + p5))).setCell ⟨w.heap.size, 6, none⟩ (.int .i64 (q0))) := by
      repeat (first | with_reducible exact Keeps.refl _ _ | with_reducible refine Keeps.up ?_ (by omega) _)
    have hKf : Keeps (one g) w ((((((((w9.setCell ⟨w7.heap.size, 6, none⟩ (.int .i64 (q0))).setCell ⟨w.heap.size, 0, none⟩ (.int .i64 (1 + p0))).setCell ⟨w.heap.size, 1, none⟩ (.int .i64 (1 + p1))).setCell ⟨w.heap.size, 2, none⟩ (.int .i64 (1 + p2))).setCell ⟨w.heap.size, 3, none⟩ (.int .i64 (1 + p3))).setCell ⟨w.heap.size, 4, none⟩ (.int .i64 (1 + p4))).setCell ⟨w.heap.size, 5, none⟩ (.int .i64 (1 + p5))).setCell ⟨w.heap.size, 6, none⟩ (.int .i64 (q0))) := by
      repeat (first | with_reducible exact HKx0.out | with_reducible refine Keeps.setCell ?_ (.inl (by dsimp only; omega)) _)
    have hRf := (HRDx0.out.up hS).more (lim' := lim + 20) (by omega)
    have HS := Lib.hid hKf
    have HT := Lib.hid hRf
    clear hS hKf hRf
    go_wp2
    refine bodyPost_ret (v := .agg #[.int .i64 (1 + p0), .int .i64 (1 + p1), .int .i64 (1 + p2), .int .i64 (1 + p3), .int .i64 (1 + p4), .int .i64 (1 + p5), .int .i64 (q0)]) (by simp [results, Tryd.results23, go_sem, r0, r1, r2, r3, r4, r5, r6]) rfl ?_
    exact ⟨_, _, _, _, _, _, _, rfl, HT.out, HS.out⟩
  · have hcc := hc
    have d0 : (p7 == 0) = false := by simp; omega
    have d1 : (p7 == 1) = false := by simp; omega
    have d2 : (p7 == 2) = false := by simp; omega
    have d3 : (p7 == 3) = false := by simp; omega
    have d4 : (p7 == 4) = false := by simp; omega
    clear hc hcc
    have c0 := HP.out.cell 0
    have c1 := HP.out.cell 1
    have c2 := HP.out.cell 2
    have c3 := HP.out.cell 3
    have c4 := HP.out.cell 4
    have c5 := HP.out.cell 5
    have c6 := HP.out.cell 6
    simp at c0 c1 c2 c3 c4 c5 c6
    have cf0 := HP.out.frozen 0
    have cf1 := HP.out.frozen 1
    have cf2 := HP.out.frozen 2
    have cf3 := HP.out.frozen 3
    have cf4 := HP.out.frozen 4
    have cf5 := HP.out.frozen 5
    have cf6 := HP.out.frozen 6
    have r0 := HR.out.cell 0
    have r1 := HR.out.cell 1
    have r2 := HR.out.cell 2
    have r3 := HR.out.cell 3
    have r4 := HR.out.cell 4
    have r5 := HR.out.cell 5
    have r6 := HR.out.cell 6
    simp at r0 r1 r2 r3 r4 r5 r6
    have rf0 := HR.out.frozen 0
    have rf1 := HR.out.frozen 1
    have rf2 := HR.out.frozen 2
    have rf3 := HR.out.frozen 3
    have rf4 := HR.out.frozen 4
    have rf5 := HR.out.frozen 5
    have rf6 := HR.out.frozen 6
    have hS : Keeps (above g) w8 (((((((w8.setCell ⟨w.heap.size, 0, none⟩ (.int .i64 (1 + p0))).setCell ⟨w.heap.size, 1, none⟩ (.int .i64 (1 + p1))).setCell ⟨w.heap.size, 2, none⟩ (.int .i64 (1 + p2))).setCell ⟨w.heap.size, 3, none⟩ (.int .i64 (1 + p3))).setCell ⟨w.heap.size, 4, none⟩ (.int .i64 (1 + p4))).setCell ⟨w.heap.size, 5, none⟩ (.int .i64 (1 + p5))).setCell ⟨w.heap.size, 6, none⟩ (.int .i64 (1 + p6))) := by
      repeat (first | with_reducible exact Keeps.refl _ _ | with_reducible refine Keeps.up ?_ (by omega) _)
    have hKf : Keeps (one g) w (((((((w8.setCell ⟨w.heap.size, 0, none⟩ (.int .i64 (1 + p0))).setCell ⟨w.heap.size, 1, none⟩ (.int .i64 (1 + p1))).setCell ⟨w.heap.size, 2, none⟩ (.int .i64 (1 + p2))).setCell ⟨w.heap.size, 3, none⟩ (.int .i64 (1 + p3))).setCell ⟨w.heap.size, 4, none⟩ (.int .i64 (1 + p4))).setCell ⟨w.heap.size, 5, none⟩ (.int .i64 (1 + p5))).setCell ⟨w.heap.size, 6, none⟩ (.int .i64 (1 + p6))) := by
      repeat (first | with_reducible exact HK.out | with_reducible refine Keeps.setCell ?_ (.inl (by dsimp only; omega)) _)
    have hRf := (HRD8.out.up hS).more (lim' := lim + 20) (by omega)
    have HS := Lib.hid hKf
    have HT := Lib.hid hRf
    clear hS hKf hRf
    go_wp2
    refine bodyPost_ret (v := .agg #[.int .i64 (1 + p0), .int .i64 (1 + p1), .int .i64 (1 + p2), .int .i64 (1 + p3), .int .i64 (1 + p4), .int .i64 (1 + p5), .int .i64 (1 + p6)]) (by simp [results, Tryd.results23, go_sem, r0, r1, r2, r3, r4, r5, r6]) rfl ?_
    exact ⟨_, _, _, _, _, _, _, rfl, HT.out, HS.out⟩

def RetDP (w : World) (e : Ending) (w' : World) : Prop :=
  ∃ s k f t m u x : Int, e = .returned (.agg #[.int .i64 s, .int .i64 k, .int .i64 f, .int .i64 t, .int .i64 m, .int .i64 u, .int .i64 x]) ∧ Keeps noBlk w w'
end Go.Proofs.YtjbllfnfnkghgaaDoor
