/- impl.PacketRead: the packet whose text it is, or none. -/
import Derived.Test.YtjbllfnfnkghgaaDoorPkRd
import Derived.Deep.RegionWith
import Derived.Deep.DrawnRows
set_option linter.unusedVariables false
set_option linter.unusedSimpArgs false
namespace Go.Proofs.YtjbllfnfnkghgaaDoor
open Go.RowKit
attribute [local go_sem ↓] Go.wp_at_zero Go.wp_at_succ

def RetPR (w : World) (l : List UInt8) (e : Ending) (w' : World) : Prop :=
  ((∀ s k f t m u v, ¬ Reads l s k f t m u v) ∧ e = .returned (.tuple #[.agg #[.int .i64 0, .int .i64 0, .int .i64 0, .int .i64 0, .int .i64 0, .int .i64 0, .int .i64 0], .bool false]) ∧ Keeps noBlk w w') ∨ ∃ s k f t m u v, Reads l s k f t m u v ∧ e = .returned (.tuple #[.agg #[.int .i64 s, .int .i64 k, .int .i64 f, .int .i64 t, .int .i64 m, .int .i64 u, .int .i64 v], .bool true]) ∧ Keeps noBlk w w'

set_option maxRecDepth 100000 in
set_option maxHeartbeats 4000000 in
theorem implRead_any (l : List UInt8) (aE : Addr) (w : World) (hL : Libs w aE) : Calls Tryd.prog 15 #[.string ⟨l.toArray⟩] w (RetPR w l) := by
  have HP := Lib.hid (rp_any l aE _ (hL.keeps ((Keeps.refl noBlk w).alloc (.cells #[.int .i64 0, .int .i64 0, .int .i64 0, .int .i64 0, .int .i64 0, .int .i64 0, .int .i64 0] 24))))
  have HL := Lib.hid hL
  have n0 : 0 < w.heap.size := World.block_lt_of_cell? w _ hL.2.2.2.2.1
  have HR0 := Lib.hid (Box.new w _ rfl 24 #[.int .i64 0, .int .i64 0, .int .i64 0, .int .i64 0, .int .i64 0, .int .i64 0, .int .i64 0])
  clear hL
  go_enter Tryd.func15, Tryd.ntmps15
  go_wp2_with fail
  refine HP.out.mono ?_
  rintro e w1 (⟨⟨rfl, hk⟩, hno⟩ | ⟨s, k, f, t, m, u, v, hyes, rfl, hk⟩)
  · have HN := Lib.hid hno
    clear hno
    have hR := HR0.out.keeps hk (fun h => h)
    have hP := Box.new w1 _ rfl 24 #[.int .i64 0, .int .i64 0, .int .i64 0, .int .i64 0, .int .i64 0, .int .i64 0, .int .i64 0]
    have hK := (((Keeps.refl noBlk w).alloc (.cells #[.int .i64 0, .int .i64 0, .int .i64 0, .int .i64 0, .int .i64 0, .int .i64 0, .int .i64 0] 24)).trans hk).alloc (.cells #[.int .i64 0, .int .i64 0, .int .i64 0, .int .i64 0, .int .i64 0, .int .i64 0, .int .i64 0] 24)
    have hc := (HL.out.keeps hK).2.2.2.2.1
    have zr := (HR0.out.keeps hk (fun h => h)).lt
    have n1 : ¬ w.heap.size = 0 := by omega
    have n2 : ¬ 0 = w.heap.size := by omega
    have n3 : ¬ w1.heap.size = 0 := by omega
    have n4 : ¬ 0 = w1.heap.size := by omega
    have n5 : 0 < w1.heap.size := by omega
    have n6 : ¬ w1.heap.size = w.heap.size := by omega
    have n7 : ¬ w.heap.size = w1.heap.size := by omega
    have c0 := hP.cell 0
    have c1 := hP.cell 1
    have c2 := hP.cell 2
    have c3 := hP.cell 3
    have c4 := hP.cell 4
    have c5 := hP.cell 5
    have c6 := hP.cell 6
    simp at c0 c1 c2 c3 c4 c5 c6
    have r0 := hR.cell 0
    have r1 := hR.cell 1
    have r2 := hR.cell 2
    have r3 := hR.cell 3
    have r4 := hR.cell 4
    have r5 := hR.cell 5
    have r6 := hR.cell 6
    simp at r0 r1 r2 r3 r4 r5 r6
    have f0 := hR.frozen 0
    have f1 := hR.frozen 1
    have f2 := hR.frozen 2
    have f3 := hR.frozen 3
    have f4 := hR.frozen 4
    have f5 := hR.frozen 5
    have f6 := hR.frozen 6
    have HKe := Lib.hid (((Keeps.refl noBlk w).alloc (.cells #[.int .i64 0, .int .i64 0, .int .i64 0, .int .i64 0, .int .i64 0, .int .i64 0, .int .i64 0] 24)).trans hk)
    have zz := zr
    have hw1 := ((HL.out.keeps (((Keeps.refl noBlk w).alloc (.cells #[.int .i64 0, .int .i64 0, .int .i64 0, .int .i64 0, .int .i64 0, .int .i64 0, .int .i64 0] 24)).trans hk)).2.2.2.2.1)
    clear hk hR hP hK
    go_wp2_with fail
    go_region_with ((go_at_call 30; refine (is_same aE _).mono ?_; rintro e w' ⟨rfl, rfl⟩))
    all_goals (try go_wp2)
    all_goals refine bodyPost_ret (v := .tuple #[.agg #[.int .i64 0, .int .i64 0, .int .i64 0, .int .i64 0, .int .i64 0, .int .i64 0, .int .i64 0], .bool false]) (by simp [results, Tryd.results15, go_sem, r0, r1, r2, r3, r4, r5, r6, zz]) rfl (.inl ⟨HN.out, rfl, ?_⟩)
    all_goals repeat (first | with_reducible exact HKe.out | with_reducible refine Keeps.drew ?_ | with_reducible refine Keeps.alloc ?_ _ | with_reducible refine Keeps.setCell ?_ (.inl (by dsimp only; omega)) _)

  · have HY := Lib.hid hyes
    clear hyes
    have hR := HR0.out.keeps hk (fun h => h)
    have hP := Box.new w1 _ rfl 24 #[.int .i64 s, .int .i64 k, .int .i64 f, .int .i64 t, .int .i64 m, .int .i64 u, .int .i64 v]
    have hK := (((Keeps.refl noBlk w).alloc (.cells #[.int .i64 0, .int .i64 0, .int .i64 0, .int .i64 0, .int .i64 0, .int .i64 0, .int .i64 0] 24)).trans hk).alloc (.cells #[.int .i64 s, .int .i64 k, .int .i64 f, .int .i64 t, .int .i64 m, .int .i64 u, .int .i64 v] 24)
    have hc := (HL.out.keeps hK).2.2.2.2.1
    have zr := (HR0.out.keeps hk (fun h => h)).lt
    have n1 : ¬ w.heap.size = 0 := by omega
    have n2 : ¬ 0 = w.heap.size := by omega
    have n3 : ¬ w1.heap.size = 0 := by omega
    have n4 : ¬ 0 = w1.heap.size := by omega
    have n5 : 0 < w1.heap.size := by omega
    have n6 : ¬ w1.heap.size = w.heap.size := by omega
    have n7 : ¬ w.heap.size = w1.heap.size := by omega
    have c0 := hP.cell 0
    have c1 := hP.cell 1
    have c2 := hP.cell 2
    have c3 := hP.cell 3
    have c4 := hP.cell 4
    have c5 := hP.cell 5
    have c6 := hP.cell 6
    simp at c0 c1 c2 c3 c4 c5 c6
    have r0 := hR.cell 0
    have r1 := hR.cell 1
    have r2 := hR.cell 2
    have r3 := hR.cell 3
    have r4 := hR.cell 4
    have r5 := hR.cell 5
    have r6 := hR.cell 6
    simp at r0 r1 r2 r3 r4 r5 r6
    have f0 := hR.frozen 0
    have f1 := hR.frozen 1
    have f2 := hR.frozen 2
    have f3 := hR.frozen 3
    have f4 := hR.frozen 4
    have f5 := hR.frozen 5
    have f6 := hR.frozen 6
    have HKe := Lib.hid (((Keeps.refl noBlk w).alloc (.cells #[.int .i64 0, .int .i64 0, .int .i64 0, .int .i64 0, .int .i64 0, .int .i64 0, .int .i64 0] 24)).trans hk)
    have zz := zr
    have hw1 := ((HL.out.keeps (((Keeps.refl noBlk w).alloc (.cells #[.int .i64 0, .int .i64 0, .int .i64 0, .int .i64 0, .int .i64 0, .int .i64 0, .int .i64 0] 24)).trans hk)).2.2.2.2.1)
    clear hk hR hP hK
    go_wp2_with fail
    go_region_with ((go_at_call 30; refine (is_nil aE _).mono ?_; rintro e w' ⟨rfl, rfl⟩))
    all_goals (try go_wp2)
    all_goals refine bodyPost_ret (v := .tuple #[.agg #[.int .i64 s, .int .i64 k, .int .i64 f, .int .i64 t, .int .i64 m, .int .i64 u, .int .i64 v], .bool true]) (by simp [results, Tryd.results15, go_sem, r0, r1, r2, r3, r4, r5, r6, zz]) rfl (.inr ⟨s, k, f, t, m, u, v, HY.out, rfl, ?_⟩)
    all_goals repeat (first | with_reducible exact HKe.out | with_reducible refine Keeps.drew ?_ | with_reducible refine Keeps.alloc ?_ _ | with_reducible refine Keeps.setCell ?_ (.inl (by dsimp only; omega)) _)

end Go.Proofs.YtjbllfnfnkghgaaDoor
