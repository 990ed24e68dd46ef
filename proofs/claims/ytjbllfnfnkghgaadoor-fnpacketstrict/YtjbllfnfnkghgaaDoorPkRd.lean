/- impl.PacketRead: the packet whose text it is, or none. -/
import Derived.Test.YtjbllfnfnkghgaaDoorPkTh2
import Derived.Deep.RegionHeld3
set_option linter.unusedVariables false
set_option linter.unusedSimpArgs false
namespace Go.Proofs.YtjbllfnfnkghgaaDoor
open Go.RowKit
attribute [local go_sem] idx_0 idx_1 idx_2 idx_3 idx_4 idx_5 idx_6

set_option maxRecDepth 100000 in
set_option maxHeartbeats 1000000 in
theorem packet_any (s k f t m u v : Int) (w : World) : Calls Tryd.prog 42 #[.agg #[.int .i64 s, .int .i64 k, .int .i64 f, .int .i64 t, .int .i64 m, .int .i64 u, .int .i64 v]] w fun e w' => e = .returned (.agg #[.int .i64 s, .int .i64 k, .int .i64 f, .int .i64 t, .int .i64 m, .int .i64 u, .int .i64 v]) ∧ Keeps noBlk w w' := by
  go_enter Tryd.func42, Tryd.ntmps42
  go_wp2
  refine bodyPost_ret (v := .agg #[.int .i64 s, .int .i64 k, .int .i64 f, .int .i64 t, .int .i64 m, .int .i64 u, .int .i64 v]) (by simp [results, Tryd.results42, go_sem]) rfl ⟨rfl, ?_⟩
  repeat (first | exact Keeps.refl _ _ | refine Keeps.alloc ?_ _ | refine Keeps.setCell ?_ (.inl (by simp)) _)

def RetRPno (w : World) (aE : Addr) (e : Ending) (w' : World) : Prop := e = .returned (.tuple #[.agg #[.int .i64 0, .int .i64 0, .int .i64 0, .int .i64 0, .int .i64 0, .int .i64 0, .int .i64 0], .iface 133 (.pointer (some aE))]) ∧ Keeps noBlk w w'
def RetRPyes (w : World) (s k f t m u v : Int) (e : Ending) (w' : World) : Prop := e = .returned (.tuple #[.agg #[.int .i64 s, .int .i64 k, .int .i64 f, .int .i64 t, .int .i64 m, .int .i64 u, .int .i64 v], .nilIface]) ∧ Keeps noBlk w w'

set_option maxRecDepth 100000 in
set_option maxHeartbeats 1000000 in
theorem rp_no1 (l : List UInt8) (aE : Addr) (w : World) (hF : ∀ W, Keeps noBlk w W → Calls Tryd.prog 41 #[.string ⟨l.toArray⟩] W (RetNo7 W aE)) :
    Calls Tryd.prog 29 #[.string ⟨l.toArray⟩] w (RetRPno w aE) := by
  have HF := Lib.hid (hF _ ((Keeps.refl noBlk w).alloc (.cells #[.int .i64 0, .int .i64 0, .int .i64 0, .int .i64 0, .int .i64 0, .int .i64 0, .int .i64 0] 24)))
  clear hF
  go_enter Tryd.func29, Tryd.ntmps29
  go_wp2_with fail
  refine HF.out.mono ?_
  rintro e w1 ⟨rfl, hk⟩
  have hR := (Box.new w _ rfl 24 #[.int .i64 0, .int .i64 0, .int .i64 0, .int .i64 0, .int .i64 0, .int .i64 0, .int .i64 0]).keeps hk (fun h => h)
  have r0 := hR.cell 0
  have r1 := hR.cell 1
  have r2 := hR.cell 2
  have r3 := hR.cell 3
  have r4 := hR.cell 4
  have r5 := hR.cell 5
  have r6 := hR.cell 6
  simp at r0 r1 r2 r3 r4 r5 r6
  have f0 := hR.frozen 0
  have f1 := hR.frozen 1
  have f2 := hR.frozen 2
  have f3 := hR.frozen 3
  have f4 := hR.frozen 4
  have f5 := hR.frozen 5
  have f6 := hR.frozen 6
  have HKe := Lib.hid (((Keeps.refl noBlk w).alloc (.cells #[.int .i64 0, .int .i64 0, .int .i64 0, .int .i64 0, .int .i64 0, .int .i64 0, .int .i64 0] 24)).trans hk)
  have zz := hR.lt
  clear hk hR
  go_wp2
  refine bodyPost_ret (v := .tuple #[.agg #[.int .i64 0, .int .i64 0, .int .i64 0, .int .i64 0, .int .i64 0, .int .i64 0, .int .i64 0], .iface 133 (.pointer (some aE))]) (by simp [results, Tryd.results29, go_sem, r0, r1, r2, r3, r4, r5, r6, zz]) rfl ⟨rfl, ?_⟩
  repeat (first | with_reducible exact HKe.out | with_reducible refine Keeps.drew ?_ | with_reducible refine Keeps.alloc ?_ _ | with_reducible refine Keeps.setCell ?_ (.inl (by dsimp only; omega)) _)

def Nums (a : Nat → List UInt8) (s k f t m u v : Int) : Prop := cz (a 0) = some s ∧ cz (a 1) = some k ∧ cz (a 2) = some f ∧ cz (a 3) = some t ∧ cz (a 4) = some m ∧ cz (a 5) = some u ∧ cz (a 6) = some v
def RetRPm (w : World) (aE : Addr) (a : Nat → List UInt8) (e : Ending) (w' : World) : Prop :=
  (RetRPno w aE e w' ∧ ((∃ j, j < 7 ∧ cz (a j) = none) ∨ ∃ s k f t m u v, Nums a s k f t m u v ∧ pkB s k f t m u v = false)) ∨ ∃ s k f t m u v, Nums a s k f t m u v ∧ pkB s k f t m u v = true ∧ RetRPyes w s k f t m u v e w'

set_option maxRecDepth 100000 in
set_option maxHeartbeats 4000000 in
theorem rp_main (l : List UInt8) (a : Nat → List UInt8) (aE : Addr) (w : World) (hL : Libs w aE) (hF : ∀ W, Keeps noBlk w W → Calls Tryd.prog 41 #[.string ⟨l.toArray⟩] W (RetRFs W aE a)) :
    Calls Tryd.prog 29 #[.string ⟨l.toArray⟩] w (RetRPm w aE a) := by
  have HF := Lib.hid (hF _ ((Keeps.refl noBlk w).alloc (.cells #[.int .i64 0, .int .i64 0, .int .i64 0, .int .i64 0, .int .i64 0, .int .i64 0, .int .i64 0] 24)))
  have HL := Lib.hid hL
  have n0 : 0 < w.heap.size := World.block_lt_of_cell? w _ hL.2.2.2.2.1
  clear hF hL
  go_enter Tryd.func29, Tryd.ntmps29
  go_wp2_with fail
  refine HF.out.mono ?_
  rintro e w1 (⟨hbad, rfl, hk⟩ | ⟨s, k, f, t, m, u, v, q0, q1, q2, q3, q4, q5, q6, rfl, hk⟩)
  · have hR := (Box.new w _ rfl 24 #[.int .i64 0, .int .i64 0, .int .i64 0, .int .i64 0, .int .i64 0, .int .i64 0, .int .i64 0]).keeps hk (fun h => h)
    have r0 := hR.cell 0
    have r1 := hR.cell 1
    have r2 := hR.cell 2
    have r3 := hR.cell 3
    have r4 := hR.cell 4
    have r5 := hR.cell 5
    have r6 := hR.cell 6
    simp at r0 r1 r2 r3 r4 r5 r6
    have f0 := hR.frozen 0
    have f1 := hR.frozen 1
    have f2 := hR.frozen 2
    have f3 := hR.frozen 3
    have f4 := hR.frozen 4
    have f5 := hR.frozen 5
    have f6 := hR.frozen 6
    have HKe := Lib.hid (((Keeps.refl noBlk w).alloc (.cells #[.int .i64 0, .int .i64 0, .int .i64 0, .int .i64 0, .int .i64 0, .int .i64 0, .int .i64 0] 24)).trans hk)
    have HBD := Lib.hid hbad
    have zz := hR.lt
    clear hk hR hbad
    go_wp2
    refine bodyPost_ret (v := .tuple #[.agg #[.int .i64 0, .int .i64 0, .int .i64 0, .int .i64 0, .int .i64 0, .int .i64 0, .int .i64 0], .iface 133 (.pointer (some aE))]) (by simp [results, Tryd.results29, go_sem, r0, r1, r2, r3, r4, r5, r6, zz]) rfl (.inl ⟨⟨rfl, ?_⟩, .inl HBD.out⟩)
    repeat (first | with_reducible exact HKe.out | with_reducible refine Keeps.drew ?_ | with_reducible refine Keeps.alloc ?_ _ | with_reducible refine Keeps.setCell ?_ (.inl (by dsimp only; omega)) _)
  · have HQ := Lib.hid (⟨q0, q1, q2, q3, q4, q5, q6⟩ : Nums a s k f t m u v)
    have HR1 := Lib.hid ((Box.new w _ rfl 24 #[.int .i64 0, .int .i64 0, .int .i64 0, .int .i64 0, .int .i64 0, .int .i64 0, .int .i64 0]).keeps hk (fun h => h))
    have HK1 := Lib.hid (((Keeps.refl noBlk w).alloc (.cells #[.int .i64 0, .int .i64 0, .int .i64 0, .int .i64 0, .int .i64 0, .int .i64 0, .int .i64 0] 24)).trans hk)
    have z1 := HR1.out.lt
    clear hk q0 q1 q2 q3 q4 q5 q6
    go_wp2_with fail
    refine (packet_any s k f t m u v _).mono ?_
    rintro e w2 ⟨rfl, hk⟩
    have HR2 := Lib.hid ((HR1.out.alloc _).keeps hk (fun h => h))
    have HK2 := Lib.hid ((HK1.out.alloc _).trans hk)
    have z2 := HR2.out.lt
    clear hk HR1 HK1
    rcases Bool.eq_false_or_eq_true (pkB s k f t m u v) with ho | ho
    · have HIM := Lib.hid (fun W hW => (show Calls Tryd.prog 16 #[.agg #[.int .i64 s, .int .i64 k, .int .i64 f, .int .i64 t, .int .i64 m, .int .i64 u, .int .i64 v]] W (fun e w' => e = .returned (.bool true) ∧ Keeps noBlk W w') from by rw [← ho]; exact implPk_any s k f t m u v W hW))
      have HO := Lib.hid ho
      clear ho
      go_wp2_with fail
      refine (HIM.out _ (HL.out.1.keeps (HK2.out.alloc _))).mono ?_
      rintro e w3 ⟨rfl, hk⟩
      have hR := (HR2.out.alloc _).keeps hk (fun h => h)
      have hP := (Box.new w2 _ rfl 24 #[.int .i64 s, .int .i64 k, .int .i64 f, .int .i64 t, .int .i64 m, .int .i64 u, .int .i64 v]).keeps hk (fun h => h)
      have c0 := hP.cell 0
      have c1 := hP.cell 1
      have c2 := hP.cell 2
      have c3 := hP.cell 3
      have c4 := hP.cell 4
      have c5 := hP.cell 5
      have c6 := hP.cell 6
      simp at c0 c1 c2 c3 c4 c5 c6
      have r0 := hR.cell 0
      have r1 := hR.cell 1
      have r2 := hR.cell 2
      have r3 := hR.cell 3
      have r4 := hR.cell 4
      have r5 := hR.cell 5
      have r6 := hR.cell 6
      simp at r0 r1 r2 r3 r4 r5 r6
      have f0 := hR.frozen 0
      have f1 := hR.frozen 1
      have f2 := hR.frozen 2
      have f3 := hR.frozen 3
      have f4 := hR.frozen 4
      have f5 := hR.frozen 5
      have f6 := hR.frozen 6
      have HKe := Lib.hid ((HK2.out.alloc _).trans hk)
      have zz := hR.lt
      clear hk hR hP
      go_wp2
      refine bodyPost_ret (v := .tuple #[.agg #[.int .i64 s, .int .i64 k, .int .i64 f, .int .i64 t, .int .i64 m, .int .i64 u, .int .i64 v], .nilIface]) (by simp [results, Tryd.results29, go_sem, r0, r1, r2, r3, r4, r5, r6, zz]) rfl (.inr ⟨s, k, f, t, m, u, v, HQ.out, HO.out, rfl, ?_⟩)
      repeat (first | with_reducible exact HKe.out | with_reducible refine Keeps.drew ?_ | with_reducible refine Keeps.alloc ?_ _ | with_reducible refine Keeps.setCell ?_ (.inl (by dsimp only; omega)) _)
    · have HIM := Lib.hid (fun W hW => (show Calls Tryd.prog 16 #[.agg #[.int .i64 s, .int .i64 k, .int .i64 f, .int .i64 t, .int .i64 m, .int .i64 u, .int .i64 v]] W (fun e w' => e = .returned (.bool false) ∧ Keeps noBlk W w') from by rw [← ho]; exact implPk_any s k f t m u v W hW))
      have HO := Lib.hid ho
      clear ho
      go_wp2_with fail
      refine (HIM.out _ (HL.out.1.keeps (HK2.out.alloc _))).mono ?_
      rintro e w3 ⟨rfl, hk⟩
      have hR := (HR2.out.alloc _).keeps hk (fun h => h)
      have hK := (HK2.out.alloc _).trans hk
      have hc := (HL.out.keeps hK).2.2.2.2.1
      have n1 : ¬ w.heap.size = 0 := by omega
      have n2 : ¬ 0 = w.heap.size := by omega
      have r0 := hR.cell 0
      have r1 := hR.cell 1
      have r2 := hR.cell 2
      have r3 := hR.cell 3
      have r4 := hR.cell 4
      have r5 := hR.cell 5
      have r6 := hR.cell 6
      simp at r0 r1 r2 r3 r4 r5 r6
      have f0 := hR.frozen 0
      have f1 := hR.frozen 1
      have f2 := hR.frozen 2
      have f3 := hR.frozen 3
      have f4 := hR.frozen 4
      have f5 := hR.frozen 5
      have f6 := hR.frozen 6
      have HKe := Lib.hid hK
      have zz := hR.lt
      clear hk hR hK
      go_wp2
      go_region
      all_goals (try go_wp2)
      all_goals refine bodyPost_ret (v := .tuple #[.agg #[.int .i64 0, .int .i64 0, .int .i64 0, .int .i64 0, .int .i64 0, .int .i64 0, .int .i64 0], .iface 133 (.pointer (some aE))]) (by simp [results, Tryd.results29, go_sem, r0, r1, r2, r3, r4, r5, r6, zz]) rfl (.inl ⟨⟨rfl, ?_⟩, .inr ⟨s, k, f, t, m, u, v, HQ.out, HO.out⟩⟩)
      all_goals repeat (first | with_reducible exact HKe.out | with_reducible refine Keeps.drew ?_ | with_reducible refine Keeps.alloc ?_ _ | with_reducible refine Keeps.setCell ?_ (.inl (by dsimp only; omega)) _)

def Reads (l : List UInt8) (s k f t m u v : Int) : Prop := pkB s k f t m u v = true ∧ txt s k f t m u v = l
def RetRP (w : World) (aE : Addr) (l : List UInt8) (e : Ending) (w' : World) : Prop :=
  (RetRPno w aE e w' ∧ ∀ s k f t m u v, ¬ Reads l s k f t m u v) ∨ ∃ s k f t m u v, Reads l s k f t m u v ∧ RetRPyes w s k f t m u v e w'
theorem wd_get (s k f t m u v : Int) : (wdL s k f t m u v).getD 0 [] = dg s ∧ (wdL s k f t m u v).getD 1 [] = dg k ∧ (wdL s k f t m u v).getD 2 [] = dg f ∧ (wdL s k f t m u v).getD 3 [] = dg t ∧ (wdL s k f t m u v).getD 4 [] = dg m ∧ (wdL s k f t m u v).getD 5 [] = dg u ∧ (wdL s k f t m u v).getD 6 [] = dg v := ⟨rfl, rfl, rfl, rfl, rfl, rfl, rfl⟩
theorem cz_wd (s k f t m u v : Int) (h : pkB s k f t m u v = true) : Nums (fun j => (wdL s k f t m u v).getD j []) s k f t m u v := by
  obtain ⟨⟨a0, b0⟩, ⟨a1, b1⟩, ⟨a2, b2⟩, ⟨a3, b3⟩, ⟨a4, b4⟩, ⟨a5, b5⟩, ⟨a6, b6⟩⟩ := pkB_parts h
  exact ⟨cz_dg s (by omega) (by omega), cz_dg k (by omega) (by omega), cz_dg f (by omega) (by omega), cz_dg t (by omega) (by omega), cz_dg m (by omega) (by omega), cz_dg u (by omega) (by omega), cz_dg v (by omega) (by omega)⟩
theorem rp_any (l : List UInt8) (aE : Addr) (w : World) (hL : Libs w aE) : Calls Tryd.prog 29 #[.string ⟨l.toArray⟩] w (RetRP w aE l) := by
  by_cases h24 : l.length ≤ 24
  · by_cases h7 : (spl l).length = 7
    · refine (rp_main l (fun j => (spl l).getD j []) aE w hL (fun W hW => rfs_main l h24 (spl l) rfl (spl_len l h24) h7 aE W (hL.keeps hW))).mono fun e w' hr => ?_
      rcases hr with ⟨hr, hb⟩ | ⟨s, k, f, t, m, u, v, hq, ho, hr⟩
      · refine .inl ⟨hr, fun s k f t m u v ⟨hp, ht⟩ => ?_⟩
        have hw := (read_fwd hp ht).2
        have hcz := cz_wd s k f t m u v hp
        rw [← hw] at hcz
        obtain ⟨c0, c1, c2, c3, c4, c5, c6⟩ := hcz
        rcases hb with ⟨j, hj, hn⟩ | ⟨s', k', f', t', m', u', v', ⟨d0, d1, d2, d3, d4, d5, d6⟩, hno⟩
        · obtain rfl | rfl | rfl | rfl | rfl | rfl | rfl : j = 0 ∨ j = 1 ∨ j = 2 ∨ j = 3 ∨ j = 4 ∨ j = 5 ∨ j = 6 := by omega
          · rw [c0] at hn; cases hn
          · rw [c1] at hn; cases hn
          · rw [c2] at hn; cases hn
          · rw [c3] at hn; cases hn
          · rw [c4] at hn; cases hn
          · rw [c5] at hn; cases hn
          · rw [c6] at hn; cases hn
        · rw [c0] at d0; cases d0; rw [c1] at d1; cases d1; rw [c2] at d2; cases d2; rw [c3] at d3; cases d3; rw [c4] at d4; cases d4; rw [c5] at d5; cases d5; rw [c6] at d6; cases d6
          rw [hp] at hno
          cases hno
      · obtain ⟨q0, q1, q2, q3, q4, q5, q6⟩ := hq
        exact .inr ⟨s, k, f, t, m, u, v, ⟨ho, read_bwd rfl h7 q0 q1 q2 q3 q4 q5 q6 ho⟩, hr⟩
    · refine (rp_no1 l aE w (fun W hW => rfs_count l h24 h7 aE W (hL.keeps hW))).mono fun e w' hr => .inl ⟨hr, fun s k f t m u v ⟨hp, ht⟩ => h7 ?_⟩
      rw [(read_fwd hp ht).2]
      rfl
  · exact (rp_no1 l aE w (fun W hW => rfs_long l (by omega) aE W (hL.keeps hW))).mono fun e w' hr => .inl ⟨hr, fun s k f t m u v ⟨hp, ht⟩ => h24 (read_fwd hp ht).1⟩
end Go.Proofs.YtjbllfnfnkghgaaDoor
