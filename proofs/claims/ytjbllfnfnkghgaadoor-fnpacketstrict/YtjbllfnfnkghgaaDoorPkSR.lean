/- spec.PacketRead: the packet whose text it is, or none. -/
import Derived.Test.YtjbllfnfnkghgaaDoorPkCut
import Derived.Test.YtjbllfnfnkghgaaDoorPkDec
import Derived.Test.YtjbllfnfnkghgaaDoorPkST
import Derived.Deep.RegionHeld3
import Derived.Deep.DrawnRows
set_option linter.unusedVariables false
set_option linter.unusedSimpArgs false
namespace Go.Proofs.YtjbllfnfnkghgaaDoor
open Go.RowKit
attribute [local go_sem ↓] Go.wp_at_zero Go.wp_at_succ

theorem fig_is (n : Int) (h0 : 0 ≤ n) (h1 : n < 10) : isFig (fig n) := by
  have := fig_nat n h0 h1
  exact ⟨by omega, by omega⟩
theorem nd_dg (n : Int) (h0 : 0 ≤ n) (h1 : n < 100) : nd (dg n) = n := by
  by_cases h : n < 10
  · rw [dg_1 n h0 h, nd, if_pos (fig_is n h0 h), fig_nat n h0 h]
    omega
  · rw [dg_two n (by omega) h1, nd, if_pos ⟨fig_is _ (by omega) (by omega), fig_is _ (by omega) (by omega)⟩, fig_nat _ (by omega) (by omega), fig_nat _ (by omega) (by omega)]
    omega
/-- What the seven words' numbers say of the text. -/
theorem nd_reads {l : List UInt8} {x0 x1 x2 x3 x4 x5 x6 : List UInt8} (hc : cutL l = [x0, x1, x2, x3, x4, x5, x6]) {s k f t m u v : Int} (h : Reads l s k f t m u v) : nd x0 = s ∧ nd x1 = k ∧ nd x2 = f ∧ nd x3 = t ∧ nd x4 = m ∧ nd x5 = u ∧ nd x6 = v := by
  have e := cut_txt _ _ _ _ _ _ _ h.1
  rw [h.2, hc] at e
  obtain ⟨⟨a0, b0⟩, ⟨a1, b1⟩, ⟨a2, b2⟩, ⟨a3, b3⟩, ⟨a4, b4⟩, ⟨a5, b5⟩, ⟨a6, b6⟩⟩ := pkB_parts h.1
  simp only [wdL, List.cons.injEq, and_true] at e
  obtain ⟨rfl, rfl, rfl, rfl, rfl, rfl, rfl⟩ := e
  exact ⟨nd_dg s (by omega) (by omega), nd_dg k (by omega) (by omega), nd_dg f (by omega) (by omega), nd_dg t (by omega) (by omega), nd_dg m (by omega) (by omega), nd_dg u (by omega) (by omega), nd_dg v (by omega) (by omega)⟩

set_option maxRecDepth 100000 in
set_option maxHeartbeats 1000000 in
theorem sr_long (l : List UInt8) (h : (24 : Int) < (l.length : Int)) (w : World) : Calls Tryd.prog 18 #[.string ⟨l.toArray⟩] w (RetPR w l) := by
  have hR := Box.new w _ rfl 24 #[.int .i64 0, .int .i64 0, .int .i64 0, .int .i64 0, .int .i64 0, .int .i64 0, .int .i64 0]
  have r0 := hR.cell 0
  have r1 := hR.cell 1
  have r2 := hR.cell 2
  have r3 := hR.cell 3
  have r4 := hR.cell 4
  have r5 := hR.cell 5
  have r6 := hR.cell 6
  simp at r0 r1 r2 r3 r4 r5 r6
  have f0 := hR.frozen 0
  have f1 := hR.frozen 1
  have f2 := hR.frozen 2
  have f3 := hR.frozen 3
  have f4 := hR.frozen 4
  have f5 := hR.frozen 5
  have f6 := hR.frozen 6
  have HKe := Lib.hid ((Keeps.refl noBlk w).alloc (.cells #[.int .i64 0, .int .i64 0, .int .i64 0, .int .i64 0, .int .i64 0, .int .i64 0, .int .i64 0] 24))
  have HN : Hid (∀ s k f t m u v, ¬ Reads l s k f t m u v) := Lib.hid (fun s k f t m u v hh => by have := (read_fwd hh.1 hh.2).1; omega)
  have zz : True := trivial
  clear hR
  go_enter Tryd.func18, Tryd.ntmps18
  go_wp2
  refine bodyPost_ret (v := .tuple #[.agg #[.int .i64 0, .int .i64 0, .int .i64 0, .int .i64 0, .int .i64 0, .int .i64 0, .int .i64 0], .bool false]) (by simp [results, Tryd.results18, go_sem, r0, r1, r2, r3, r4, r5, r6, zz]) rfl (.inl ⟨HN.out, rfl, ?_⟩)
  repeat (first | with_reducible exact HKe.out | with_reducible refine Keeps.drew ?_ | with_reducible refine Keeps.setCell ?_ (.inl (Nat.le_refl _)) _)

set_option maxRecDepth 100000 in
set_option maxHeartbeats 1000000 in
theorem sr_count (l : List UInt8) (hl : l.length ≤ 24) (h : (cutL l).length ≠ 7) (w : World) : Calls Tryd.prog 18 #[.string ⟨l.toArray⟩] w (RetPR w l) := by
  have HS := Lib.hid (l2Cut_any l hl (w.alloc (.cells #[.int .i64 0, .int .i64 0, .int .i64 0, .int .i64 0, .int .i64 0, .int .i64 0, .int .i64 0] 24)))
  have HN : Hid (∀ s k f t m u v, ¬ Reads l s k f t m u v) := Lib.hid (fun s k f t m u v hh => h (by rw [← hh.2, cut_txt _ _ _ _ _ _ _ hh.1]; rfl))
  have hd : ((((cutL l).length : Nat) : Int) != 7) = true := by simp; omega
  have hp : 0 < (cutL l).length := List.length_pos_iff.2 (cut_ne l)
  have hl1 : ¬ (24 : Int) < (l.length : Int) := by omega
  generalize cutL l = ws at HS hd hp
  clear h
  go_enter Tryd.func18, Tryd.ntmps18
  go_wp2_with fail
  refine HS.out.mono ?_
  rintro e w1 ⟨v, rfl, hown, hk⟩
  obtain ⟨g, cap, rfl, hg0, hg1⟩ := hown.form hp
  have hR := (Box.new w _ rfl 24 #[.int .i64 0, .int .i64 0, .int .i64 0, .int .i64 0, .int .i64 0, .int .i64 0, .int .i64 0]).keeps hk (fun h => h)
  have r0 := hR.cell 0
  have r1 := hR.cell 1
  have r2 := hR.cell 2
  have r3 := hR.cell 3
  have r4 := hR.cell 4
  have r5 := hR.cell 5
  have r6 := hR.cell 6
  simp at r0 r1 r2 r3 r4 r5 r6
  have f0 := hR.frozen 0
  have f1 := hR.frozen 1
  have f2 := hR.frozen 2
  have f3 := hR.frozen 3
  have f4 := hR.frozen 4
  have f5 := hR.frozen 5
  have f6 := hR.frozen 6
  have HKe := Lib.hid (((Keeps.refl noBlk w).alloc (.cells #[.int .i64 0, .int .i64 0, .int .i64 0, .int .i64 0, .int .i64 0, .int .i64 0, .int .i64 0] 24)).trans hk)
  have zz := hR.lt
  clear hR hk hown
  go_wp2
  refine bodyPost_ret (v := .tuple #[.agg #[.int .i64 0, .int .i64 0, .int .i64 0, .int .i64 0, .int .i64 0, .int .i64 0, .int .i64 0], .bool false]) (by simp [results, Tryd.results18, go_sem, r0, r1, r2, r3, r4, r5, r6, zz]) rfl (.inl ⟨HN.out, rfl, ?_⟩)
  repeat (first | with_reducible exact HKe.out | with_reducible refine Keeps.drew ?_ | with_reducible refine Keeps.setCell ?_ (.inl (Nat.le_refl _)) _)

theorem sr_no1 {l o : List UInt8} {n0 n1 n2 n3 n4 n5 n6 s k f t m u v : Int} (he : n0 = s ∧ n1 = k ∧ n2 = f ∧ n3 = t ∧ n4 = m ∧ n5 = u ∧ n6 = v) (ho : pkT n0 n1 n2 n3 n4 n5 n6 = o) (h : Reads l s k f t m u v) (hol : ¬ o = l) : False := by
  obtain ⟨rfl, rfl, rfl, rfl, rfl, rfl, rfl⟩ := he
  rw [pkT_yes h.1] at ho
  exact hol (ho.symm.trans h.2)
theorem sr_yes {o : List UInt8} {n0 n1 n2 n3 n4 n5 n6 : Int} (ho : pkT n0 n1 n2 n3 n4 n5 n6 = o) (hn : ¬ o = []) : Reads o n0 n1 n2 n3 n4 n5 n6 := by
  rcases Bool.eq_false_or_eq_true (pkB n0 n1 n2 n3 n4 n5 n6) with h | h
  · exact ⟨h, by rw [← ho, pkT_yes h]⟩
  · rw [pkT_no h] at ho
    exact absurd ho.symm hn

set_option maxRecDepth 100000 in
set_option maxHeartbeats 20000000 in
theorem sr_main (l : List UInt8) (hl : l.length ≤ 24) (x0 x1 x2 x3 x4 x5 x6 : List UInt8) (h : cutL l = [x0, x1, x2, x3, x4, x5, x6]) (w : World) : Calls Tryd.prog 18 #[.string ⟨l.toArray⟩] w (RetPR w l) := by
  have HS0 := l2Cut_any l hl (w.alloc (.cells #[.int .i64 0, .int .i64 0, .int .i64 0, .int .i64 0, .int .i64 0, .int .i64 0, .int .i64 0] 24))
  rw [h] at HS0
  have HS := Lib.hid HS0
  have hle := cut_len l
  rw [h] at hle
  have l0 : x0.length ≤ 1000 := by have := hle x0 (by simp); omega
  have l1 : x1.length ≤ 1000 := by have := hle x1 (by simp); omega
  have l2 : x2.length ≤ 1000 := by have := hle x2 (by simp); omega
  have l3 : x3.length ≤ 1000 := by have := hle x3 (by simp); omega
  have l4 : x4.length ≤ 1000 := by have := hle x4 (by simp); omega
  have l5 : x5.length ≤ 1000 := by have := hle x5 (by simp); omega
  have l6 : x6.length ≤ 1000 := by have := hle x6 (by simp); omega
  obtain ⟨n0, hn0⟩ : ∃ n, nd x0 = n := ⟨_, rfl⟩
  obtain ⟨n1, hn1⟩ : ∃ n, nd x1 = n := ⟨_, rfl⟩
  obtain ⟨n2, hn2⟩ : ∃ n, nd x2 = n := ⟨_, rfl⟩
  obtain ⟨n3, hn3⟩ : ∃ n, nd x3 = n := ⟨_, rfl⟩
  obtain ⟨n4, hn4⟩ : ∃ n, nd x4 = n := ⟨_, rfl⟩
  obtain ⟨n5, hn5⟩ : ∃ n, nd x5 = n := ⟨_, rfl⟩
  obtain ⟨n6, hn6⟩ : ∃ n, nd x6 = n := ⟨_, rfl⟩
  have HD0 := Lib.hid (fun W => (show Calls Tryd.prog 34 #[.string ⟨x0.toArray⟩] W (fun e w' => e = .returned (.int .i64 n0) ∧ W = w') from by rw [← hn0]; exact l2Dec_any x0 l0 W))
  have HD1 := Lib.hid (fun W => (show Calls Tryd.prog 34 #[.string ⟨x1.toArray⟩] W (fun e w' => e = .returned (.int .i64 n1) ∧ W = w') from by rw [← hn1]; exact l2Dec_any x1 l1 W))
  have HD2 := Lib.hid (fun W => (show Calls Tryd.prog 34 #[.string ⟨x2.toArray⟩] W (fun e w' => e = .returned (.int .i64 n2) ∧ W = w') from by rw [← hn2]; exact l2Dec_any x2 l2 W))
  have HD3 := Lib.hid (fun W => (show Calls Tryd.prog 34 #[.string ⟨x3.toArray⟩] W (fun e w' => e = .returned (.int .i64 n3) ∧ W = w') from by rw [← hn3]; exact l2Dec_any x3 l3 W))
  have HD4 := Lib.hid (fun W => (show Calls Tryd.prog 34 #[.string ⟨x4.toArray⟩] W (fun e w' => e = .returned (.int .i64 n4) ∧ W = w') from by rw [← hn4]; exact l2Dec_any x4 l4 W))
  have HD5 := Lib.hid (fun W => (show Calls Tryd.prog 34 #[.string ⟨x5.toArray⟩] W (fun e w' => e = .returned (.int .i64 n5) ∧ W = w') from by rw [← hn5]; exact l2Dec_any x5 l5 W))
  have HD6 := Lib.hid (fun W => (show Calls Tryd.prog 34 #[.string ⟨x6.toArray⟩] W (fun e w' => e = .returned (.int .i64 n6) ∧ W = w') from by rw [← hn6]; exact l2Dec_any x6 l6 W))
  have HRD : Hid (∀ s k f t m u v, Reads l s k f t m u v → n0 = s ∧ n1 = k ∧ n2 = f ∧ n3 = t ∧ n4 = m ∧ n5 = u ∧ n6 = v) := Lib.hid (fun s k f t m u v hh => by
    obtain ⟨e0, e1, e2, e3, e4, e5, e6⟩ := nd_reads h hh
    exact ⟨hn0.symm.trans e0, hn1.symm.trans e1, hn2.symm.trans e2, hn3.symm.trans e3, hn4.symm.trans e4, hn5.symm.trans e5, hn6.symm.trans e6⟩)
  have hl1 : ¬ (24 : Int) < (l.length : Int) := by omega
  clear h HS0 hle l0 hn0 l1 hn1 l2 hn2 l3 hn3 l4 hn4 l5 hn5 l6 hn6
  obtain ⟨o, ho⟩ : ∃ o, pkT n0 n1 n2 n3 n4 n5 n6 = o := ⟨_, rfl⟩
  have HT := Lib.hid (fun W => (show Calls Tryd.prog 14 #[.agg #[.int .i64 n0, .int .i64 n1, .int .i64 n2, .int .i64 n3, .int .i64 n4, .int .i64 n5, .int .i64 n6]] W (RetTxt W o) from by rw [← ho]; exact specText_any n0 n1 n2 n3 n4 n5 n6 W))
  have HO := Lib.hid ho
  clear ho
  go_enter Tryd.func18, Tryd.ntmps18
  go_wp2_with fail
  refine HS.out.mono ?_
  rintro e w1 ⟨v, rfl, hown, hk⟩
  obtain ⟨g, cap, rfl, hg0, hg1⟩ := hown.form (by simp)
  have hcl := hown.cells (g := g) rfl
  have y0 : w1.cell? ⟨g, 0, none⟩ = some (.string ⟨x0.toArray⟩) := by have h9 := hcl 0 (.string ⟨x0.toArray⟩) rfl; simpa [Addr.add] using h9
  have y1 : w1.cell? ⟨g, 1, none⟩ = some (.string ⟨x1.toArray⟩) := by have h9 := hcl 1 (.string ⟨x1.toArray⟩) rfl; simpa [Addr.add] using h9
  have y2 : w1.cell? ⟨g, 2, none⟩ = some (.string ⟨x2.toArray⟩) := by have h9 := hcl 2 (.string ⟨x2.toArray⟩) rfl; simpa [Addr.add] using h9
  have y3 : w1.cell? ⟨g, 3, none⟩ = some (.string ⟨x3.toArray⟩) := by have h9 := hcl 3 (.string ⟨x3.toArray⟩) rfl; simpa [Addr.add] using h9
  have y4 : w1.cell? ⟨g, 4, none⟩ = some (.string ⟨x4.toArray⟩) := by have h9 := hcl 4 (.string ⟨x4.toArray⟩) rfl; simpa [Addr.add] using h9
  have y5 : w1.cell? ⟨g, 5, none⟩ = some (.string ⟨x5.toArray⟩) := by have h9 := hcl 5 (.string ⟨x5.toArray⟩) rfl; simpa [Addr.add] using h9
  have y6 : w1.cell? ⟨g, 6, none⟩ = some (.string ⟨x6.toArray⟩) := by have h9 := hcl 6 (.string ⟨x6.toArray⟩) rfl; simpa [Addr.add] using h9
  have HR1 := Lib.hid ((Box.new w _ rfl 24 #[.int .i64 0, .int .i64 0, .int .i64 0, .int .i64 0, .int .i64 0, .int .i64 0, .int .i64 0]).keeps hk (fun h => h))
  have HK1 := Lib.hid (((Keeps.refl noBlk w).alloc (.cells #[.int .i64 0, .int .i64 0, .int .i64 0, .int .i64 0, .int .i64 0, .int .i64 0, .int .i64 0] 24)).trans hk)
  have z1 := HR1.out.lt
  clear hk hown hcl
  simp only [List.length_cons, List.length_nil]
  go_wp2_with fail
  go_region_held3 (fun w' => w'.cell? ⟨g, 0, none⟩ = some (.string ⟨x0.toArray⟩) ∧ w'.cell? ⟨g, 1, none⟩ = some (.string ⟨x1.toArray⟩) ∧ w'.cell? ⟨g, 2, none⟩ = some (.string ⟨x2.toArray⟩) ∧ w'.cell? ⟨g, 3, none⟩ = some (.string ⟨x3.toArray⟩) ∧ w'.cell? ⟨g, 4, none⟩ = some (.string ⟨x4.toArray⟩) ∧ w'.cell? ⟨g, 5, none⟩ = some (.string ⟨x5.toArray⟩) ∧ w'.cell? ⟨g, 6, none⟩ = some (.string ⟨x6.toArray⟩))
    (((try dsimp only); (repeat' apply And.intro) <;> (first | with_reducible assumption | (go_keep; done))))
    (first | (go_at_call_of 34 (Value.string ⟨x0.toArray⟩); refine (HD0.out _).mono ?_; rintro e w' ⟨rfl, rfl⟩) | (go_at_call_of 34 (Value.string ⟨x1.toArray⟩); refine (HD1.out _).mono ?_; rintro e w' ⟨rfl, rfl⟩) | (go_at_call_of 34 (Value.string ⟨x2.toArray⟩); refine (HD2.out _).mono ?_; rintro e w' ⟨rfl, rfl⟩) | (go_at_call_of 34 (Value.string ⟨x3.toArray⟩); refine (HD3.out _).mono ?_; rintro e w' ⟨rfl, rfl⟩) | (go_at_call_of 34 (Value.string ⟨x4.toArray⟩); refine (HD4.out _).mono ?_; rintro e w' ⟨rfl, rfl⟩) | (go_at_call_of 34 (Value.string ⟨x5.toArray⟩); refine (HD5.out _).mono ?_; rintro e w' ⟨rfl, rfl⟩) | (go_at_call_of 34 (Value.string ⟨x6.toArray⟩); refine (HD6.out _).mono ?_; rintro e w' ⟨rfl, rfl⟩))
  all_goals clear y0 y1 y2 y3 y4 y5 y6 HD0 HD1 HD2 HD3 HD4 HD5 HD6
  all_goals go_wp2_with fail
  all_goals refine (HT.out _).mono ?_
  all_goals rintro e w2 ⟨rfl, hk⟩
  all_goals have hP := ((Box.new w1 _ rfl 24 #[.int .i64 n0, .int .i64 n1, .int .i64 n2, .int .i64 n3, .int .i64 n4, .int .i64 n5, .int .i64 n6]).drew).keeps hk (fun h => h)
  all_goals have hR := ((HR1.out.alloc (.cells #[.int .i64 n0, .int .i64 n1, .int .i64 n2, .int .i64 n3, .int .i64 n4, .int .i64 n5, .int .i64 n6] 24)).drew).keeps hk (fun h => h)
  all_goals have HKe := Lib.hid (((HK1.out.alloc (.cells #[.int .i64 n0, .int .i64 n1, .int .i64 n2, .int .i64 n3, .int .i64 n4, .int .i64 n5, .int .i64 n6] 24)).drew).trans hk)
  all_goals have c0 := hP.cell 0
  all_goals have c1 := hP.cell 1
  all_goals have c2 := hP.cell 2
  all_goals have c3 := hP.cell 3
  all_goals have c4 := hP.cell 4
  all_goals have c5 := hP.cell 5
  all_goals have c6 := hP.cell 6
  all_goals simp at c0 c1 c2 c3 c4 c5 c6
  all_goals have r0 := hR.cell 0
  all_goals have r1 := hR.cell 1
  all_goals have r2 := hR.cell 2
  all_goals have r3 := hR.cell 3
  all_goals have r4 := hR.cell 4
  all_goals have r5 := hR.cell 5
  all_goals have r6 := hR.cell 6
  all_goals simp at r0 r1 r2 r3 r4 r5 r6
  all_goals have f0 := hR.frozen 0
  all_goals have f1 := hR.frozen 1
  all_goals have f2 := hR.frozen 2
  all_goals have f3 := hR.frozen 3
  all_goals have f4 := hR.frozen 4
  all_goals have f5 := hR.frozen 5
  all_goals have f6 := hR.frozen 6
  all_goals have zz := hR.lt
  all_goals clear hk hP hR HT HS
  all_goals by_cases hol : o = l
  all_goals try subst hol
  all_goals first
    | (have hne : (o != l) = true := (by simpa using hol)
       have hnd : (o == l) = false := (by simpa using hol)
       have HN : Hid (∀ s k f t m u v, ¬ Reads l s k f t m u v) := Lib.hid (fun s k f t m u v hh => sr_no1 (HRD.out _ _ _ _ _ _ _ hh) HO.out hh hol)
       have HX := Lib.hid hol
       clear hol
       go_wp2
       all_goals first
         | exact absurd rfl HX.out
         | exact absurd (by assumption) HX.out
         | (refine bodyPost_ret (v := .tuple #[.agg #[.int .i64 0, .int .i64 0, .int .i64 0, .int .i64 0, .int .i64 0, .int .i64 0, .int .i64 0], .bool false]) (by simp [results, Tryd.results18, go_sem, r0, r1, r2, r3, r4, r5, r6, zz]) rfl (.inl ⟨HN.out, rfl, ?_⟩)
            (repeat (first | with_reducible exact HKe.out | with_reducible refine Keeps.drew ?_ | with_reducible refine Keeps.setCell ?_ (.inl (Nat.le_refl _)) _))))
    | (by_cases hem : o = []
       · have i1 : o.isEmpty = true := (by simpa using hem)
         have HN : Hid (∀ s k f t m u v, ¬ Reads o s k f t m u v) := Lib.hid (fun s k f t m u v hh => txt_ne _ _ _ _ _ _ _ hh.1 (hh.2.trans hem))
         have HX := Lib.hid hem
         clear hem
         go_wp2
         all_goals first
           | exact absurd HX.out (by assumption)
           | (refine bodyPost_ret (v := .tuple #[.agg #[.int .i64 0, .int .i64 0, .int .i64 0, .int .i64 0, .int .i64 0, .int .i64 0, .int .i64 0], .bool false]) (by simp [results, Tryd.results18, go_sem, r0, r1, r2, r3, r4, r5, r6, zz]) rfl (.inl ⟨HN.out, rfl, ?_⟩)
              (repeat (first | with_reducible exact HKe.out | with_reducible refine Keeps.drew ?_ | with_reducible refine Keeps.setCell ?_ (.inl (Nat.le_refl _)) _)))
       · have i1 : o.isEmpty = false := (by simpa using hem)
         have HY : Hid (Reads o n0 n1 n2 n3 n4 n5 n6) := Lib.hid (sr_yes HO.out hem)
         have HX := Lib.hid hem
         clear hem
         go_wp2
         all_goals first
           | exact absurd rfl HX.out
           | exact absurd (by assumption) HX.out
           | (refine bodyPost_ret (v := .tuple #[.agg #[.int .i64 n0, .int .i64 n1, .int .i64 n2, .int .i64 n3, .int .i64 n4, .int .i64 n5, .int .i64 n6], .bool true]) (by simp [results, Tryd.results18, go_sem, r0, r1, r2, r3, r4, r5, r6, zz]) rfl (.inr ⟨n0, n1, n2, n3, n4, n5, n6, HY.out, rfl, ?_⟩)
              (repeat (first | with_reducible exact HKe.out | with_reducible refine Keeps.drew ?_ | with_reducible refine Keeps.setCell ?_ (.inl (Nat.le_refl _)) _))))

theorem specRead_any (l : List UInt8) (w : World) : Calls Tryd.prog 18 #[.string ⟨l.toArray⟩] w (RetPR w l) := by
  by_cases h24 : l.length ≤ 24
  · by_cases h7 : (cutL l).length = 7
    · match hc : cutL l, h7 with
      | [x0, x1, x2, x3, x4, x5, x6], _ => exact sr_main l h24 x0 x1 x2 x3 x4 x5 x6 hc w
    · exact sr_count l h24 h7 w
  · exact sr_long l (by omega) w
end Go.Proofs.YtjbllfnfnkghgaaDoor
