/- stateCopy of the program: a state anew. WayDo of the program and of the model. The two tables read as the program's text lays them. WayDo of the program and of the model. The two tables read as the program's text lays them. WayDo of the program and of the model. The two tables read as the program's text lays them. -/
import Derived.Test.YtjcbeihoeanhaaaDoorUIWyB
import Derived.Test.YtjcbeihoeanhaaaDoorUEM
set_option maxRecDepth 100000
set_option maxHeartbeats 4000000
set_option linter.unusedVariables false
set_option linter.unusedSimpArgs false
/-! ICopy -/
namespace Go.Proofs.YtjcbeihoeanhaaaDoor
open Go.RowKit

theorem wpList_copyN {P : Program} (W : World) {ops : Array Oper} {rest : List Oper} {o : Oper} {a : Act} {Q : Exit → Act → World → Prop}
  (hg : o.guard = none) (s x : Operand) (t : TypeId) (hop : o.op = Op.call { callee := Callee.builtin Builtin.append, args := #[s, x], argTypes := #[t, t] })
  (e : TypeId) (z : Value) (size bytes : Nat) (h1 : P.underlying t = some (.slice e)) (hinfo : (P.info? e).map (fun i => (i.zero, i.size, i.bytes)) = some (some z, size, bytes)) (h6 : z.cells.size = size) (h7 : 0 < size)
  (hs : a.eval s = .slice none 0 0) (A : Option Addr) (m c : Nat) (news : List Value) (hx : a.eval x = .slice A m c) (hA : A = none → m = 0) (hl : news.length = m * size)
  (hnews : ∀ ad, A = some ad → ∀ (j : Nat) u, news[j]? = some u → W.cell? (ad.add j) = some u) (hone : ∀ u ∈ news, u.oneCell' = true) (b1 : m ≤ maxLen) (b2 : m * bytes ≤ 140737488355328)
  (hK : ∀ A' c' w', w'.ownsRow 0 e size (.slice A' m c') m news → Keeps noBlk W w' → (∀ g, (Value.slice A' m c').ownBlock = some g → W.heap.size ≤ g) → wpList P ops Q rest (a.put o.dst (.slice A' m c')) w') :
  wpList P ops Q (o :: rest) a W := by
 have hlit : W.ownsRow 0 e size (.slice none 0 0) 0 [] := World.ownsRow_nil W _ e size
 refine wpList_app (P := P) _ hg s x t hop e z size bytes h1 hinfo h6 h7 (.slice none 0 0) 0 [] hs hlit A m c news hx hA hl hnews hone (by omega) (by rw [Nat.zero_add]; exact b2) fun v' w' ho hgr hf => ?_
 rw [Nat.zero_add, List.nil_append] at ho
 obtain ⟨A', c', rfl⟩ : ∃ A c, v' = .slice A m c := by
  rcases ho.2 with ⟨rfl, rfl⟩ | ⟨g, cap, cur, rfl, _⟩
  ·exact ⟨none, 0, rfl⟩
  ·exact ⟨_, cap, rfl⟩
 refine hK A' c' w' ho ((Keeps.refl noBlk W).then (Keeps.of_grown hgr) fun i hi h => ?_) fun g hg' => ?_
 ·simp [Value.ownBlock] at h
 ·rcases hf g hg' with h | h
  ·simp [Value.ownBlock] at h
  ·exact h

theorem blk_own {A : Option Addr} {n c b : Nat} (h : blk A n b) : (Value.slice A n c).ownBlock = some b := by
 obtain ⟨_, a, rfl, rfl⟩ := h
 rfl
section
variable {w : World} {lo : Nat} {e : TypeId} {A : Option Addr} {c : Nat}
theorem prow_own {xs : List Pk} (h : w.ownsRow 0 e 7 (.slice A xs.length c) xs.length (vPs xs)) (hf : ∀ g, (Value.slice A xs.length c).ownBlock = some g → lo ≤ g) : PRow w lo A xs.length xs := by
 refine ⟨owns_pks h, fun hn => ?_⟩; obtain ⟨_, h1, h2⟩ := owns_cells h
 cases A with
 | none => have := (h1 rfl).1; omega
 | some a =>
  obtain ⟨g, rfl, _, _, hz⟩ := h2 a rfl; exact ⟨g, 0, rfl, hf g rfl, fun j _ => hz j⟩
theorem brow_own {xs : List Bool} (h : w.ownsRow 0 e 1 (.slice A xs.length c) xs.length (vBs xs)) (hf : ∀ g, (Value.slice A xs.length c).ownBlock = some g → lo ≤ g) : BRow w lo A xs.length xs := by
 refine ⟨owns_bools h, fun hn => ?_⟩; obtain ⟨_, h1, h2⟩ := owns_cells h
 cases A with
 | none => have := (h1 rfl).1; omega
 | some a =>
  obtain ⟨g, rfl, _, _, hz⟩ := h2 a rfl; exact ⟨g, 0, rfl, hf g rfl, fun j _ => hz j⟩
theorem irow_own {xs : List Int} (h : w.ownsRow 0 e 1 (.slice A xs.length c) xs.length (vIs xs)) (hf : ∀ g, (Value.slice A xs.length c).ownBlock = some g → lo ≤ g) : Row w lo A xs.length xs := by
 refine ⟨owns_ints h, fun hn => ?_⟩; obtain ⟨_, h1, h2⟩ := owns_cells h
 cases A with
 | none => have := (h1 rfl).1; omega
 | some a =>
  obtain ⟨g, rfl, _, _, hz⟩ := h2 a rfl; exact ⟨g, 0, rfl, hf g rfl, fun j _ => hz j⟩
end
def RetCopyO (w : World) (x : StL) (e : Ending) (w' : World) : Prop :=
 ∃ s : StM, e = .returned s.val ∧ s.x = x ∧ Keeps noBlk w w' ∧ (∀ G ρ : Nat → Nat, ∃ G' : Nat → Nat, (∀ b, b < w.heap.size → G' b = G b) ∧ StR G' ρ w' s) ∧ StOwn w' w.heap.size s.x s.A1 s.A2 s.A3 s.A4
theorem implCopy_any (x : StL) (A1 A2 A3 A4 : Option Addr) (c1 c2 c3 c4 : Nat) (w : World) (hx : StAt w x A1 A2 A3 A4) (n1 : x.sent.length ≤ 1048576) (n2 : x.live.length ≤ 1048576) (n3 : x.back.length ≤ 1048576) (n4 : x.got.length ≤ 1048576) :
  Calls Tryd.prog 60 #[stV x A1 A2 A3 A4 c1 c2 c3 c4] w (RetCopyO w x) := by
 have HX := hH hx; clear hx; have HBs0 := hH ((Box.new w _ rfl 27 (stC x A1 A2 A3 A4 c1 c2 c3 c4)).alloc (.cells zCS 27)); have HZs0 := hH (Box.new (w.alloc (.cells (stC x A1 A2 A3 A4 c1 c2 c3 c4) 27)) (w.heap.size + 1) (by simp) 27 zCS); have HKs0 := hH (((Keeps.refl noBlk w).alloc (.cells (stC x A1 A2 A3 A4 c1 c2 c3 c4) 27)).alloc (.cells zCS 27))
 have hs0 : w.heap.size + 2 ≤ ((w.alloc (.cells (stC x A1 A2 A3 A4 c1 c2 c3 c4) 27)).alloc (.cells zCS 27)).heap.size := by simp
 have hb0 := HBs0.out; have a3 := hb0.cell 3; simp at a3; clear hb0; unfold stV
 go_enter Tryd.func60, Tryd.ntmps60
 go_wp2_with (at_builtin; refine wpList_copyN _ rfl _ _ 23 rfl 29 (.agg zC7) 7 56 Tryd.underlying23 info_pk rfl (by decide) rfl A1 x.sent.length c1 (vPs x.sent) rfl ?qa ?qb ?qc ?qd ?qe ?qf ?_)
 case qa => exact pks_none HX.out.1.1
 case qb => first | exact vPs_length _ | (rw [vPs_length]; omega)
 case qc => exact pks_news (HX.out.kept HKs0.out).1.1
 case qd => exact one_pks
 case qe => unfold maxLen; omega
 case qf => omega
 intro B1 d1 w1 ho1 hk1 hf1
 have hb := HBs0.out.keeps hk1 fun h => h
 have hz := HZs0.out.keeps hk1 fun h => h
 have HKa1 := hH (HKs0.out.trans hk1); have s1 := Nat.le_trans hs0 hk1.size
 have lo1 : ∀ b, (Value.slice B1 x.sent.length d1).ownBlock = some b → w.heap.size + 2 ≤ b := fun b h => by have := hf1 b h; (try simp at this); omega
 have HR1_1 := hH ho1
 have hi1 : ∀ b, (Value.slice B1 x.sent.length d1).ownBlock = some b → b < w1.heap.size := fun b h => (ho1.lt b h).2
 have f3 := hb.frozen 3; have c := hb.cell 3; simp at c; have hb2 := hb.set_ 3 (.slice B1 x.sent.length d1); simp only [sx] at hb2; have HBs1 := hH hb2; have HZs1 := hH (hz.far (p := ⟨w.heap.size, 3, none⟩) (by dsimp only; omega) (.slice B1 x.sent.length d1)); have HKs1 := hH (HKa1.out.new (g := w.heap.size) (Nat.le_refl _) 3 (.slice B1 x.sent.length d1)); have HR1_1s := hH (owns_keeps (S := one w.heap.size) HR1_1.out ((Keeps.refl (one w.heap.size) w1).set1 3 (.slice B1 x.sent.length d1)) fun b h h' => by have := lo1 b h; unfold one at h'; omega); have a4 := hb.cell 4; simp at a4
 have g1 : w.heap.size < (w1.setCell ⟨w.heap.size, 3, none⟩ (.slice B1 x.sent.length d1)).heap.size := by rw [World.size_setCell]; omega
 have gg1 : w.heap.size < w1.heap.size := by omega
 have gz1 : w.heap.size + 1 < w1.heap.size := by omega
 clear hb hz hb2 ho1 hk1 hf1
 go_wp2_with (at_builtin; refine wpList_copyN _ rfl _ _ 24 rfl 4 (.bool false) 1 1 Tryd.underlying24 info_bool rfl (by decide) rfl A2 x.live.length c2 (vBs x.live) rfl ?qa ?qb ?qc ?qd ?qe ?qf ?_)
 case qa => exact bools_none HX.out.1.2.1
 case qb => first | exact vBs_length _ | (rw [vBs_length]; omega)
 case qc => exact bools_news (HX.out.kept HKs1.out).1.2.1
 case qd => exact one_bools
 case qe => unfold maxLen; omega
 case qf => omega
 intro B2 d2 w2 ho2 hk2 hf2
 have hb := HBs1.out.keeps hk2 fun h => h
 have hz := HZs1.out.keeps hk2 fun h => h
 have HKa2 := hH (HKs1.out.trans hk2); have s2 := hk2.size
 (try rw [World.size_setCell] at s2)
 (try simp only [World.size_setCell] at hf2)
 have lo2 : ∀ b, (Value.slice B2 x.live.length d2).ownBlock = some b → w1.heap.size ≤ b := hf2; have HR1_2 := hH (owns_keeps HR1_1s.out hk2 fun _ _ h => h); have HR2_2 := hH ho2
 have hi2 : ∀ b, (Value.slice B2 x.live.length d2).ownBlock = some b → b < w2.heap.size := fun b h => (ho2.lt b h).2
 have f4 := hb.frozen 4; have c := hb.cell 4; simp at c; have hb2 := hb.set_ 4 (.slice B2 x.live.length d2); simp only [sx] at hb2; have HBs2 := hH hb2; have HZs2 := hH (hz.far (p := ⟨w.heap.size, 4, none⟩) (by dsimp only; omega) (.slice B2 x.live.length d2)); have HKs2 := hH (HKa2.out.new (g := w.heap.size) (Nat.le_refl _) 4 (.slice B2 x.live.length d2)); have HR1_2s := hH (owns_keeps (S := one w.heap.size) HR1_2.out ((Keeps.refl (one w.heap.size) w2).set1 4 (.slice B2 x.live.length d2)) fun b h h' => by have := lo1 b h; unfold one at h'; omega); have HR2_2s := hH (owns_keeps (S := one w.heap.size) HR2_2.out ((Keeps.refl (one w.heap.size) w2).set1 4 (.slice B2 x.live.length d2)) fun b h h' => by have := lo2 b h; unfold one at h'; omega); have a5 := hb.cell 5; simp at a5
 have g2 : w.heap.size < (w2.setCell ⟨w.heap.size, 4, none⟩ (.slice B2 x.live.length d2)).heap.size := by rw [World.size_setCell]; omega
 have gg2 : w.heap.size < w2.heap.size := by omega
 have gz2 : w.heap.size + 1 < w2.heap.size := by omega
 clear hb hz hb2 ho2 hk2 hf2
 go_wp2_with (at_builtin; refine wpList_copyN _ rfl _ _ 24 rfl 4 (.bool false) 1 1 Tryd.underlying24 info_bool rfl (by decide) rfl A3 x.back.length c3 (vBs x.back) rfl ?qa ?qb ?qc ?qd ?qe ?qf ?_)
 case qa => exact bools_none HX.out.1.2.2.1
 case qb => first | exact vBs_length _ | (rw [vBs_length]; omega)
 case qc => exact bools_news (HX.out.kept HKs2.out).1.2.2.1
 case qd => exact one_bools
 case qe => unfold maxLen; omega
 case qf => omega
 intro B3 d3 w3 ho3 hk3 hf3
 have hb := HBs2.out.keeps hk3 fun h => h
 have hz := HZs2.out.keeps hk3 fun h => h
 have HKa3 := hH (HKs2.out.trans hk3); have s3 := hk3.size
 (try rw [World.size_setCell] at s3)
 (try simp only [World.size_setCell] at hf3)
 have lo3 : ∀ b, (Value.slice B3 x.back.length d3).ownBlock = some b → w2.heap.size ≤ b := hf3; have HR1_3 := hH (owns_keeps HR1_2s.out hk3 fun _ _ h => h); have HR2_3 := hH (owns_keeps HR2_2s.out hk3 fun _ _ h => h); have HR3_3 := hH ho3
 have hi3 : ∀ b, (Value.slice B3 x.back.length d3).ownBlock = some b → b < w3.heap.size := fun b h => (ho3.lt b h).2
 have f5 := hb.frozen 5; have c := hb.cell 5; simp at c; have hb2 := hb.set_ 5 (.slice B3 x.back.length d3); simp only [sx] at hb2; have HBs3 := hH hb2; have HZs3 := hH (hz.far (p := ⟨w.heap.size, 5, none⟩) (by dsimp only; omega) (.slice B3 x.back.length d3)); have HKs3 := hH (HKa3.out.new (g := w.heap.size) (Nat.le_refl _) 5 (.slice B3 x.back.length d3)); have HR1_3s := hH (owns_keeps (S := one w.heap.size) HR1_3.out ((Keeps.refl (one w.heap.size) w3).set1 5 (.slice B3 x.back.length d3)) fun b h h' => by have := lo1 b h; unfold one at h'; omega); have HR2_3s := hH (owns_keeps (S := one w.heap.size) HR2_3.out ((Keeps.refl (one w.heap.size) w3).set1 5 (.slice B3 x.back.length d3)) fun b h h' => by have := lo2 b h; unfold one at h'; omega); have HR3_3s := hH (owns_keeps (S := one w.heap.size) HR3_3.out ((Keeps.refl (one w.heap.size) w3).set1 5 (.slice B3 x.back.length d3)) fun b h h' => by have := lo3 b h; unfold one at h'; omega); have a6 := hb.cell 6; simp at a6
 have g3 : w.heap.size < (w3.setCell ⟨w.heap.size, 5, none⟩ (.slice B3 x.back.length d3)).heap.size := by rw [World.size_setCell]; omega
 have gg3 : w.heap.size < w3.heap.size := by omega
 have gz3 : w.heap.size + 1 < w3.heap.size := by omega
 clear hb hz hb2 ho3 hk3 hf3
 go_wp2_with (at_builtin; refine wpList_copyN _ rfl _ _ 25 rfl 3 (.int .i64 0) 1 8 Tryd.underlying25 info_int3 rfl (by decide) rfl A4 x.got.length c4 (vIs x.got) rfl ?qa ?qb ?qc ?qd ?qe ?qf ?_)
 case qa => exact ints_none HX.out.1.2.2.2
 case qb => first | exact vIs_length _ | (rw [vIs_length]; omega)
 case qc => exact ints_news (HX.out.kept HKs3.out).1.2.2.2
 case qd => exact one_ints
 case qe => unfold maxLen; omega
 case qf => omega
 intro B4 d4 w4 ho4 hk4 hf4
 have hb := HBs3.out.keeps hk4 fun h => h
 have hz := HZs3.out.keeps hk4 fun h => h
 have HKa4 := hH (HKs3.out.trans hk4); have s4 := hk4.size
 (try rw [World.size_setCell] at s4)
 (try simp only [World.size_setCell] at hf4)
 have lo4 : ∀ b, (Value.slice B4 x.got.length d4).ownBlock = some b → w3.heap.size ≤ b := hf4; have HR1_4 := hH (owns_keeps HR1_3s.out hk4 fun _ _ h => h); have HR2_4 := hH (owns_keeps HR2_3s.out hk4 fun _ _ h => h); have HR3_4 := hH (owns_keeps HR3_3s.out hk4 fun _ _ h => h); have HR4_4 := hH ho4
 have hi4 : ∀ b, (Value.slice B4 x.got.length d4).ownBlock = some b → b < w4.heap.size := fun b h => (ho4.lt b h).2
 have f6 := hb.frozen 6; have c := hb.cell 6; simp at c; have hb2 := hb.set_ 6 (.slice B4 x.got.length d4); simp only [sx] at hb2; have HBs4 := hH hb2; have HZs4 := hH (hz.far (p := ⟨w.heap.size, 6, none⟩) (by dsimp only; omega) (.slice B4 x.got.length d4)); have HKs4 := hH (HKa4.out.new (g := w.heap.size) (Nat.le_refl _) 6 (.slice B4 x.got.length d4)); have HR1_4s := hH (owns_keeps (S := one w.heap.size) HR1_4.out ((Keeps.refl (one w.heap.size) w4).set1 6 (.slice B4 x.got.length d4)) fun b h h' => by have := lo1 b h; unfold one at h'; omega); have HR2_4s := hH (owns_keeps (S := one w.heap.size) HR2_4.out ((Keeps.refl (one w.heap.size) w4).set1 6 (.slice B4 x.got.length d4)) fun b h h' => by have := lo2 b h; unfold one at h'; omega); have HR3_4s := hH (owns_keeps (S := one w.heap.size) HR3_4.out ((Keeps.refl (one w.heap.size) w4).set1 6 (.slice B4 x.got.length d4)) fun b h h' => by have := lo3 b h; unfold one at h'; omega); have HR4_4s := hH (owns_keeps (S := one w.heap.size) HR4_4.out ((Keeps.refl (one w.heap.size) w4).set1 6 (.slice B4 x.got.length d4)) fun b h h' => by have := lo4 b h; unfold one at h'; omega); have a0 := hb.cell 0; have z0 := hz.cell 0; have y0 := hz.frozen 0; have a1 := hb.cell 1; have z1 := hz.cell 1; have y1 := hz.frozen 1; have a2 := hb.cell 2; have z2 := hz.cell 2; have y2 := hz.frozen 2; have a3 := hb.cell 3; have z3 := hz.cell 3; have y3 := hz.frozen 3; have a4 := hb.cell 4; have z4 := hz.cell 4; have y4 := hz.frozen 4; have a5 := hb.cell 5; have z5 := hz.cell 5; have y5 := hz.frozen 5; have a6 := hb.cell 6; have z6 := hz.cell 6; have y6 := hz.frozen 6; simp at a0 z0 a1 z1 a2 z2 a3 z3 a4 z4 a5 z5 a6 z6
 have g4 : w.heap.size < (w4.setCell ⟨w.heap.size, 6, none⟩ (.slice B4 x.got.length d4)).heap.size := by rw [World.size_setCell]; omega
 have gg4 : w.heap.size < w4.heap.size := by omega
 have gz4 : w.heap.size + 1 < w4.heap.size := by omega
 clear hb hz hb2 ho4 hk4 hf4; go_wp2
 have hne : ∀ b, b = w.heap.size + 1 → ∀ (P : Prop), (w.heap.size + 2 ≤ b) → P := fun b h P h' => by omega
 refine bodyPost_ret (v := .agg (stC x B1 B2 B3 B4 d1 d2 d3 d4)) (by simp [results, Tryd.results60, go_sem, *]) rfl ?_; refine ⟨⟨x, B1, B2, B3, B4, d1, d2, d3, d4⟩, rfl, rfl, ?_, fun G ρ => ⟨up (up (up (up G w.heap.size (ρ 0)) w1.heap.size (ρ 1)) w2.heap.size (ρ 2)) w3.heap.size (ρ 3), fun b hb => ?_, ?_⟩, ?_⟩
 ·exact HKs4.out.new7 (g := w.heap.size + 1) (by omega)
 ·rw [up_old (by omega), up_old (by omega), up_old (by omega), up_old hb]
 ·have K7 := ((((((((Keeps.refl (one (w.heap.size + 1)) (w4.setCell ⟨w.heap.size, 6, none⟩ (.slice B4 x.got.length d4))).set1 0 (.int .i64 x.way)).set1 1 (.int .i64 x.ver)).set1 2 (.int .i64 x.want)).set1 3 (.slice B1 x.sent.length d1)).set1 4 (.slice B2 x.live.length d2)).set1 5 (.slice B3 x.back.length d3)).set1 6 (.slice B4 x.got.length d4))
  refine ⟨⟨owns_keeps HR1_4s.out K7 fun b h h' => ?_, fun b h => ?_⟩, ⟨owns_keeps HR2_4s.out K7 fun b h h' => ?_, fun b h => ?_⟩, ⟨owns_keeps HR3_4s.out K7 fun b h h' => ?_, fun b h => ?_⟩, ⟨owns_keeps HR4_4s.out K7 fun b h h' => ?_, fun b h => ?_⟩⟩
  ·have := lo1 b h; unfold one at h'; omega
  ·have := lo1 b h; have := hi1 b h
   rw [up_old (by omega), up_old (by omega), up_old (by omega), up_new (by omega)]
  ·have := lo2 b h; unfold one at h'; omega
  ·have := lo2 b h; have := hi2 b h
   rw [up_old (by omega), up_old (by omega), up_new (by omega)]
  ·have := lo3 b h; unfold one at h'; omega
  ·have := lo3 b h; have := hi3 b h
   rw [up_old (by omega), up_new (by omega)]
  ·have := lo4 b h; unfold one at h'; omega
  ·have := lo4 b h; have := hi4 b h
   rw [up_new (by omega)]
 ·have K7 := ((((((((Keeps.refl (one (w.heap.size + 1)) (w4.setCell ⟨w.heap.size, 6, none⟩ (.slice B4 x.got.length d4))).set1 0 (.int .i64 x.way)).set1 1 (.int .i64 x.ver)).set1 2 (.int .i64 x.want)).set1 3 (.slice B1 x.sent.length d1)).set1 4 (.slice B2 x.live.length d2)).set1 5 (.slice B3 x.back.length d3)).set1 6 (.slice B4 x.got.length d4))
  exact ⟨w1.heap.size, w2.heap.size, w3.heap.size, ⟨prow_own (owns_keeps HR1_4s.out K7 fun b h h' => by have := lo1 b h; unfold one at h'; omega) (fun g h => by have := lo1 g h; omega), brow_own (owns_keeps HR2_4s.out K7 fun b h h' => by have := lo2 b h; unfold one at h'; omega) (fun g h => by have := lo2 g h; omega), brow_own (owns_keeps HR3_4s.out K7 fun b h h' => by have := lo3 b h; unfold one at h'; omega) (fun g h => by have := lo3 g h; omega), irow_own (owns_keeps HR4_4s.out K7 fun b h h' => by have := lo4 b h; unfold one at h'; omega) (fun g h => by have := lo4 g h; omega)⟩,
   fun i h => hi1 i (blk_own h), fun i h => hi2 i (blk_own h), fun i h => hi3 i (blk_own h), by omega, by omega, by omega⟩
end Go.Proofs.YtjcbeihoeanhaaaDoor

/-! IDoH -/
namespace Go.Proofs.YtjcbeihoeanhaaaDoor
open Go.RowKit

theorem do_end {w w2 w3 w4 WF : World} {s : StM} (hst : ∀ G ρ : Nat → Nat, ∃ G' : Nat → Nat, (∀ b, b < w2.heap.size → G' b = G b) ∧ StR G' ρ w3 s) (hk4 : Keeps noBlk w3 w4) (hK : Keeps (fun b => w.heap.size ≤ b ∧ b < w2.heap.size) w4 WF) (hw : w.heap.size ≤ w2.heap.size) :
  ∀ G ρ : Nat → Nat, ∃ G' : Nat → Nat, (∀ b, b < w.heap.size → G' b = G b) ∧ StR G' ρ WF s := by
 intro G ρ; obtain ⟨G', hG, hS⟩ := hst (up G w.heap.size (ρ 0 + ρ 1 + ρ 2 + ρ 3 + 1)) ρ; refine ⟨G', fun b hb => (hG b (by omega)).trans (up_old hb), (hS.kept hk4).keeps hK fun b k hk e e' => ?_⟩; rw [hG b e'.2, up_new e'.1] at e
 match k, hk with
 | 0, _ => omega
 | 1, _ => omega
 | 2, _ => omega
 | 3, _ => omega
def RetDoO (w : World) (z : StL) (e : Ending) (w' : World) : Prop :=
 ∃ s : StM, e = .returned (.tuple #[s.val, .bool true]) ∧ s.x = z ∧ Keeps noBlk w w' ∧ (∀ G ρ : Nat → Nat, ∃ G' : Nat → Nat, (∀ b, b < w.heap.size → G' b = G b) ∧ StR G' ρ w' s) ∧ StOwn w' w.heap.size s.x s.A1 s.A2 s.A3 s.A4
theorem StOwn.less {w : World} {lo lo' : Nat} {x : StL} {A1 A2 A3 A4 : Option Addr} (h : StOwn w lo x A1 A2 A3 A4) (hl : lo' ≤ lo) : StOwn w lo' x A1 A2 A3 A4 := by
 obtain ⟨s1, s2, s3, ⟨h1, h2⟩, a, b, c, d, r⟩ := h; exact ⟨s1, s2, s3, ⟨h1.less hl, h2⟩, a, b, c, Nat.le_trans hl d, r⟩
theorem do_own {w w2 w3 w4 WF : World} {x : StL} {A1 A2 A3 A4 : Option Addr} (h : StOwn w3 w2.heap.size x A1 A2 A3 A4) (hk4 : Keeps noBlk w3 w4) (hK : Keeps (fun b => w.heap.size ≤ b ∧ b < w2.heap.size) w4 WF) (hw : w.heap.size ≤ w2.heap.size) : StOwn WF w.heap.size x A1 A2 A3 A4 :=
 ((h.kept hk4).keeps hK fun b hb e => by have := h.ge hb; omega).less hw
theorem implDo_1 (x y : StL) (A1 A2 A3 A4 B1 B2 B3 B4 : Option Addr) (c1 c2 c3 c4 d1 d2 d3 d4 : Nat) (w : World) (hx : StAt w x A1 A2 A3 A4) (hy : StAt w y B1 B2 B3 B4) (ht : Tabs w) (hm : wmayB x y 1 = true) :
  Calls Tryd.prog 40 #[stV x A1 A2 A3 A4 c1 c2 c3 c4, stV y B1 B2 B3 B4 d1 d2 d3 d4, .int .i64 1] w (RetDoO w (doSt x y 1)) := by
 have HX := hH hx; have HY := hH hy; have HT := hH ht; have HBx := hH (((Box.new w _ rfl 27 (stC x A1 A2 A3 A4 c1 c2 c3 c4)).alloc (.cells (stC y B1 B2 B3 B4 d1 d2 d3 d4) 27)).alloc (.cells zCS 27)); have HBy := hH ((Box.new (w.alloc (.cells (stC x A1 A2 A3 A4 c1 c2 c3 c4) 27)) (w.heap.size + 1) (by simp) 27 (stC y B1 B2 B3 B4 d1 d2 d3 d4)).alloc (.cells zCS 27)); have HBz := hH (Box.new ((w.alloc (.cells (stC x A1 A2 A3 A4 c1 c2 c3 c4) 27)).alloc (.cells (stC y B1 B2 B3 B4 d1 d2 d3 d4) 27)) (w.heap.size + 1 + 1) (by simp) 27 zCS); have HK := hH ((((Keeps.refl noBlk w).alloc (.cells (stC x A1 A2 A3 A4 c1 c2 c3 c4) 27)).alloc (.cells (stC y B1 B2 B3 B4 d1 d2 d3 d4) 27)).alloc (.cells zCS 27))
 have hz0 : w.heap.size + 3 ≤ (((w.alloc (.cells (stC x A1 A2 A3 A4 c1 c2 c3 c4) 27)).alloc (.cells (stC y B1 B2 B3 B4 d1 d2 d3 d4) 27)).alloc (.cells zCS 27)).heap.size := by simp
 have HV := hH (stB_parts (show stB x = true by simp only [wmayB, Bool.and_eq_true] at hm; exact hm.1.1)).2.1
 have HN8 := hH (show x.sent.length ≤ 1048576 ∧ x.live.length ≤ 1048576 ∧ x.back.length ≤ 1048576 ∧ x.got.length ≤ 1048576 by
  have k := stB_ok (show stB x = true by simp only [wmayB, Bool.and_eq_true] at hm; exact hm.1.1); have := k.2.1.small; have := k.2.2.1.1; have := k.2.2.1.2.1; have := k.2.2.2.1
  exact ⟨by omega, by omega, by omega, by omega⟩)
 clear hx hy ht; have HE := hH (show doSt x y 1 = ⟨1, x.ver, x.want, x.sent, x.live, x.back, x.got⟩ by simp [doSt]); have HM := hH (fun W h h' hT => (show Calls Tryd.prog 35 #[stV x A1 A2 A3 A4 c1 c2 c3 c4, stV y B1 B2 B3 B4 d1 d2 d3 d4, .int .i64 1] W (fun e w' => e = .returned (.bool true) ∧ Keeps noBlk W w') from by rw [← hm]; exact implMay_any x y A1 A2 A3 A4 B1 B2 B3 B4 c1 c2 c3 c4 d1 d2 d3 d4 1 W h h' hT)); have HCO := hH (fun W h => implCopy_any x A1 A2 A3 A4 c1 c2 c3 c4 W h HN8.out.1 HN8.out.2.1 HN8.out.2.2.1 HN8.out.2.2.2); have HDO := hH (fun W P1 P2 P3 P4 e1 e2 e3 e4 => impl_begun x P1 P2 P3 P4 e1 e2 e3 e4 W HV.out); clear hm; unfold stV at HM HCO HDO ⊢
 go_enter Tryd.func40, Tryd.ntmps40
 go_wp2_with fail; refine (impl_stepAt_1 _).mono ?_; rintro e w1 ⟨rfl, hk1⟩; replace HBx := hH (HBx.out.keeps hk1 (fun h => h)); replace HBy := hH (HBy.out.keeps hk1 (fun h => h)); replace HBz := hH (HBz.out.keeps hk1 (fun h => h)); replace HK := hH (HK.out.trans hk1); have sz1 := hk1.size
 (try simp at sz1)
 clear hk1; have hb := HBx.out; obtain ⟨x0, x1, x2, x3, x4, x5, x6⟩ := hb.cells7; have zx := hb.lt; clear hb; have hb := HBy.out; obtain ⟨y0, y1, y2, y3, y4, y5, y6⟩ := hb.cells7; have zy := hb.lt; clear hb; replace HBx := hH (HBx.out.alloc (.cells #[.func (.func 64) #[] #[], .func (.func 65) #[] #[]] 75)); replace HBy := hH (HBy.out.alloc (.cells #[.func (.func 64) #[] #[], .func (.func 65) #[] #[]] 75)); replace HBz := hH (HBz.out.alloc (.cells #[.func (.func 64) #[] #[], .func (.func 65) #[] #[]] 75)); replace HK := hH (HK.out.alloc (.cells #[.func (.func 64) #[] #[], .func (.func 65) #[] #[]] 75)); have HBr := hH (Box.new w1 _ rfl 75 #[.func (.func 64) #[] #[], .func (.func 65) #[] #[]]); go_wp2_with fail; refine (HM.out _ (HX.out.kept HK.out) (HY.out.kept HK.out) (HT.out.keeps HK.out)).mono ?_; rintro e w2 ⟨rfl, hk2⟩; clear x0 x1 x2 x3 x4 x5 x6 y0 y1 y2 y3 y4 y5 y6 zx zy; replace HBx := hH (HBx.out.keeps hk2 (fun h => h)); replace HBy := hH (HBy.out.keeps hk2 (fun h => h)); replace HBz := hH (HBz.out.keeps hk2 (fun h => h)); replace HBr := hH (HBr.out.keeps hk2 (fun h => h)); replace HK := hH (HK.out.trans hk2); have sz2 := hk2.size
 (try simp at sz2)
 clear hk2; have hb := HBx.out; obtain ⟨x0, x1, x2, x3, x4, x5, x6⟩ := hb.cells7; have zx := hb.lt; clear hb; have hb := HBr.out; obtain ⟨r0, r1⟩ := hb.cells2; have zr := hb.lt; clear hb
 have : ¬ w1.heap.size = w.heap.size + 1 + 1 := by omega
 have : ¬ w.heap.size + 1 + 1 = w1.heap.size := by omega
 have : ¬ w.heap.size = w.heap.size + 1 + 1 := by omega
 have : ¬ w.heap.size + 1 + 1 = w.heap.size := by omega
 go_wp2_with fail
 go_region_held3 (fun w' => w'.cell? ⟨w.heap.size, 0, none⟩ = some (.int .i64 x.way) ∧ w'.cell? ⟨w.heap.size, 1, none⟩ = some (.int .i64 x.ver) ∧ w'.cell? ⟨w.heap.size, 2, none⟩ = some (.int .i64 x.want) ∧ w'.cell? ⟨w.heap.size, 3, none⟩ = some (.slice A1 x.sent.length c1) ∧ w'.cell? ⟨w.heap.size, 4, none⟩ = some (.slice A2 x.live.length c2) ∧ w'.cell? ⟨w.heap.size, 5, none⟩ = some (.slice A3 x.back.length c3) ∧ w'.cell? ⟨w.heap.size, 6, none⟩ = some (.slice A4 x.got.length c4) ∧ w'.cell? ⟨w1.heap.size, 0, none⟩ = some (.func (.func 64) #[] #[]) ∧ w'.cell? ⟨w1.heap.size, 1, none⟩ = some (.func (.func 65) #[] #[]))
  (((try dsimp only); (repeat' apply And.intro) <;> (first | with_reducible assumption | (go_keep; done))))
  (first | (go_at_call 60; refine (HCO.out _ (HX.out.kept (HK.out.drewN 1))).mono ?_; rintro e w3 ⟨⟨xx, P1, P2, P3, P4, e1, e2, e3, e4⟩, rfl, hxx, hk3, hst, hso⟩; have hq := ((Keeps.refl noBlk w2).drewN 1).trans hk3; clear hk3; have hk3 := hq; clear hq; dsimp only at hxx; replace hxx := hxx.symm; subst hxx; unfold StM.val; have HST := hH hst; have HSO := hH hso; clear hst hso; clear x0 x1 x2 x3 x4 x5 x6 r0 r1 zx zr; replace HBx := hH (HBx.out.keeps hk3 (fun h => h)); replace HBy := hH (HBy.out.keeps hk3 (fun h => h)); replace HBz := hH (HBz.out.keeps hk3 (fun h => h)); replace HBr := hH (HBr.out.keeps hk3 (fun h => h)); replace HK := hH (HK.out.trans hk3); have sz3 := hk3.size; (try simp at sz3); clear hk3; have hb := HBx.out; obtain ⟨x0, x1, x2, x3, x4, x5, x6⟩ := hb.cells7; have zx := hb.lt; clear hb; have hb := HBr.out; obtain ⟨r0, r1⟩ := hb.cells2; have zr := hb.lt; clear hb; have hb := HBz.out; obtain ⟨z0, z1, z2, z3, z4, z5, z6⟩ := hb.cells7; have zz := hb.lt; clear hb) | (go_at_call 65; refine (HDO.out _ P1 P2 P3 P4 e1 e2 e3 e4).mono ?_; rintro e w4 ⟨rfl, hk4⟩; have HK4 := hH hk4; clear x0 x1 x2 x3 x4 x5 x6 r0 r1 z0 z1 z2 z3 z4 z5 z6 zx zr zz; replace HBx := hH (HBx.out.keeps hk4 (fun h => h)); replace HBy := hH (HBy.out.keeps hk4 (fun h => h)); replace HBz := hH (HBz.out.keeps hk4 (fun h => h)); replace HBr := hH (HBr.out.keeps hk4 (fun h => h)); replace HK := hH (HK.out.trans hk4); have sz4 := hk4.size; (try simp at sz4); clear hk4; have hb := HBx.out; obtain ⟨x0, x1, x2, x3, x4, x5, x6⟩ := hb.cells7; have zx := hb.lt; clear hb; have hb := HBr.out; obtain ⟨r0, r1⟩ := hb.cells2; have zr := hb.lt; clear hb; have hb := HBz.out; obtain ⟨z0, z1, z2, z3, z4, z5, z6⟩ := hb.cells7; have zz := hb.lt; clear hb; have hb := HBz.out; obtain ⟨zf0, zf1, zf2, zf3, zf4, zf5, zf6⟩ := hb.fz7; clear hb))
 go_wp2; refine bodyPost_ret (v := .tuple #[.agg #[.int .i64 (1), .int .i64 (x.ver), .int .i64 (x.want), .slice P1 x.sent.length e1, .slice P2 x.live.length e2, .slice P3 x.back.length e3, .slice P4 x.got.length e4], .bool true]) (by simp [results, Tryd.results40, go_sem, *]) rfl ?_; exact ⟨⟨⟨1, x.ver, x.want, x.sent, x.live, x.back, x.got⟩, P1, P2, P3, P4, e1, e2, e3, e4⟩, rfl, HE.out.symm, (HK.out).new7 (g := w.heap.size + 1 + 1) (by omega), do_end (w := w) (w2 := w2) (s := ⟨⟨1, x.ver, x.want, x.sent, x.live, x.back, x.got⟩, P1, P2, P3, P4, e1, e2, e3, e4⟩) HST.out HK4.out (((Keeps.refl (fun b => w.heap.size ≤ b ∧ b < w2.heap.size) w4)).put7 (w.heap.size + 1 + 1) (.inr ⟨by first | omega | (dsimp only; omega), by first | omega | (dsimp only; omega)⟩)) (by omega), do_own (w := w) (w2 := w2) (x := ⟨1, x.ver, x.want, x.sent, x.live, x.back, x.got⟩) HSO.out HK4.out (((Keeps.refl (fun b => w.heap.size ≤ b ∧ b < w2.heap.size) w4)).put7 (w.heap.size + 1 + 1) (.inr ⟨by first | omega | (dsimp only; omega), by first | omega | (dsimp only; omega)⟩)) (by omega)⟩
theorem implDo_2 (x y : StL) (A1 A2 A3 A4 B1 B2 B3 B4 : Option Addr) (c1 c2 c3 c4 d1 d2 d3 d4 : Nat) (w : World) (hx : StAt w x A1 A2 A3 A4) (hy : StAt w y B1 B2 B3 B4) (ht : Tabs w) (hm : wmayB x y 2 = true) :
  Calls Tryd.prog 40 #[stV x A1 A2 A3 A4 c1 c2 c3 c4, stV y B1 B2 B3 B4 d1 d2 d3 d4, .int .i64 2] w (RetDoO w (doSt x y 2)) := by
 have HX := hH hx; have HY := hH hy; have HT := hH ht; have HBx := hH (((Box.new w _ rfl 27 (stC x A1 A2 A3 A4 c1 c2 c3 c4)).alloc (.cells (stC y B1 B2 B3 B4 d1 d2 d3 d4) 27)).alloc (.cells zCS 27)); have HBy := hH ((Box.new (w.alloc (.cells (stC x A1 A2 A3 A4 c1 c2 c3 c4) 27)) (w.heap.size + 1) (by simp) 27 (stC y B1 B2 B3 B4 d1 d2 d3 d4)).alloc (.cells zCS 27)); have HBz := hH (Box.new ((w.alloc (.cells (stC x A1 A2 A3 A4 c1 c2 c3 c4) 27)).alloc (.cells (stC y B1 B2 B3 B4 d1 d2 d3 d4) 27)) (w.heap.size + 1 + 1) (by simp) 27 zCS); have HK := hH ((((Keeps.refl noBlk w).alloc (.cells (stC x A1 A2 A3 A4 c1 c2 c3 c4) 27)).alloc (.cells (stC y B1 B2 B3 B4 d1 d2 d3 d4) 27)).alloc (.cells zCS 27))
 have hz0 : w.heap.size + 3 ≤ (((w.alloc (.cells (stC x A1 A2 A3 A4 c1 c2 c3 c4) 27)).alloc (.cells (stC y B1 B2 B3 B4 d1 d2 d3 d4) 27)).alloc (.cells zCS 27)).heap.size := by simp
 have HV := hH (stB_parts (show stB x = true by simp only [wmayB, Bool.and_eq_true] at hm; exact hm.1.1)).2.1
 have HN8 := hH (show x.sent.length ≤ 1048576 ∧ x.live.length ≤ 1048576 ∧ x.back.length ≤ 1048576 ∧ x.got.length ≤ 1048576 by
  have k := stB_ok (show stB x = true by simp only [wmayB, Bool.and_eq_true] at hm; exact hm.1.1); have := k.2.1.small; have := k.2.2.1.1; have := k.2.2.1.2.1; have := k.2.2.2.1
  exact ⟨by omega, by omega, by omega, by omega⟩)
 clear hx hy ht; have HE := hH (show doSt x y 2 = ⟨2, x.ver, x.want, x.sent, x.live, x.back, x.got⟩ by simp [doSt]); have HM := hH (fun W h h' hT => (show Calls Tryd.prog 35 #[stV x A1 A2 A3 A4 c1 c2 c3 c4, stV y B1 B2 B3 B4 d1 d2 d3 d4, .int .i64 2] W (fun e w' => e = .returned (.bool true) ∧ Keeps noBlk W w') from by rw [← hm]; exact implMay_any x y A1 A2 A3 A4 B1 B2 B3 B4 c1 c2 c3 c4 d1 d2 d3 d4 2 W h h' hT)); have HCO := hH (fun W h => implCopy_any x A1 A2 A3 A4 c1 c2 c3 c4 W h HN8.out.1 HN8.out.2.1 HN8.out.2.2.1 HN8.out.2.2.2); have HDO := hH (fun W P1 P2 P3 P4 e1 e2 e3 e4 => impl_tried x P1 P2 P3 P4 e1 e2 e3 e4 W HV.out); clear hm; unfold stV at HM HCO HDO ⊢
 go_enter Tryd.func40, Tryd.ntmps40
 go_wp2_with fail; refine (impl_stepAt_2 _).mono ?_; rintro e w1 ⟨rfl, hk1⟩; replace HBx := hH (HBx.out.keeps hk1 (fun h => h)); replace HBy := hH (HBy.out.keeps hk1 (fun h => h)); replace HBz := hH (HBz.out.keeps hk1 (fun h => h)); replace HK := hH (HK.out.trans hk1); have sz1 := hk1.size
 (try simp at sz1)
 clear hk1; have hb := HBx.out; obtain ⟨x0, x1, x2, x3, x4, x5, x6⟩ := hb.cells7; have zx := hb.lt; clear hb; have hb := HBy.out; obtain ⟨y0, y1, y2, y3, y4, y5, y6⟩ := hb.cells7; have zy := hb.lt; clear hb; replace HBx := hH (HBx.out.alloc (.cells #[.func (.func 66) #[] #[], .func (.func 67) #[] #[]] 75)); replace HBy := hH (HBy.out.alloc (.cells #[.func (.func 66) #[] #[], .func (.func 67) #[] #[]] 75)); replace HBz := hH (HBz.out.alloc (.cells #[.func (.func 66) #[] #[], .func (.func 67) #[] #[]] 75)); replace HK := hH (HK.out.alloc (.cells #[.func (.func 66) #[] #[], .func (.func 67) #[] #[]] 75)); have HBr := hH (Box.new w1 _ rfl 75 #[.func (.func 66) #[] #[], .func (.func 67) #[] #[]]); go_wp2_with fail; refine (HM.out _ (HX.out.kept HK.out) (HY.out.kept HK.out) (HT.out.keeps HK.out)).mono ?_; rintro e w2 ⟨rfl, hk2⟩; clear x0 x1 x2 x3 x4 x5 x6 y0 y1 y2 y3 y4 y5 y6 zx zy; replace HBx := hH (HBx.out.keeps hk2 (fun h => h)); replace HBy := hH (HBy.out.keeps hk2 (fun h => h)); replace HBz := hH (HBz.out.keeps hk2 (fun h => h)); replace HBr := hH (HBr.out.keeps hk2 (fun h => h)); replace HK := hH (HK.out.trans hk2); have sz2 := hk2.size
 (try simp at sz2)
 clear hk2; have hb := HBx.out; obtain ⟨x0, x1, x2, x3, x4, x5, x6⟩ := hb.cells7; have zx := hb.lt; clear hb; have hb := HBr.out; obtain ⟨r0, r1⟩ := hb.cells2; have zr := hb.lt; clear hb
 have : ¬ w1.heap.size = w.heap.size + 1 + 1 := by omega
 have : ¬ w.heap.size + 1 + 1 = w1.heap.size := by omega
 have : ¬ w.heap.size = w.heap.size + 1 + 1 := by omega
 have : ¬ w.heap.size + 1 + 1 = w.heap.size := by omega
 go_wp2_with fail
 go_region_held3 (fun w' => w'.cell? ⟨w.heap.size, 0, none⟩ = some (.int .i64 x.way) ∧ w'.cell? ⟨w.heap.size, 1, none⟩ = some (.int .i64 x.ver) ∧ w'.cell? ⟨w.heap.size, 2, none⟩ = some (.int .i64 x.want) ∧ w'.cell? ⟨w.heap.size, 3, none⟩ = some (.slice A1 x.sent.length c1) ∧ w'.cell? ⟨w.heap.size, 4, none⟩ = some (.slice A2 x.live.length c2) ∧ w'.cell? ⟨w.heap.size, 5, none⟩ = some (.slice A3 x.back.length c3) ∧ w'.cell? ⟨w.heap.size, 6, none⟩ = some (.slice A4 x.got.length c4) ∧ w'.cell? ⟨w1.heap.size, 0, none⟩ = some (.func (.func 66) #[] #[]) ∧ w'.cell? ⟨w1.heap.size, 1, none⟩ = some (.func (.func 67) #[] #[]))
  (((try dsimp only); (repeat' apply And.intro) <;> (first | with_reducible assumption | (go_keep; done))))
  (first | (go_at_call 60; refine (HCO.out _ (HX.out.kept (HK.out.drewN 1))).mono ?_; rintro e w3 ⟨⟨xx, P1, P2, P3, P4, e1, e2, e3, e4⟩, rfl, hxx, hk3, hst, hso⟩; have hq := ((Keeps.refl noBlk w2).drewN 1).trans hk3; clear hk3; have hk3 := hq; clear hq; dsimp only at hxx; replace hxx := hxx.symm; subst hxx; unfold StM.val; have HST := hH hst; have HSO := hH hso; clear hst hso; clear x0 x1 x2 x3 x4 x5 x6 r0 r1 zx zr; replace HBx := hH (HBx.out.keeps hk3 (fun h => h)); replace HBy := hH (HBy.out.keeps hk3 (fun h => h)); replace HBz := hH (HBz.out.keeps hk3 (fun h => h)); replace HBr := hH (HBr.out.keeps hk3 (fun h => h)); replace HK := hH (HK.out.trans hk3); have sz3 := hk3.size; (try simp at sz3); clear hk3; have hb := HBx.out; obtain ⟨x0, x1, x2, x3, x4, x5, x6⟩ := hb.cells7; have zx := hb.lt; clear hb; have hb := HBr.out; obtain ⟨r0, r1⟩ := hb.cells2; have zr := hb.lt; clear hb; have hb := HBz.out; obtain ⟨z0, z1, z2, z3, z4, z5, z6⟩ := hb.cells7; have zz := hb.lt; clear hb) | (go_at_call 67; refine (HDO.out _ P1 P2 P3 P4 e1 e2 e3 e4).mono ?_; rintro e w4 ⟨rfl, hk4⟩; have HK4 := hH hk4; clear x0 x1 x2 x3 x4 x5 x6 r0 r1 z0 z1 z2 z3 z4 z5 z6 zx zr zz; replace HBx := hH (HBx.out.keeps hk4 (fun h => h)); replace HBy := hH (HBy.out.keeps hk4 (fun h => h)); replace HBz := hH (HBz.out.keeps hk4 (fun h => h)); replace HBr := hH (HBr.out.keeps hk4 (fun h => h)); replace HK := hH (HK.out.trans hk4); have sz4 := hk4.size; (try simp at sz4); clear hk4; have hb := HBx.out; obtain ⟨x0, x1, x2, x3, x4, x5, x6⟩ := hb.cells7; have zx := hb.lt; clear hb; have hb := HBr.out; obtain ⟨r0, r1⟩ := hb.cells2; have zr := hb.lt; clear hb; have hb := HBz.out; obtain ⟨z0, z1, z2, z3, z4, z5, z6⟩ := hb.cells7; have zz := hb.lt; clear hb; have hb := HBz.out; obtain ⟨zf0, zf1, zf2, zf3, zf4, zf5, zf6⟩ := hb.fz7; clear hb))
 go_wp2; refine bodyPost_ret (v := .tuple #[.agg #[.int .i64 (2), .int .i64 (x.ver), .int .i64 (x.want), .slice P1 x.sent.length e1, .slice P2 x.live.length e2, .slice P3 x.back.length e3, .slice P4 x.got.length e4], .bool true]) (by simp [results, Tryd.results40, go_sem, *]) rfl ?_; exact ⟨⟨⟨2, x.ver, x.want, x.sent, x.live, x.back, x.got⟩, P1, P2, P3, P4, e1, e2, e3, e4⟩, rfl, HE.out.symm, (HK.out).new7 (g := w.heap.size + 1 + 1) (by omega), do_end (w := w) (w2 := w2) (s := ⟨⟨2, x.ver, x.want, x.sent, x.live, x.back, x.got⟩, P1, P2, P3, P4, e1, e2, e3, e4⟩) HST.out HK4.out (((Keeps.refl (fun b => w.heap.size ≤ b ∧ b < w2.heap.size) w4)).put7 (w.heap.size + 1 + 1) (.inr ⟨by first | omega | (dsimp only; omega), by first | omega | (dsimp only; omega)⟩)) (by omega), do_own (w := w) (w2 := w2) (x := ⟨2, x.ver, x.want, x.sent, x.live, x.back, x.got⟩) HSO.out HK4.out (((Keeps.refl (fun b => w.heap.size ≤ b ∧ b < w2.heap.size) w4)).put7 (w.heap.size + 1 + 1) (.inr ⟨by first | omega | (dsimp only; omega), by first | omega | (dsimp only; omega)⟩)) (by omega)⟩
theorem implDo_3 (x y : StL) (A1 A2 A3 A4 B1 B2 B3 B4 : Option Addr) (c1 c2 c3 c4 d1 d2 d3 d4 : Nat) (w : World) (hx : StAt w x A1 A2 A3 A4) (hy : StAt w y B1 B2 B3 B4) (ht : Tabs w) (hm : wmayB x y 3 = true) :
  Calls Tryd.prog 40 #[stV x A1 A2 A3 A4 c1 c2 c3 c4, stV y B1 B2 B3 B4 d1 d2 d3 d4, .int .i64 3] w (RetDoO w (doSt x y 3)) := by
 have HX := hH hx; have HY := hH hy; have HT := hH ht; have HBx := hH (((Box.new w _ rfl 27 (stC x A1 A2 A3 A4 c1 c2 c3 c4)).alloc (.cells (stC y B1 B2 B3 B4 d1 d2 d3 d4) 27)).alloc (.cells zCS 27)); have HBy := hH ((Box.new (w.alloc (.cells (stC x A1 A2 A3 A4 c1 c2 c3 c4) 27)) (w.heap.size + 1) (by simp) 27 (stC y B1 B2 B3 B4 d1 d2 d3 d4)).alloc (.cells zCS 27)); have HBz := hH (Box.new ((w.alloc (.cells (stC x A1 A2 A3 A4 c1 c2 c3 c4) 27)).alloc (.cells (stC y B1 B2 B3 B4 d1 d2 d3 d4) 27)) (w.heap.size + 1 + 1) (by simp) 27 zCS); have HK := hH ((((Keeps.refl noBlk w).alloc (.cells (stC x A1 A2 A3 A4 c1 c2 c3 c4) 27)).alloc (.cells (stC y B1 B2 B3 B4 d1 d2 d3 d4) 27)).alloc (.cells zCS 27))
 have hz0 : w.heap.size + 3 ≤ (((w.alloc (.cells (stC x A1 A2 A3 A4 c1 c2 c3 c4) 27)).alloc (.cells (stC y B1 B2 B3 B4 d1 d2 d3 d4) 27)).alloc (.cells zCS 27)).heap.size := by simp
 have HV := hH (stB_parts (show stB x = true by simp only [wmayB, Bool.and_eq_true] at hm; exact hm.1.1)).2.1
 have HN8 := hH (show x.sent.length ≤ 1048576 ∧ x.live.length ≤ 1048576 ∧ x.back.length ≤ 1048576 ∧ x.got.length ≤ 1048576 by
  have k := stB_ok (show stB x = true by simp only [wmayB, Bool.and_eq_true] at hm; exact hm.1.1); have := k.2.1.small; have := k.2.2.1.1; have := k.2.2.1.2.1; have := k.2.2.2.1
  exact ⟨by omega, by omega, by omega, by omega⟩)
 clear hx hy ht; have HE := hH (show doSt x y 3 = ⟨3, x.ver, x.want, x.sent, x.live, x.back, x.got⟩ by simp [doSt]); have HM := hH (fun W h h' hT => (show Calls Tryd.prog 35 #[stV x A1 A2 A3 A4 c1 c2 c3 c4, stV y B1 B2 B3 B4 d1 d2 d3 d4, .int .i64 3] W (fun e w' => e = .returned (.bool true) ∧ Keeps noBlk W w') from by rw [← hm]; exact implMay_any x y A1 A2 A3 A4 B1 B2 B3 B4 c1 c2 c3 c4 d1 d2 d3 d4 3 W h h' hT)); have HCO := hH (fun W h => implCopy_any x A1 A2 A3 A4 c1 c2 c3 c4 W h HN8.out.1 HN8.out.2.1 HN8.out.2.2.1 HN8.out.2.2.2); have HDO := hH (fun W P1 P2 P3 P4 e1 e2 e3 e4 => impl_opened x P1 P2 P3 P4 e1 e2 e3 e4 W HV.out); clear hm; unfold stV at HM HCO HDO ⊢
 go_enter Tryd.func40, Tryd.ntmps40
 go_wp2_with fail; refine (impl_stepAt_3 _).mono ?_; rintro e w1 ⟨rfl, hk1⟩; replace HBx := hH (HBx.out.keeps hk1 (fun h => h)); replace HBy := hH (HBy.out.keeps hk1 (fun h => h)); replace HBz := hH (HBz.out.keeps hk1 (fun h => h)); replace HK := hH (HK.out.trans hk1); have sz1 := hk1.size
 (try simp at sz1)
 clear hk1; have hb := HBx.out; obtain ⟨x0, x1, x2, x3, x4, x5, x6⟩ := hb.cells7; have zx := hb.lt; clear hb; have hb := HBy.out; obtain ⟨y0, y1, y2, y3, y4, y5, y6⟩ := hb.cells7; have zy := hb.lt; clear hb; replace HBx := hH (HBx.out.alloc (.cells #[.func (.func 68) #[] #[], .func (.func 69) #[] #[]] 75)); replace HBy := hH (HBy.out.alloc (.cells #[.func (.func 68) #[] #[], .func (.func 69) #[] #[]] 75)); replace HBz := hH (HBz.out.alloc (.cells #[.func (.func 68) #[] #[], .func (.func 69) #[] #[]] 75)); replace HK := hH (HK.out.alloc (.cells #[.func (.func 68) #[] #[], .func (.func 69) #[] #[]] 75)); have HBr := hH (Box.new w1 _ rfl 75 #[.func (.func 68) #[] #[], .func (.func 69) #[] #[]]); go_wp2_with fail; refine (HM.out _ (HX.out.kept HK.out) (HY.out.kept HK.out) (HT.out.keeps HK.out)).mono ?_; rintro e w2 ⟨rfl, hk2⟩; clear x0 x1 x2 x3 x4 x5 x6 y0 y1 y2 y3 y4 y5 y6 zx zy; replace HBx := hH (HBx.out.keeps hk2 (fun h => h)); replace HBy := hH (HBy.out.keeps hk2 (fun h => h)); replace HBz := hH (HBz.out.keeps hk2 (fun h => h)); replace HBr := hH (HBr.out.keeps hk2 (fun h => h)); replace HK := hH (HK.out.trans hk2); have sz2 := hk2.size
 (try simp at sz2)
 clear hk2; have hb := HBx.out; obtain ⟨x0, x1, x2, x3, x4, x5, x6⟩ := hb.cells7; have zx := hb.lt; clear hb; have hb := HBr.out; obtain ⟨r0, r1⟩ := hb.cells2; have zr := hb.lt; clear hb
 have : ¬ w1.heap.size = w.heap.size + 1 + 1 := by omega
 have : ¬ w.heap.size + 1 + 1 = w1.heap.size := by omega
 have : ¬ w.heap.size = w.heap.size + 1 + 1 := by omega
 have : ¬ w.heap.size + 1 + 1 = w.heap.size := by omega
 go_wp2_with fail
 go_region_held3 (fun w' => w'.cell? ⟨w.heap.size, 0, none⟩ = some (.int .i64 x.way) ∧ w'.cell? ⟨w.heap.size, 1, none⟩ = some (.int .i64 x.ver) ∧ w'.cell? ⟨w.heap.size, 2, none⟩ = some (.int .i64 x.want) ∧ w'.cell? ⟨w.heap.size, 3, none⟩ = some (.slice A1 x.sent.length c1) ∧ w'.cell? ⟨w.heap.size, 4, none⟩ = some (.slice A2 x.live.length c2) ∧ w'.cell? ⟨w.heap.size, 5, none⟩ = some (.slice A3 x.back.length c3) ∧ w'.cell? ⟨w.heap.size, 6, none⟩ = some (.slice A4 x.got.length c4) ∧ w'.cell? ⟨w1.heap.size, 0, none⟩ = some (.func (.func 68) #[] #[]) ∧ w'.cell? ⟨w1.heap.size, 1, none⟩ = some (.func (.func 69) #[] #[]))
  (((try dsimp only); (repeat' apply And.intro) <;> (first | with_reducible assumption | (go_keep; done))))
  (first | (go_at_call 60; refine (HCO.out _ (HX.out.kept (HK.out.drewN 1))).mono ?_; rintro e w3 ⟨⟨xx, P1, P2, P3, P4, e1, e2, e3, e4⟩, rfl, hxx, hk3, hst, hso⟩; have hq := ((Keeps.refl noBlk w2).drewN 1).trans hk3; clear hk3; have hk3 := hq; clear hq; dsimp only at hxx; replace hxx := hxx.symm; subst hxx; unfold StM.val; have HST := hH hst; have HSO := hH hso; clear hst hso; clear x0 x1 x2 x3 x4 x5 x6 r0 r1 zx zr; replace HBx := hH (HBx.out.keeps hk3 (fun h => h)); replace HBy := hH (HBy.out.keeps hk3 (fun h => h)); replace HBz := hH (HBz.out.keeps hk3 (fun h => h)); replace HBr := hH (HBr.out.keeps hk3 (fun h => h)); replace HK := hH (HK.out.trans hk3); have sz3 := hk3.size; (try simp at sz3); clear hk3; have hb := HBx.out; obtain ⟨x0, x1, x2, x3, x4, x5, x6⟩ := hb.cells7; have zx := hb.lt; clear hb; have hb := HBr.out; obtain ⟨r0, r1⟩ := hb.cells2; have zr := hb.lt; clear hb; have hb := HBz.out; obtain ⟨z0, z1, z2, z3, z4, z5, z6⟩ := hb.cells7; have zz := hb.lt; clear hb) | (go_at_call 69; refine (HDO.out _ P1 P2 P3 P4 e1 e2 e3 e4).mono ?_; rintro e w4 ⟨rfl, hk4⟩; have HK4 := hH hk4; clear x0 x1 x2 x3 x4 x5 x6 r0 r1 z0 z1 z2 z3 z4 z5 z6 zx zr zz; replace HBx := hH (HBx.out.keeps hk4 (fun h => h)); replace HBy := hH (HBy.out.keeps hk4 (fun h => h)); replace HBz := hH (HBz.out.keeps hk4 (fun h => h)); replace HBr := hH (HBr.out.keeps hk4 (fun h => h)); replace HK := hH (HK.out.trans hk4); have sz4 := hk4.size; (try simp at sz4); clear hk4; have hb := HBx.out; obtain ⟨x0, x1, x2, x3, x4, x5, x6⟩ := hb.cells7; have zx := hb.lt; clear hb; have hb := HBr.out; obtain ⟨r0, r1⟩ := hb.cells2; have zr := hb.lt; clear hb; have hb := HBz.out; obtain ⟨z0, z1, z2, z3, z4, z5, z6⟩ := hb.cells7; have zz := hb.lt; clear hb; have hb := HBz.out; obtain ⟨zf0, zf1, zf2, zf3, zf4, zf5, zf6⟩ := hb.fz7; clear hb))
 go_wp2; refine bodyPost_ret (v := .tuple #[.agg #[.int .i64 (3), .int .i64 (x.ver), .int .i64 (x.want), .slice P1 x.sent.length e1, .slice P2 x.live.length e2, .slice P3 x.back.length e3, .slice P4 x.got.length e4], .bool true]) (by simp [results, Tryd.results40, go_sem, *]) rfl ?_; exact ⟨⟨⟨3, x.ver, x.want, x.sent, x.live, x.back, x.got⟩, P1, P2, P3, P4, e1, e2, e3, e4⟩, rfl, HE.out.symm, (HK.out).new7 (g := w.heap.size + 1 + 1) (by omega), do_end (w := w) (w2 := w2) (s := ⟨⟨3, x.ver, x.want, x.sent, x.live, x.back, x.got⟩, P1, P2, P3, P4, e1, e2, e3, e4⟩) HST.out HK4.out (((Keeps.refl (fun b => w.heap.size ≤ b ∧ b < w2.heap.size) w4)).put7 (w.heap.size + 1 + 1) (.inr ⟨by first | omega | (dsimp only; omega), by first | omega | (dsimp only; omega)⟩)) (by omega), do_own (w := w) (w2 := w2) (x := ⟨3, x.ver, x.want, x.sent, x.live, x.back, x.got⟩) HSO.out HK4.out (((Keeps.refl (fun b => w.heap.size ≤ b ∧ b < w2.heap.size) w4)).put7 (w.heap.size + 1 + 1) (.inr ⟨by first | omega | (dsimp only; omega), by first | omega | (dsimp only; omega)⟩)) (by omega)⟩
theorem implDo_4 (x y : StL) (A1 A2 A3 A4 B1 B2 B3 B4 : Option Addr) (c1 c2 c3 c4 d1 d2 d3 d4 : Nat) (w : World) (hx : StAt w x A1 A2 A3 A4) (hy : StAt w y B1 B2 B3 B4) (ht : Tabs w) (hm : wmayB x y 4 = true) :
  Calls Tryd.prog 40 #[stV x A1 A2 A3 A4 c1 c2 c3 c4, stV y B1 B2 B3 B4 d1 d2 d3 d4, .int .i64 4] w (RetDoO w (doSt x y 4)) := by
 have HX := hH hx; have HY := hH hy; have HT := hH ht; have HBx := hH (((Box.new w _ rfl 27 (stC x A1 A2 A3 A4 c1 c2 c3 c4)).alloc (.cells (stC y B1 B2 B3 B4 d1 d2 d3 d4) 27)).alloc (.cells zCS 27)); have HBy := hH ((Box.new (w.alloc (.cells (stC x A1 A2 A3 A4 c1 c2 c3 c4) 27)) (w.heap.size + 1) (by simp) 27 (stC y B1 B2 B3 B4 d1 d2 d3 d4)).alloc (.cells zCS 27)); have HBz := hH (Box.new ((w.alloc (.cells (stC x A1 A2 A3 A4 c1 c2 c3 c4) 27)).alloc (.cells (stC y B1 B2 B3 B4 d1 d2 d3 d4) 27)) (w.heap.size + 1 + 1) (by simp) 27 zCS); have HK := hH ((((Keeps.refl noBlk w).alloc (.cells (stC x A1 A2 A3 A4 c1 c2 c3 c4) 27)).alloc (.cells (stC y B1 B2 B3 B4 d1 d2 d3 d4) 27)).alloc (.cells zCS 27))
 have hz0 : w.heap.size + 3 ≤ (((w.alloc (.cells (stC x A1 A2 A3 A4 c1 c2 c3 c4) 27)).alloc (.cells (stC y B1 B2 B3 B4 d1 d2 d3 d4) 27)).alloc (.cells zCS 27)).heap.size := by simp
 have HV := hH (stB_parts (show stB x = true by simp only [wmayB, Bool.and_eq_true] at hm; exact hm.1.1)).2.1
 have HN8 := hH (show x.sent.length ≤ 1048576 ∧ x.live.length ≤ 1048576 ∧ x.back.length ≤ 1048576 ∧ x.got.length ≤ 1048576 by
  have k := stB_ok (show stB x = true by simp only [wmayB, Bool.and_eq_true] at hm; exact hm.1.1); have := k.2.1.small; have := k.2.2.1.1; have := k.2.2.1.2.1; have := k.2.2.2.1
  exact ⟨by omega, by omega, by omega, by omega⟩)
 clear hx hy ht; have HE := hH (show doSt x y 4 = ⟨3, x.ver, x.want, x.sent, x.live, x.back, x.got⟩ by simp [doSt]); have HM := hH (fun W h h' hT => (show Calls Tryd.prog 35 #[stV x A1 A2 A3 A4 c1 c2 c3 c4, stV y B1 B2 B3 B4 d1 d2 d3 d4, .int .i64 4] W (fun e w' => e = .returned (.bool true) ∧ Keeps noBlk W w') from by rw [← hm]; exact implMay_any x y A1 A2 A3 A4 B1 B2 B3 B4 c1 c2 c3 c4 d1 d2 d3 d4 4 W h h' hT)); have HCO := hH (fun W h => implCopy_any x A1 A2 A3 A4 c1 c2 c3 c4 W h HN8.out.1 HN8.out.2.1 HN8.out.2.2.1 HN8.out.2.2.2); have HDO := hH (fun W P1 P2 P3 P4 e1 e2 e3 e4 => impl_opened x P1 P2 P3 P4 e1 e2 e3 e4 W HV.out); clear hm; unfold stV at HM HCO HDO ⊢
 go_enter Tryd.func40, Tryd.ntmps40
 go_wp2_with fail; refine (impl_stepAt_4 _).mono ?_; rintro e w1 ⟨rfl, hk1⟩; replace HBx := hH (HBx.out.keeps hk1 (fun h => h)); replace HBy := hH (HBy.out.keeps hk1 (fun h => h)); replace HBz := hH (HBz.out.keeps hk1 (fun h => h)); replace HK := hH (HK.out.trans hk1); have sz1 := hk1.size
 (try simp at sz1)
 clear hk1; have hb := HBx.out; obtain ⟨x0, x1, x2, x3, x4, x5, x6⟩ := hb.cells7; have zx := hb.lt; clear hb; have hb := HBy.out; obtain ⟨y0, y1, y2, y3, y4, y5, y6⟩ := hb.cells7; have zy := hb.lt; clear hb; replace HBx := hH (HBx.out.alloc (.cells #[.func (.func 70) #[] #[], .func (.func 69) #[] #[]] 75)); replace HBy := hH (HBy.out.alloc (.cells #[.func (.func 70) #[] #[], .func (.func 69) #[] #[]] 75)); replace HBz := hH (HBz.out.alloc (.cells #[.func (.func 70) #[] #[], .func (.func 69) #[] #[]] 75)); replace HK := hH (HK.out.alloc (.cells #[.func (.func 70) #[] #[], .func (.func 69) #[] #[]] 75)); have HBr := hH (Box.new w1 _ rfl 75 #[.func (.func 70) #[] #[], .func (.func 69) #[] #[]]); go_wp2_with fail; refine (HM.out _ (HX.out.kept HK.out) (HY.out.kept HK.out) (HT.out.keeps HK.out)).mono ?_; rintro e w2 ⟨rfl, hk2⟩; clear x0 x1 x2 x3 x4 x5 x6 y0 y1 y2 y3 y4 y5 y6 zx zy; replace HBx := hH (HBx.out.keeps hk2 (fun h => h)); replace HBy := hH (HBy.out.keeps hk2 (fun h => h)); replace HBz := hH (HBz.out.keeps hk2 (fun h => h)); replace HBr := hH (HBr.out.keeps hk2 (fun h => h)); replace HK := hH (HK.out.trans hk2); have sz2 := hk2.size
 (try simp at sz2)
 clear hk2; have hb := HBx.out; obtain ⟨x0, x1, x2, x3, x4, x5, x6⟩ := hb.cells7; have zx := hb.lt; clear hb; have hb := HBr.out; obtain ⟨r0, r1⟩ := hb.cells2; have zr := hb.lt; clear hb
 have : ¬ w1.heap.size = w.heap.size + 1 + 1 := by omega
 have : ¬ w.heap.size + 1 + 1 = w1.heap.size := by omega
 have : ¬ w.heap.size = w.heap.size + 1 + 1 := by omega
 have : ¬ w.heap.size + 1 + 1 = w.heap.size := by omega
 go_wp2_with fail
 go_region_held3 (fun w' => w'.cell? ⟨w.heap.size, 0, none⟩ = some (.int .i64 x.way) ∧ w'.cell? ⟨w.heap.size, 1, none⟩ = some (.int .i64 x.ver) ∧ w'.cell? ⟨w.heap.size, 2, none⟩ = some (.int .i64 x.want) ∧ w'.cell? ⟨w.heap.size, 3, none⟩ = some (.slice A1 x.sent.length c1) ∧ w'.cell? ⟨w.heap.size, 4, none⟩ = some (.slice A2 x.live.length c2) ∧ w'.cell? ⟨w.heap.size, 5, none⟩ = some (.slice A3 x.back.length c3) ∧ w'.cell? ⟨w.heap.size, 6, none⟩ = some (.slice A4 x.got.length c4) ∧ w'.cell? ⟨w1.heap.size, 0, none⟩ = some (.func (.func 70) #[] #[]) ∧ w'.cell? ⟨w1.heap.size, 1, none⟩ = some (.func (.func 69) #[] #[]))
  (((try dsimp only); (repeat' apply And.intro) <;> (first | with_reducible assumption | (go_keep; done))))
  (first | (go_at_call 60; refine (HCO.out _ (HX.out.kept (HK.out.drewN 1))).mono ?_; rintro e w3 ⟨⟨xx, P1, P2, P3, P4, e1, e2, e3, e4⟩, rfl, hxx, hk3, hst, hso⟩; have hq := ((Keeps.refl noBlk w2).drewN 1).trans hk3; clear hk3; have hk3 := hq; clear hq; dsimp only at hxx; replace hxx := hxx.symm; subst hxx; unfold StM.val; have HST := hH hst; have HSO := hH hso; clear hst hso; clear x0 x1 x2 x3 x4 x5 x6 r0 r1 zx zr; replace HBx := hH (HBx.out.keeps hk3 (fun h => h)); replace HBy := hH (HBy.out.keeps hk3 (fun h => h)); replace HBz := hH (HBz.out.keeps hk3 (fun h => h)); replace HBr := hH (HBr.out.keeps hk3 (fun h => h)); replace HK := hH (HK.out.trans hk3); have sz3 := hk3.size; (try simp at sz3); clear hk3; have hb := HBx.out; obtain ⟨x0, x1, x2, x3, x4, x5, x6⟩ := hb.cells7; have zx := hb.lt; clear hb; have hb := HBr.out; obtain ⟨r0, r1⟩ := hb.cells2; have zr := hb.lt; clear hb; have hb := HBz.out; obtain ⟨z0, z1, z2, z3, z4, z5, z6⟩ := hb.cells7; have zz := hb.lt; clear hb) | (go_at_call 69; refine (HDO.out _ P1 P2 P3 P4 e1 e2 e3 e4).mono ?_; rintro e w4 ⟨rfl, hk4⟩; have HK4 := hH hk4; clear x0 x1 x2 x3 x4 x5 x6 r0 r1 z0 z1 z2 z3 z4 z5 z6 zx zr zz; replace HBx := hH (HBx.out.keeps hk4 (fun h => h)); replace HBy := hH (HBy.out.keeps hk4 (fun h => h)); replace HBz := hH (HBz.out.keeps hk4 (fun h => h)); replace HBr := hH (HBr.out.keeps hk4 (fun h => h)); replace HK := hH (HK.out.trans hk4); have sz4 := hk4.size; (try simp at sz4); clear hk4; have hb := HBx.out; obtain ⟨x0, x1, x2, x3, x4, x5, x6⟩ := hb.cells7; have zx := hb.lt; clear hb; have hb := HBr.out; obtain ⟨r0, r1⟩ := hb.cells2; have zr := hb.lt; clear hb; have hb := HBz.out; obtain ⟨z0, z1, z2, z3, z4, z5, z6⟩ := hb.cells7; have zz := hb.lt; clear hb; have hb := HBz.out; obtain ⟨zf0, zf1, zf2, zf3, zf4, zf5, zf6⟩ := hb.fz7; clear hb))
 go_wp2; refine bodyPost_ret (v := .tuple #[.agg #[.int .i64 (3), .int .i64 (x.ver), .int .i64 (x.want), .slice P1 x.sent.length e1, .slice P2 x.live.length e2, .slice P3 x.back.length e3, .slice P4 x.got.length e4], .bool true]) (by simp [results, Tryd.results40, go_sem, *]) rfl ?_; exact ⟨⟨⟨3, x.ver, x.want, x.sent, x.live, x.back, x.got⟩, P1, P2, P3, P4, e1, e2, e3, e4⟩, rfl, HE.out.symm, (HK.out).new7 (g := w.heap.size + 1 + 1) (by omega), do_end (w := w) (w2 := w2) (s := ⟨⟨3, x.ver, x.want, x.sent, x.live, x.back, x.got⟩, P1, P2, P3, P4, e1, e2, e3, e4⟩) HST.out HK4.out (((Keeps.refl (fun b => w.heap.size ≤ b ∧ b < w2.heap.size) w4)).put7 (w.heap.size + 1 + 1) (.inr ⟨by first | omega | (dsimp only; omega), by first | omega | (dsimp only; omega)⟩)) (by omega), do_own (w := w) (w2 := w2) (x := ⟨3, x.ver, x.want, x.sent, x.live, x.back, x.got⟩) HSO.out HK4.out (((Keeps.refl (fun b => w.heap.size ≤ b ∧ b < w2.heap.size) w4)).put7 (w.heap.size + 1 + 1) (.inr ⟨by first | omega | (dsimp only; omega), by first | omega | (dsimp only; omega)⟩)) (by omega)⟩

end Go.Proofs.YtjcbeihoeanhaaaDoor
