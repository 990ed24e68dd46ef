/- stateCopy of the program: a state anew. -/
import Derived.Test.YtcnbephpadmboaaDoorUGh
set_option linter.unusedVariables false
set_option linter.unusedSimpArgs false
namespace Go.Proofs.YtcnbephpadmboaaDoor
open Go.RowKit

/-- append onto nil: a row anew. -/
theorem wpList_copyN {P : Program} (W : World) {ops : Array Oper} {rest : List Oper} {o : Oper} {a : Act} {Q : Exit → Act → World → Prop}
    (hg : o.guard = none) (s x : Operand) (t : TypeId) (hop : o.op = Op.call { callee := Callee.builtin Builtin.append, args := #[s, x], argTypes := #[t, t] })
    (e : TypeId) (z : Value) (size bytes : Nat) (h1 : P.underlying t = some (.slice e)) (hinfo : (P.info? e).map (fun i => (i.zero, i.size, i.bytes)) = some (some z, size, bytes)) (h6 : z.cells.size = size) (h7 : 0 < size)
    (hs : a.eval s = .slice none 0 0) (A : Option Addr) (m c : Nat) (news : List Value) (hx : a.eval x = .slice A m c) (hA : A = none → m = 0) (hl : news.length = m * size)
    (hnews : ∀ ad, A = some ad → ∀ (j : Nat) u, news[j]? = some u → W.cell? (ad.add j) = some u) (hone : ∀ u ∈ news, u.oneCell' = true) (b1 : m ≤ maxLen) (b2 : m * bytes ≤ 140737488355328)
    (hK : ∀ A' c' w', w'.ownsRow 0 e size (.slice A' m c') m news → Keeps noBlk W w' → (∀ g, (Value.slice A' m c').ownBlock = some g → W.heap.size ≤ g) → wpList P ops Q rest (a.put o.dst (.slice A' m c')) w') :
    wpList P ops Q (o :: rest) a W := by
  have hlit : W.ownsRow 0 e size (.slice none 0 0) 0 [] := World.ownsRow_nil W _ e size
  refine wpList_app (P := P) _ hg s x t hop e z size bytes h1 hinfo h6 h7 (.slice none 0 0) 0 [] hs hlit A m c news hx hA hl hnews hone (by omega) (by rw [Nat.zero_add]; exact b2) fun v' w' ho hgr hf => ?_
  rw [Nat.zero_add, List.nil_append] at ho
  obtain ⟨A', c', rfl⟩ : ∃ A c, v' = .slice A m c := by
    rcases ho.2 with ⟨rfl, rfl⟩ | ⟨g, cap, cur, rfl, _⟩
    · exact ⟨none, 0, rfl⟩
    · exact ⟨_, cap, rfl⟩
  refine hK A' c' w' ho ((Keeps.refl noBlk W).then (Keeps.of_grown hgr) fun i hi h => ?_) fun g hg' => ?_
  · simp [Value.ownBlock] at h
  · rcases hf g hg' with h | h
    · simp [Value.ownBlock] at h
    · exact h

theorem blk_own {A : Option Addr} {n c b : Nat} (h : blk A n b) : (Value.slice A n c).ownBlock = some b := by
  obtain ⟨_, a, rfl, rfl⟩ := h
  rfl
section
variable {w : World} {lo : Nat} {e : TypeId} {A : Option Addr} {c : Nat}
theorem prow_own {xs : List Pk} (h : w.ownsRow 0 e 7 (.slice A xs.length c) xs.length (vPs xs)) (hf : ∀ g, (Value.slice A xs.length c).ownBlock = some g → lo ≤ g) : PRow w lo A xs.length xs := by
  refine ⟨owns_pks h, fun hn => ?_⟩
  obtain ⟨_, h1, h2⟩ := owns_cells h
  cases A with
  | none => have := (h1 rfl).1; omega
  | some a =>
    obtain ⟨g, rfl, _, _, hz⟩ := h2 a rfl
    exact ⟨g, 0, rfl, hf g rfl, fun j _ => hz j⟩
theorem brow_own {xs : List Bool} (h : w.ownsRow 0 e 1 (.slice A xs.length c) xs.length (vBs xs)) (hf : ∀ g, (Value.slice A xs.length c).ownBlock = some g → lo ≤ g) : BRow w lo A xs.length xs := by
  refine ⟨owns_bools h, fun hn => ?_⟩
  obtain ⟨_, h1, h2⟩ := owns_cells h
  cases A with
  | none => have := (h1 rfl).1; omega
  | some a =>
    obtain ⟨g, rfl, _, _, hz⟩ := h2 a rfl
    exact ⟨g, 0, rfl, hf g rfl, fun j _ => hz j⟩
theorem irow_own {xs : List Int} (h : w.ownsRow 0 e 1 (.slice A xs.length c) xs.length (vIs xs)) (hf : ∀ g, (Value.slice A xs.length c).ownBlock = some g → lo ≤ g) : Row w lo A xs.length xs := by
  refine ⟨owns_ints h, fun hn => ?_⟩
  obtain ⟨_, h1, h2⟩ := owns_cells h
  cases A with
  | none => have := (h1 rfl).1; omega
  | some a =>
    obtain ⟨g, rfl, _, _, hz⟩ := h2 a rfl
    exact ⟨g, 0, rfl, hf g rfl, fun j _ => hz j⟩
end
/-- A state anew, its rows one behind the other. -/
def RetCopyO (w : World) (x : StL) (e : Ending) (w' : World) : Prop :=
  ∃ s : StM, e = .returned s.val ∧ s.x = x ∧ Keeps noBlk w w' ∧ (∀ G ρ : Nat → Nat, ∃ G' : Nat → Nat, (∀ b, b < w.heap.size → G' b = G b) ∧ StR G' ρ w' s) ∧ StOwn w' w.heap.size s.x s.A1 s.A2 s.A3 s.A4
set_option maxRecDepth 100000 in
set_option maxHeartbeats 2000000 in
theorem implCopy_any (x : StL) (A1 A2 A3 A4 : Option Addr) (c1 c2 c3 c4 : Nat) (w : World) (hx : StAt w x A1 A2 A3 A4) (n1 : x.sent.length ≤ 1048576) (n2 : x.live.length ≤ 1048576) (n3 : x.back.length ≤ 1048576) (n4 : x.got.length ≤ 1048576) :
    Calls Tryd.prog 81 #[stV x A1 A2 A3 A4 c1 c2 c3 c4] w (RetCopyO w x) := by
  have HX := Lib.hid hx
  clear hx
  have HBs0 := Lib.hid ((Box.new w _ rfl 27 #[.int .i64 x.way, .int .i64 x.ver, .int .i64 x.want, .slice A1 x.sent.length c1, .slice A2 x.live.length c2, .slice A3 x.back.length c3, .slice A4 x.got.length c4]).alloc (.cells #[.int .i64 0, .int .i64 0, .int .i64 0, .slice none 0 0, .slice none 0 0, .slice none 0 0, .slice none 0 0] 27))
  have HZs0 := Lib.hid (Box.new (w.alloc (.cells #[.int .i64 x.way, .int .i64 x.ver, .int .i64 x.want, .slice A1 x.sent.length c1, .slice A2 x.live.length c2, .slice A3 x.back.length c3, .slice A4 x.got.length c4] 27)) (w.heap.size + 1) (by simp) 27 #[.int .i64 0, .int .i64 0, .int .i64 0, .slice none 0 0, .slice none 0 0, .slice none 0 0, .slice none 0 0])
  have HKs0 := Lib.hid (((Keeps.refl noBlk w).alloc (.cells #[.int .i64 x.way, .int .i64 x.ver, .int .i64 x.want, .slice A1 x.sent.length c1, .slice A2 x.live.length c2, .slice A3 x.back.length c3, .slice A4 x.got.length c4] 27)).alloc (.cells #[.int .i64 0, .int .i64 0, .int .i64 0, .slice none 0 0, .slice none 0 0, .slice none 0 0, .slice none 0 0] 27))
  have hs0 : w.heap.size + 2 ≤ ((w.alloc (.cells #[.int .i64 x.way, .int .i64 x.ver, .int .i64 x.want, .slice A1 x.sent.length c1, .slice A2 x.live.length c2, .slice A3 x.back.length c3, .slice A4 x.got.length c4] 27)).alloc (.cells #[.int .i64 0, .int .i64 0, .int .i64 0, .slice none 0 0, .slice none 0 0, .slice none 0 0, .slice none 0 0] 27)).heap.size := by simp
  have hb0 := HBs0.out
  have a3 := hb0.cell 3
  simp at a3
  clear hb0
  unfold stV
  go_enter Tryd.func81, Tryd.ntmps81
  go_wp2_with (at_builtin; refine wpList_copyN _ rfl _ _ 23 rfl 29 (.agg #[.int .i64 0, .int .i64 0, .int .i64 0, .int .i64 0, .int .i64 0, .int .i64 0, .int .i64 0]) 7 56 Tryd.underlying23 info_pk rfl (by decide) rfl A1 x.sent.length c1 (vPs x.sent) rfl ?qa ?qb ?qc ?qd ?qe ?qf ?_)
  case qa => exact pks_none HX.out.1.1
  case qb => first | exact vPs_length _ | (rw [vPs_length]; omega)
  case qc => exact pks_news (HX.out.kept HKs0.out).1.1
  case qd => exact one_pks
  case qe => unfold maxLen; omega
  case qf => omega
  intro B1 d1 w1 ho1 hk1 hf1
  have hb := HBs0.out.keeps hk1 fun h => h
  have hz := HZs0.out.keeps hk1 fun h => h
  have HKa1 := Lib.hid (HKs0.out.trans hk1)
  have s1 := Nat.le_trans hs0 hk1.size
  have lo1 : ∀ b, (Value.slice B1 x.sent.length d1).ownBlock = some b → w.heap.size + 2 ≤ b := fun b h => by have := hf1 b h; (try simp at this); omega
  have HR1_1 := Lib.hid ho1
  have hi1 : ∀ b, (Value.slice B1 x.sent.length d1).ownBlock = some b → b < w1.heap.size := fun b h => (ho1.lt b h).2
  have f3 := hb.frozen 3
  have c := hb.cell 3
  simp at c
  have hb2 := hb.set_ 3 (.slice B1 x.sent.length d1)
  simp only [List.setIfInBounds_toArray, List.set_cons_zero, List.set_cons_succ] at hb2
  have HBs1 := Lib.hid hb2
  have HZs1 := Lib.hid (hz.far (p := ⟨w.heap.size, 3, none⟩) (by dsimp only; omega) (.slice B1 x.sent.length d1))
  have HKs1 := Lib.hid (HKa1.out.new (g := w.heap.size) (Nat.le_refl _) 3 (.slice B1 x.sent.length d1))
  have HR1_1s := Lib.hid (owns_keeps (S := one w.heap.size) HR1_1.out ((Keeps.refl (one w.heap.size) w1).set1 3 (.slice B1 x.sent.length d1)) fun b h h' => by have := lo1 b h; unfold one at h'; omega)
  have a4 := hb.cell 4
  simp at a4
  have g1 : w.heap.size < (w1.setCell ⟨w.heap.size, 3, none⟩ (.slice B1 x.sent.length d1)).heap.size := by rw [World.size_setCell]; omega
  have gg1 : w.heap.size < w1.heap.size := by omega
  have gz1 : w.heap.size + 1 < w1.heap.size := by omega
  clear hb hz hb2 ho1 hk1 hf1
  go_wp2_with (at_builtin; refine wpList_copyN _ rfl _ _ 24 rfl 4 (.bool false) 1 1 Tryd.underlying24 info_bool rfl (by decide) rfl A2 x.live.length c2 (vBs x.live) rfl ?qa ?qb ?qc ?qd ?qe ?qf ?_)
  case qa => exact bools_none HX.out.1.2.1
  case qb => first | exact vBs_length _ | (rw [vBs_length]; omega)
  case qc => exact bools_news (HX.out.kept HKs1.out).1.2.1
  case qd => exact one_bools
  case qe => unfold maxLen; omega
  case qf => omega
  intro B2 d2 w2 ho2 hk2 hf2
  have hb := HBs1.out.keeps hk2 fun h => h
  have hz := HZs1.out.keeps hk2 fun h => h
  have HKa2 := Lib.hid (HKs1.out.trans hk2)
  have s2 := hk2.size
  (try rw [World.size_setCell] at s2)
  (try simp only [World.size_setCell] at hf2)
  have lo2 : ∀ b, (Value.slice B2 x.live.length d2).ownBlock = some b → w1.heap.size ≤ b := hf2
  have HR1_2 := Lib.hid (owns_keeps HR1_1s.out hk2 fun _ _ h => h)
  have HR2_2 := Lib.hid ho2
  have hi2 : ∀ b, (Value.slice B2 x.live.length d2).ownBlock = some b → b < w2.heap.size := fun b h => (ho2.lt b h).2
  have f4 := hb.frozen 4
  have c := hb.cell 4
  simp at c
  have hb2 := hb.set_ 4 (.slice B2 x.live.length d2)
  simp only [List.setIfInBounds_toArray, List.set_cons_zero, List.set_cons_succ] at hb2
  have HBs2 := Lib.hid hb2
  have HZs2 := Lib.hid (hz.far (p := ⟨w.heap.size, 4, none⟩) (by dsimp only; omega) (.slice B2 x.live.length d2))
  have HKs2 := Lib.hid (HKa2.out.new (g := w.heap.size) (Nat.le_refl _) 4 (.slice B2 x.live.length d2))
  have HR1_2s := Lib.hid (owns_keeps (S := one w.heap.size) HR1_2.out ((Keeps.refl (one w.heap.size) w2).set1 4 (.slice B2 x.live.length d2)) fun b h h' => by have := lo1 b h; unfold one at h'; omega)
  have HR2_2s := Lib.hid (owns_keeps (S := one w.heap.size) HR2_2.out ((Keeps.refl (one w.heap.size) w2).set1 4 (.slice B2 x.live.length d2)) fun b h h' => by have := lo2 b h; unfold one at h'; omega)
  have a5 := hb.cell 5
  simp at a5
  have g2 : w.heap.size < (w2.setCell ⟨w.heap.size, 4, none⟩ (.slice B2 x.live.length d2)).heap.size := by rw [World.size_setCell]; omega
  have gg2 : w.heap.size < w2.heap.size := by omega
  have gz2 : w.heap.size + 1 < w2.heap.size := by omega
  clear hb hz hb2 ho2 hk2 hf2
  go_wp2_with (at_builtin; refine wpList_copyN _ rfl _ _ 24 rfl 4 (.bool false) 1 1 Tryd.underlying24 info_bool rfl (by decide) rfl A3 x.back.length c3 (vBs x.back) rfl ?qa ?qb ?qc ?qd ?qe ?qf ?_)
  case qa => exact bools_none HX.out.1.2.2.1
  case qb => first | exact vBs_length _ | (rw [vBs_length]; omega)
  case qc => exact bools_news (HX.out.kept HKs2.out).1.2.2.1
  case qd => exact one_bools
  case qe => unfold maxLen; omega
  case qf => omega
  intro B3 d3 w3 ho3 hk3 hf3
  have hb := HBs2.out.keeps hk3 fun h => h
  have hz := HZs2.out.keeps hk3 fun h => h
  have HKa3 := Lib.hid (HKs2.out.trans hk3)
  have s3 := hk3.size
  (try rw [World.size_setCell] at s3)
  (try simp only [World.size_setCell] at hf3)
  have lo3 : ∀ b, (Value.slice B3 x.back.length d3).ownBlock = some b → w2.heap.size ≤ b := hf3
  have HR1_3 := Lib.hid (owns_keeps HR1_2s.out hk3 fun _ _ h => h)
  have HR2_3 := Lib.hid (owns_keeps HR2_2s.out hk3 fun _ _ h => h)
  have HR3_3 := Lib.hid ho3
  have hi3 : ∀ b, (Value.slice B3 x.back.length d3).ownBlock = some b → b < w3.heap.size := fun b h => (ho3.lt b h).2
  have f5 := hb.frozen 5
  have c := hb.cell 5
  simp at c
  have hb2 := hb.set_ 5 (.slice B3 x.back.length d3)
  simp only [List.setIfInBounds_toArray, List.set_cons_zero, List.set_cons_succ] at hb2
  have HBs3 := Lib.hid hb2
  have HZs3 := Lib.hid (hz.far (p := ⟨w.heap.size, 5, none⟩) (by dsimp only; omega) (.slice B3 x.back.length d3))
  have HKs3 := Lib.hid (HKa3.out.new (g := w.heap.size) (Nat.le_refl _) 5 (.slice B3 x.back.length d3))
  have HR1_3s := Lib.hid (owns_keeps (S := one w.heap.size) HR1_3.out ((Keeps.refl (one w.heap.size) w3).set1 5 (.slice B3 x.back.length d3)) fun b h h' => by have := lo1 b h; unfold one at h'; omega)
  have HR2_3s := Lib.hid (owns_keeps (S := one w.heap.size) HR2_3.out ((Keeps.refl (one w.heap.size) w3).set1 5 (.slice B3 x.back.length d3)) fun b h h' => by have := lo2 b h; unfold one at h'; omega)
  have HR3_3s := Lib.hid (owns_keeps (S := one w.heap.size) HR3_3.out ((Keeps.refl (one w.heap.size) w3).set1 5 (.slice B3 x.back.length d3)) fun b h h' => by have := lo3 b h; unfold one at h'; omega)
  have a6 := hb.cell 6
  simp at a6
  have g3 : w.heap.size < (w3.setCell ⟨w.heap.size, 5, none⟩ (.slice B3 x.back.length d3)).heap.size := by rw [World.size_setCell]; omega
  have gg3 : w.heap.size < w3.heap.size := by omega
  have gz3 : w.heap.size + 1 < w3.heap.size := by omega
  clear hb hz hb2 ho3 hk3 hf3
  go_wp2_with (at_builtin; refine wpList_copyN _ rfl _ _ 25 rfl 3 (.int .i64 0) 1 8 Tryd.underlying25 info_int3 rfl (by decide) rfl A4 x.got.length c4 (vIs x.got) rfl ?qa ?qb ?qc ?qd ?qe ?qf ?_)
  case qa => exact ints_none HX.out.1.2.2.2
  case qb => first | exact vIs_length _ | (rw [vIs_length]; omega)
  case qc => exact ints_news (HX.out.kept HKs3.out).1.2.2.2
  case qd => exact one_ints
  case qe => unfold maxLen; omega
  case qf => omega
  intro B4 d4 w4 ho4 hk4 hf4
  have hb := HBs3.out.keeps hk4 fun h => h
  have hz := HZs3.out.keeps hk4 fun h => h
  have HKa4 := Lib.hid (HKs3.out.trans hk4)
  have s4 := hk4.size
  (try rw [World.size_setCell] at s4)
  (try simp only [World.size_setCell] at hf4)
  have lo4 : ∀ b, (Value.slice B4 x.got.length d4).ownBlock = some b → w3.heap.size ≤ b := hf4
  have HR1_4 := Lib.hid (owns_keeps HR1_3s.out hk4 fun _ _ h => h)
  have HR2_4 := Lib.hid (owns_keeps HR2_3s.out hk4 fun _ _ h => h)
  have HR3_4 := Lib.hid (owns_keeps HR3_3s.out hk4 fun _ _ h => h)
  have HR4_4 := Lib.hid ho4
  have hi4 : ∀ b, (Value.slice B4 x.got.length d4).ownBlock = some b → b < w4.heap.size := fun b h => (ho4.lt b h).2
  have f6 := hb.frozen 6
  have c := hb.cell 6
  simp at c
  have hb2 := hb.set_ 6 (.slice B4 x.got.length d4)
  simp only [List.setIfInBounds_toArray, List.set_cons_zero, List.set_cons_succ] at hb2
  have HBs4 := Lib.hid hb2
  have HZs4 := Lib.hid (hz.far (p := ⟨w.heap.size, 6, none⟩) (by dsimp only; omega) (.slice B4 x.got.length d4))
  have HKs4 := Lib.hid (HKa4.out.new (g := w.heap.size) (Nat.le_refl _) 6 (.slice B4 x.got.length d4))
  have HR1_4s := Lib.hid (owns_keeps (S := one w.heap.size) HR1_4.out ((Keeps.refl (one w.heap.size) w4).set1 6 (.slice B4 x.got.length d4)) fun b h h' => by have := lo1 b h; unfold one at h'; omega)
  have HR2_4s := Lib.hid (owns_keeps (S := one w.heap.size) HR2_4.out ((Keeps.refl (one w.heap.size) w4).set1 6 (.slice B4 x.got.length d4)) fun b h h' => by have := lo2 b h; unfold one at h'; omega)
  have HR3_4s := Lib.hid (owns_keeps (S := one w.heap.size) HR3_4.out ((Keeps.refl (one w.heap.size) w4).set1 6 (.slice B4 x.got.length d4)) fun b h h' => by have := lo3 b h; unfold one at h'; omega)
  have HR4_4s := Lib.hid (owns_keeps (S := one w.heap.size) HR4_4.out ((Keeps.refl (one w.heap.size) w4).set1 6 (.slice B4 x.got.length d4)) fun b h h' => by have := lo4 b h; unfold one at h'; omega)
  have a0 := hb.cell 0
  have z0 := hz.cell 0
  have y0 := hz.frozen 0
  have a1 := hb.cell 1
  have z1 := hz.cell 1
  have y1 := hz.frozen 1
  have a2 := hb.cell 2
  have z2 := hz.cell 2
  have y2 := hz.frozen 2
  have a3 := hb.cell 3
  have z3 := hz.cell 3
  have y3 := hz.frozen 3
  have a4 := hb.cell 4
  have z4 := hz.cell 4
  have y4 := hz.frozen 4
  have a5 := hb.cell 5
  have z5 := hz.cell 5
  have y5 := hz.frozen 5
  have a6 := hb.cell 6
  have z6 := hz.cell 6
  have y6 := hz.frozen 6
  simp at a0 z0 a1 z1 a2 z2 a3 z3 a4 z4 a5 z5 a6 z6
  have g4 : w.heap.size < (w4.setCell ⟨w.heap.size, 6, none⟩ (.slice B4 x.got.length d4)).heap.size := by rw [World.size_setCell]; omega
  have gg4 : w.heap.size < w4.heap.size := by omega
  have gz4 : w.heap.size + 1 < w4.heap.size := by omega
  clear hb hz hb2 ho4 hk4 hf4
  go_wp2
  have hne : ∀ b, b = w.heap.size + 1 → ∀ (P : Prop), (w.heap.size + 2 ≤ b) → P := fun b h P h' => by omega
  refine bodyPost_ret (v := .agg #[.int .i64 x.way, .int .i64 x.ver, .int .i64 x.want, .slice B1 x.sent.length d1, .slice B2 x.live.length d2, .slice B3 x.back.length d3, .slice B4 x.got.length d4]) (by simp [results, Tryd.results81, go_sem, *]) rfl ?_
  refine ⟨⟨x, B1, B2, B3, B4, d1, d2, d3, d4⟩, rfl, rfl, ?_, fun G ρ => ⟨up (up (up (up G w.heap.size (ρ 0)) w1.heap.size (ρ 1)) w2.heap.size (ρ 2)) w3.heap.size (ρ 3), fun b hb => ?_, ?_⟩, ?_⟩
  · exact ((((((HKs4.out.new (g := w.heap.size + 1) (by omega) _ _).new (g := w.heap.size + 1) (by omega) _ _).new (g := w.heap.size + 1) (by omega) _ _).new (g := w.heap.size + 1) (by omega) _ _).new (g := w.heap.size + 1) (by omega) _ _).new (g := w.heap.size + 1) (by omega) _ _).new (g := w.heap.size + 1) (by omega) _ _
  · rw [up_old (by omega), up_old (by omega), up_old (by omega), up_old hb]
  · have K7 := ((((((((Keeps.refl (one (w.heap.size + 1)) (w4.setCell ⟨w.heap.size, 6, none⟩ (.slice B4 x.got.length d4))).set1 0 (.int .i64 x.way)).set1 1 (.int .i64 x.ver)).set1 2 (.int .i64 x.want)).set1 3 (.slice B1 x.sent.length d1)).set1 4 (.slice B2 x.live.length d2)).set1 5 (.slice B3 x.back.length d3)).set1 6 (.slice B4 x.got.length d4))
    refine ⟨⟨owns_keeps HR1_4s.out K7 fun b h h' => ?_, fun b h => ?_⟩, ⟨owns_keeps HR2_4s.out K7 fun b h h' => ?_, fun b h => ?_⟩, ⟨owns_keeps HR3_4s.out K7 fun b h h' => ?_, fun b h => ?_⟩, ⟨owns_keeps HR4_4s.out K7 fun b h h' => ?_, fun b h => ?_⟩⟩
    · have := lo1 b h; unfold one at h'; omega
    · have := lo1 b h; have := hi1 b h
      rw [up_old (by omega), up_old (by omega), up_old (by omega), up_new (by omega)]
    · have := lo2 b h; unfold one at h'; omega
    · have := lo2 b h; have := hi2 b h
      rw [up_old (by omega), up_old (by omega), up_new (by omega)]
    · have := lo3 b h; unfold one at h'; omega
    · have := lo3 b h; have := hi3 b h
      rw [up_old (by omega), up_new (by omega)]
    · have := lo4 b h; unfold one at h'; omega
    · have := lo4 b h; have := hi4 b h
      rw [up_new (by omega)]
  · have K7 := ((((((((Keeps.refl (one (w.heap.size + 1)) (w4.setCell ⟨w.heap.size, 6, none⟩ (.slice B4 x.got.length d4))).set1 0 (.int .i64 x.way)).set1 1 (.int .i64 x.ver)).set1 2 (.int .i64 x.want)).set1 3 (.slice B1 x.sent.length d1)).set1 4 (.slice B2 x.live.length d2)).set1 5 (.slice B3 x.back.length d3)).set1 6 (.slice B4 x.got.length d4))
    exact ⟨w1.heap.size, w2.heap.size, w3.heap.size, ⟨prow_own (owns_keeps HR1_4s.out K7 fun b h h' => by have := lo1 b h; unfold one at h'; omega) (fun g h => by have := lo1 g h; omega), brow_own (owns_keeps HR2_4s.out K7 fun b h h' => by have := lo2 b h; unfold one at h'; omega) (fun g h => by have := lo2 g h; omega), brow_own (owns_keeps HR3_4s.out K7 fun b h h' => by have := lo3 b h; unfold one at h'; omega) (fun g h => by have := lo3 g h; omega), irow_own (owns_keeps HR4_4s.out K7 fun b h h' => by have := lo4 b h; unfold one at h'; omega) (fun g h => by have := lo4 g h; omega)⟩,
      fun i h => hi1 i (blk_own h), fun i h => hi2 i (blk_own h), fun i h => hi3 i (blk_own h), by omega, by omega, by omega⟩
end Go.Proofs.YtcnbephpadmboaaDoor
