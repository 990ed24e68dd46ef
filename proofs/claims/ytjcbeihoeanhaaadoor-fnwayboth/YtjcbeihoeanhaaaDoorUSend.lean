/- l12Block of the model: a chain ends a height. l12Send of the model: a chain sends coins. l12Send of the model: the packet is ok. l12Send of the model: it is sent. l12Send of the model: it is sent, the walk. -/
import Derived.Test.YtjcbeihoeanhaaaDoorULate
import Derived.Deep.RegionLaw
set_option maxRecDepth 100000
set_option maxHeartbeats 4000000
set_option linter.unusedVariables false
set_option linter.unusedSimpArgs false
/-! GBlock -/
namespace Go.Proofs.YtjcbeihoeanhaaaDoor
open Go.RowKit

theorem info_stG : (Tryd.prog.info? 27).map (fun i => (i.zero, i.size, i.bytes)) = some (some (.agg zCS), 7, 120) := by kernel_rfl
theorem one_st {s : StM} : ∀ u ∈ s.cs, u.oneCell' = true := by
 intro u hu; simp only [StM.cs, List.mem_cons, List.not_mem_nil, or_false] at hu
 rcases hu with rfl | rfl | rfl | rfl | rfl | rfl | rfl <;> rfl
def blockP (c c' : ChM) : Prop := if c.past.length < 90 then ∃ (s : StM) (A : Option Addr) (k : Nat), s.x = c.st.x ∧ c' = { c with past := c.past ++ [s], pA := A, pc := k } else c' = c
theorem block_end {G : Nat → Nat} {i : Nat} {w W0 w1 w2 WF : World} {c : ChM} {s1 : StM} {A' : Option Addr} {k' : Nat}
  (hC : ChR G i w c) (hk0 : Keeps noBlk w W0) (hk1 : Keeps noBlk W0 w1) (hst : ∀ G ρ : Nat → Nat, ∃ G' : Nat → Nat, (∀ b, b < W0.heap.size → G' b = G b) ∧ StR G' ρ w1 s1)
  (ho : w2.ownsRow 0 27 7 (.slice A' (c.past.length + 1) k') (c.past.length + 1) (vSs c.past ++ s1.cs))
  (hk2 : Keeps (fun b => (Value.slice c.pA c.past.length c.pc).ownBlock = some b) w1 w2)
  (hf : ∀ g, (Value.slice A' (c.past.length + 1) k').ownBlock = some g → (Value.slice c.pA c.past.length c.pc).ownBlock = some g ∨ w1.heap.size ≤ g)
  (hk3 : Keeps (fun b => w.heap.size ≤ b ∧ b < W0.heap.size) w2 WF) :
  ∃ G' : Nat → Nat, (∀ b, b < w.heap.size → G' b = G b) ∧ ChR G' i WF { c with past := c.past ++ [s1], pA := A', pc := k' } ∧ Keeps (Mt G i) w WF := by
 obtain ⟨G1, hG1, hS1⟩ := hst (up G w.heap.size 0) im; have hs0 := hk0.size; have hs1 := hk1.size
 have g0 : ∀ b, b < w.heap.size → up G w.heap.size 0 b = G b := fun b hb => up_old hb
 have c1 : ChR G1 i w1 c := (((hC.ext (G' := up G w.heap.size 0) g0).kept hk0).ext (G' := G1) hG1).kept hk1; have hpr : ∀ b, (Value.slice c.pA c.past.length c.pc).ownBlock = some b → G1 b = rl i 6 := c1.2.2.1.2; have hold : ∀ b, (Value.slice c.pA c.past.length c.pc).ownBlock = some b → G b = rl i 6 := hC.2.2.1.2
 have c2 : ChR (up G1 w1.heap.size (rl i 6)) i w1 c := c1.ext fun b hb => up_old hb
 have s2 : StR (up G1 w1.heap.size (rl i 6)) im w1 s1 := hS1.ext fun b hb => up_old hb
 have hpu : ∀ b, (Value.slice c.pA c.past.length c.pc).ownBlock = some b → up G1 w1.heap.size (rl i 6) b = rl i 6 := c2.2.2.1.2
 have hbx : ∀ b, w.heap.size ≤ b → b < W0.heap.size → up G1 w1.heap.size (rl i 6) b = 0 := fun b h h' => by rw [up_old (by omega), hG1 b h', up_new h]
 have hnew : ∀ b, w1.heap.size ≤ b → up G1 w1.heap.size (rl i 6) b = rl i 6 := fun b h => up_new h
 have hG2 : ∀ b, b < w.heap.size → up G1 w1.heap.size (rl i 6) b = G b := fun b hb => by rw [up_old (by omega), hG1 b (by omega), up_old hb]
 refine ⟨up G1 w1.heap.size (rl i 6), hG2, ?_, ?_⟩
 ·generalize up G1 w1.heap.size (rl i 6) = G2 at *
  obtain ⟨hB, ⟨h1, h2, h3, h4⟩, hP, hI, hN⟩ := c2
  have n6 : ∀ k, k < 6 → ∀ b, G2 b = rl i k → ¬ (Value.slice c.pA c.past.length c.pc).ownBlock = some b := fun k hk b e e' => by rw [hpu b e'] at e; unfold rl at e; omega
  have n1 : ∀ b, G2 b = 1 → ¬ (Value.slice c.pA c.past.length c.pc).ownBlock = some b := fun b e e' => by rw [hpu b e'] at e; unfold rl at e; omega
  have b6 : ∀ k b, G2 b = rl i k → ¬ (w.heap.size ≤ b ∧ b < W0.heap.size) := fun k b e e' => by rw [hbx b e'.1 e'.2] at e; unfold rl at e; omega
  have b1 : ∀ b, G2 b = 1 → ¬ (w.heap.size ≤ b ∧ b < W0.heap.size) := fun b e e' => by rw [hbx b e'.1 e'.2] at e; omega
  refine ⟨(hB.keeps hk2 fun b k _ h6 e => n6 k h6 b e).keeps hk3 fun b k _ _ e => b6 k b e, ⟨(h1.keeps hk2 (n6 0 (by decide))).keeps hk3 (b6 0), (h2.keeps hk2 (n6 1 (by decide))).keeps hk3 (b6 1), (h3.keeps hk2 (n6 2 (by decide))).keeps hk3 (b6 2), (h4.keeps hk2 (n6 3 (by decide))).keeps hk3 (b6 3)⟩, ?_, ?_, (hN.keeps hk2 n1).keeps hk3 b1⟩
  ·dsimp only
   rw [List.length_append, List.length_singleton, vSs_snoc]; refine Rw.keeps ⟨ho, fun g hg => ?_⟩ hk3 (b6 6)
   rcases hf g hg with h | h
   ·exact hpu g h
   ·exact hnew g h
  ·intro s hs
   rcases List.mem_append.1 hs with hs | hs
   ·exact ((hI s hs).keeps hk2 fun b _ _ e => n1 b e).keeps hk3 fun b _ _ e => b1 b e
   ·obtain rfl := List.mem_singleton.1 hs
    exact (s2.keeps hk2 fun b _ _ e => n1 b e).keeps hk3 fun b _ _ e => b1 b e
 ·exact (((hk0.trans hk1).more (T := Mt G i) fun _ _ h => h.elim).then hk2 fun b _ e => ⟨6, by decide, hold b e⟩).then hk3 fun b hb e => by omega
theorem l12Block_no (G : Nat → Nat) (i : Nat) (c : ChM) (w : World) (hc : ChR G i w c) (hx : StFit c.st.x) (hn : ¬ c.past.length < 90) (hpm : c.past.length ≤ 1000) :
  Calls Tryd.prog 88 #[c.val] w (RetCh G i w (blockP c)) := by
 have HC := hH hc; have HP := hH (show blockP c c by unfold blockP; rw [if_neg hn]); clear hc hx
 have e0 : decide ((c.past.length : Int) < 90) = false := by simp; omega
 clear hn; unfold ChM.val
 go_enter Tryd.func88, Tryd.ntmps88
 go_wp2; refine bodyPost_ret (v := .agg (chC c)) (by simp [results, Tryd.results88, go_sem, *]) rfl ?_; exact ⟨G, c, rfl, HP.out, fun _ _ => rfl, HC.out.kept (((Keeps.refl _ _).alloc _).alloc _), ((Keeps.refl _ _).alloc _).alloc _⟩
theorem l12Block_yes (G : Nat → Nat) (i : Nat) (c : ChM) (w : World) (hc : ChR G i w c) (hx : StFit c.st.x) (hn : c.past.length < 90) :
  Calls Tryd.prog 88 #[c.val] w (RetCh G i w (blockP c)) := by
 have HC := hH hc; have HX := hH hx; have HP := hH (show ∀ (s : StM) A k, s.x = c.st.x → blockP c { c with past := c.past ++ [s], pA := A, pc := k } from fun s A k h => by unfold blockP; rw [if_pos hn]; exact ⟨s, A, k, h, rfl⟩); clear hc hx
 have e0 : decide ((c.past.length : Int) < 90) = true := by simp; omega
 have hn9 : c.past.length + 1 ≤ 10000000 := by omega
 clear hn; have HBC := hH ((Box.new w (w.heap.size) (by simp) 94 (chC c)).alloc (.cells zC13 94)); have HBZ := hH (Box.new (w.alloc (.cells (chC c) 94)) (w.heap.size + 1) (by simp) 94 zC13); have HK := hH (((Keeps.refl (noBlk) w).alloc (.cells (chC c) 94)).alloc (.cells zC13 94))
 have hsz : w.heap.size + 2 ≤ ((w.alloc (.cells (chC c) 94)).alloc (.cells zC13 94)).heap.size := by simp
 have HCO := hH (l3Copy_any c.st.x c.st.A1 c.st.A2 c.st.A3 c.st.A4 c.st.c1 c.st.c2 c.st.c3 c.st.c4); have HCK := hH (fun W (hk : Keeps noBlk w W) => HCO.out W (HC.out.kept hk).2.1.at_ (by have := HX.out.n8; omega) (by have := HX.out.n8; have := HX.out.live; omega) (by have := HX.out.n8; have := HX.out.back; omega) (by have := HX.out.got; omega)); clear HCO; unfold ChM.val; unfold stV at HCK
 go_enter Tryd.func88, Tryd.ntmps88
 go_wp2_with fail; have hb := HBC.out; obtain ⟨C0, C1, C2, C3, C4, C5, C6, C7, C8, C9, C10, C11, C12⟩ := hb.cells13; have Cz := hb.lt; clear hb
 go_region_law (first | (refine step_app1 w1 rfl _ _ 92 rfl 27 (.agg #[.int .i64 0, .int .i64 0, .int .i64 0, .slice none 0 0, .slice none 0 0, .slice none 0 0, .slice none 0 0]) 7 120 Tryd.underlying92 info_stG rfl (by decide) (by decide) (.slice c.pA c.past.length c.pc) c.past.length (vSs c.past) rfl HRW.out w1.heap.size rfl _ (StM.cs ⟨c.st.x, B1, B2, B3, B4, d1, d2, d3, d4⟩) rfl rfl rfl one_st hn9 ?_; intro A' k' w2 ho2 hk2 hf2; have hbc := HBC1.out.keeps hk2 (fun e => by have := HC.out.2.2.1.lt e; omega); have hbz := HBZ1.out.keeps hk2 (fun e => by have := HC.out.2.2.1.lt e; omega); have zc2 := hbc.lt; have zz2 := hbz.lt; have D0 := hbc.cell 0; have Df0 := hbc.frozen 0; have D1 := hbc.cell 1; have Df1 := hbc.frozen 1; have D2 := hbc.cell 2; have Df2 := hbc.frozen 2; have D3 := hbc.cell 3; have Df3 := hbc.frozen 3; have D4 := hbc.cell 4; have Df4 := hbc.frozen 4; have D5 := hbc.cell 5; have Df5 := hbc.frozen 5; have D6 := hbc.cell 6; have Df6 := hbc.frozen 6; have D7 := hbc.cell 7; have Df7 := hbc.frozen 7; have D8 := hbc.cell 8; have Df8 := hbc.frozen 8; have D9 := hbc.cell 9; have Df9 := hbc.frozen 9; have D10 := hbc.cell 10; have Df10 := hbc.frozen 10; have D11 := hbc.cell 11; have Df11 := hbc.frozen 11; have D12 := hbc.cell 12; have Df12 := hbc.frozen 12; simp at D0 D1 D2 D3 D4 D5 D6 D7 D8 D9 D10 D11 D12; have E0 := hbz.cell 0; have Ef0 := hbz.frozen 0; have E1 := hbz.cell 1; have Ef1 := hbz.frozen 1; have E2 := hbz.cell 2; have Ef2 := hbz.frozen 2; have E3 := hbz.cell 3; have Ef3 := hbz.frozen 3; have E4 := hbz.cell 4; have Ef4 := hbz.frozen 4; have E5 := hbz.cell 5; have Ef5 := hbz.frozen 5; have E6 := hbz.cell 6; have Ef6 := hbz.frozen 6; have E7 := hbz.cell 7; have Ef7 := hbz.frozen 7; have E8 := hbz.cell 8; have Ef8 := hbz.frozen 8; have E9 := hbz.cell 9; have Ef9 := hbz.frozen 9; have E10 := hbz.cell 10; have Ef10 := hbz.frozen 10; have E11 := hbz.cell 11; have Ef11 := hbz.frozen 11; have E12 := hbz.cell 12; have Ef12 := hbz.frozen 12; simp at E0 E1 E2 E3 E4 E5 E6 E7 E8 E9 E10 E11 E12; clear hbc hbz; have HO2 := hH ho2; have HK2 := hH hk2; have HF2 := hH hf2; clear ho2 hk2 hf2) | (go_simp; go_at_call 99; refine (HCK.out _ (HK.out.drewN 1)).mono ?_; rintro e w1 ⟨⟨xx, B1, B2, B3, B4, d1, d2, d3, d4⟩, rfl, hxx, hk1, hst⟩; dsimp only at hxx; subst hxx; unfold StM.val; have HST := hH hst; clear hst; have hq := ((Keeps.refl noBlk _).drewN 1).trans hk1; have hb := HBC.out.keeps hq (fun h => h); have zc := hb.lt; obtain ⟨C0, C1, C2, C3, C4, C5, C6, C7, C8, C9, C10, C11, C12⟩ := hb.cells13; clear hb; have HBC1 := hH (HBC.out.keeps hq (fun h => h)); have HBZ1 := hH (HBZ.out.keeps hq (fun h => h)); have HK1 := hH hq; have HRW := hH (((HC.out.kept HK.out).kept hq).2.2.1.1); clear hk1 hq))
 all_goals
  go_wp2; refine bodyPost_ret (v := .agg #[.int .i64 c.id, .slice c.bk.A1 c.bk.b.own.length c.bk.c1, .slice c.bk.A2 c.bk.b.notes.length c.bk.c2, .int .i64 c.bk.b.locked, .int .i64 c.st.x.way, .int .i64 c.st.x.ver, .int .i64 c.st.x.want, .slice c.st.A1 c.st.x.sent.length c.st.c1, .slice c.st.A2 c.st.x.live.length c.st.c2, .slice c.st.A3 c.st.x.back.length c.st.c3, .slice c.st.A4 c.st.x.got.length c.st.c4, .slice A' (c.past.length + 1) k', .slice c.kA c.knows.length c.kc]) (by simp [results, Tryd.results88, go_sem, *]) rfl ?_; obtain ⟨G', hG, hCh, hKp⟩ := block_end HC.out HK.out HK1.out HST.out HO2.out HK2.out HF2.out (((Keeps.refl (fun b => w.heap.size ≤ b ∧ b < ((w.alloc (.cells (chC c) 94)).alloc (.cells zC13 94)).heap.size) w2).setCell (p := ⟨w.heap.size, 11, none⟩) (.inr ⟨by dsimp only; omega, by dsimp only; omega⟩) _).put13 (w.heap.size + 1) (.inr ⟨by first | omega | (dsimp only; omega), by first | omega | (dsimp only; omega)⟩)); exact ⟨G', _, by simp [ChM.val], HP.out ⟨c.st.x, B1, B2, B3, B4, d1, d2, d3, d4⟩ A' k' rfl, hG, hCh, hKp⟩
theorem l12Block_any (G : Nat → Nat) (i : Nat) (c : ChM) (w : World) (hc : ChR G i w c) (hx : StFit c.st.x) (hpm : c.past.length ≤ 1000) :
  Calls Tryd.prog 88 #[c.val] w (RetCh G i w (blockP c)) := by
 by_cases hn : c.past.length < 90
 ·exact l12Block_yes G i c w hc hx hn
 ·exact l12Block_no G i c w hc hx hn hpm

def sendB (c : ChM) (p : Pk) : Bool := decide (c.st.x.way = 3) && p.ok && decide (p.m ≤ has c.bk.b p.k p.f)
def sendCh (c : ChM) (p : Pk) (A1 A2 A3 : Option Addr) (k1 k2 k3 : Nat) : ChM :=
 { c with bk := { c.bk with b := turnA c.bk.b p.k p.f p.m }, st := ⟨{ c.st.x with sent := c.st.x.sent ++ [p], live := c.st.x.live ++ [true], back := c.st.x.back ++ [false] }, A1, A2, A3, c.st.A4, k1, k2, k3, c.st.c4⟩ }
def sendP (c : ChM) (p : Pk) (c' : ChM) (n : Int) (o : Bool) : Prop :=
 (sendB c p = true ∧ n = p.s ∧ o = true ∧ ∃ A1 A2 A3 k1 k2 k3, c' = sendCh c p A1 A2 A3 k1 k2 k3) ∨ (sendB c p = false ∧ n = 0 ∧ o = false ∧ c' = c)
def RetSend (G : Nat → Nat) (i : Nat) (w : World) (c : ChM) (p : Pk) (e : Ending) (w' : World) : Prop :=
 ∃ (G' : Nat → Nat) (c' : ChM) (n : Int) (o : Bool), e = .returned (.tuple #[c'.val, .int .i64 n, .bool o]) ∧ sendP c p c' n o ∧ (∀ b, b < w.heap.size → G' b = G b) ∧ ChR G' i w' c' ∧ Keeps (Mt G i) w w'
theorem send_no {G : Nat → Nat} {i : Nat} {w W : World} {c : ChM} {p : Pk} (h : sendB c p = false) (hC : ChR G i w c) (hk : Keeps noBlk w W) : RetSend G i w c p (.returned (.tuple #[c.val, .int .i64 0, .bool false])) W :=
 ⟨G, c, 0, false, rfl, .inr ⟨h, rfl, rfl, rfl⟩, fun _ _ => rfl, hC.kept hk, hk.more fun _ _ h => h.elim⟩
theorem rw_app {G : Nat → Nat} {r : Nat} {w w' : World} {e : TypeId} {sz n c c' : Nat} {A A' : Option Addr} {xs ys : List Value} (h : Rw G r w e sz (.slice A n c) n xs)
  (ho : w'.ownsRow 0 e sz (.slice A' (n + 1) c') (n + 1) ys) (hf : ∀ g, (Value.slice A' (n + 1) c').ownBlock = some g → (Value.slice A n c).ownBlock = some g ∨ w.heap.size ≤ g) :
  Rw (up G w.heap.size r) r w' e sz (.slice A' (n + 1) c') (n + 1) ys := by
 refine ⟨ho, fun g hg => ?_⟩
 rcases hf g hg with h1 | h1
 ·rw [up_old (h.lt h1)]
  exact h.2 g h1
 ·exact up_new h1
theorem l12Send_shut (G : Nat → Nat) (i : Nat) (c : ChM) (kd f t m u : Int) (w : World) (hc : ChR G i w c) (hx : StFit c.st.x) (hq : okB c.bk.b = true) (h1 : c.st.x.way ≠ 3) :
  Calls Tryd.prog 90 #[c.val, .int .i64 kd, .int .i64 f, .int .i64 t, .int .i64 m, .int .i64 u] w (RetSend G i w c (⟨(c.st.x.sent.length : Int) + 1, kd, f, t, m, u, c.st.x.ver⟩ : Pk)) := by
 have HC := hH hc; have h8 := hx.n8; clear hc hx hq; have HB := hH (show sendB c (⟨(c.st.x.sent.length : Int) + 1, kd, f, t, m, u, c.st.x.ver⟩ : Pk) = false by simp [sendB, h1])
 have e1 : (c.st.x.way != 3) = true := by simpa using h1
 clear h1; unfold ChM.val
 go_enter Tryd.func90, Tryd.ntmps90
 go_wp2; refine bodyPost_ret (v := .tuple #[.agg (chC c), .int .i64 0, .bool false]) (by simp [results, Tryd.results90, go_sem, *]) rfl ?_; exact send_no HB.out HC.out ((((Keeps.refl _ _).alloc _).alloc _).alloc _)
theorem l12Send_bad (G : Nat → Nat) (i : Nat) (c : ChM) (kd f t m u : Int) (w : World) (hc : ChR G i w c) (hx : StFit c.st.x) (hq : okB c.bk.b = true) (h1 : c.st.x.way = 3) (h2 : (⟨(c.st.x.sent.length : Int) + 1, kd, f, t, m, u, c.st.x.ver⟩ : Pk).ok = false) :
  Calls Tryd.prog 90 #[c.val, .int .i64 kd, .int .i64 f, .int .i64 t, .int .i64 m, .int .i64 u] w (RetSend G i w c (⟨(c.st.x.sent.length : Int) + 1, kd, f, t, m, u, c.st.x.ver⟩ : Pk)) := by
 have HC := hH hc; clear hc; have HB := hH (show sendB c (⟨(c.st.x.sent.length : Int) + 1, kd, f, t, m, u, c.st.x.ver⟩ : Pk) = false by simp [sendB, h2]); have HQ := hH hq; have HX := hH hx; have h8 := hx.n8; clear hx hq; have HBC := hH (((Box.new w (w.heap.size) (by simp) 94 (chC c)).alloc (.cells zC13 94)).alloc (.cells #[.int .i64 ((c.st.x.sent.length : Int) + 1), .int .i64 kd, .int .i64 f, .int .i64 t, .int .i64 m, .int .i64 u, .int .i64 c.st.x.ver] 29)); have HBZ := hH ((Box.new (w.alloc (.cells (chC c) 94)) (w.heap.size + 1) (by simp) 94 zC13).alloc (.cells #[.int .i64 ((c.st.x.sent.length : Int) + 1), .int .i64 kd, .int .i64 f, .int .i64 t, .int .i64 m, .int .i64 u, .int .i64 c.st.x.ver] 29)); have HBP := hH (Box.new ((w.alloc (.cells (chC c) 94)).alloc (.cells zC13 94)) (w.heap.size + 1 + 1) (by simp) 29 #[.int .i64 ((c.st.x.sent.length : Int) + 1), .int .i64 kd, .int .i64 f, .int .i64 t, .int .i64 m, .int .i64 u, .int .i64 c.st.x.ver]); have HK := hH ((((Keeps.refl (noBlk) w).alloc (.cells (chC c) 94)).alloc (.cells zC13 94)).alloc (.cells #[.int .i64 ((c.st.x.sent.length : Int) + 1), .int .i64 kd, .int .i64 f, .int .i64 t, .int .i64 m, .int .i64 u, .int .i64 c.st.x.ver] 29))
 have hsz : w.heap.size + 3 ≤ (((w.alloc (.cells (chC c) 94)).alloc (.cells zC13 94)).alloc (.cells #[.int .i64 ((c.st.x.sent.length : Int) + 1), .int .i64 kd, .int .i64 f, .int .i64 t, .int .i64 m, .int .i64 u, .int .i64 c.st.x.ver] 29)).heap.size := by simp
 have HPK := hH (fun W => (show Calls Tryd.prog 51 #[.agg #[.int .i64 ((c.st.x.sent.length : Int) + 1), .int .i64 kd, .int .i64 f, .int .i64 t, .int .i64 m, .int .i64 u, .int .i64 c.st.x.ver]] W (fun e w' => e = .returned (.bool false) ∧ Keeps noBlk W w') from by rw [← h2]; exact specPk_any _ _ _ _ _ _ _ W))
 have e1 : (c.st.x.way != 3) = false := by simpa using h1
 have H1 := hH h1; clear h1 h2; unfold ChM.val
 go_enter Tryd.func90, Tryd.ntmps90
 go_wp2_with fail; refine (HPK.out _).mono ?_; rintro e w1 ⟨rfl, hk1⟩; replace HBC := hH (HBC.out.keeps hk1 (fun h => h)); replace HBZ := hH (HBZ.out.keeps hk1 (fun h => h)); replace HBP := hH (HBP.out.keeps hk1 (fun h => h)); replace HK := hH (HK.out.trans hk1); have hb := HBC.out; obtain ⟨C0, C1, C2, C3, C4, C5, C6, C7, C8, C9, C10, C11, C12⟩ := hb.cells13; have Cz := hb.lt; clear hb; have hb := HBZ.out; obtain ⟨Z0, Z1, Z2, Z3, Z4, Z5, Z6, Z7, Z8, Z9, Z10, Z11, Z12⟩ := hb.cells13; obtain ⟨Zf0, Zf1, Zf2, Zf3, Zf4, Zf5, Zf6, Zf7, Zf8, Zf9, Zf10, Zf11, Zf12⟩ := hb.fz13; have Zz := hb.lt; clear hb
 have hz3 : w.heap.size ≤ w.heap.size + 1 := by omega
 go_wp2; refine bodyPost_ret (v := .tuple #[.agg (chC c), .int .i64 0, .bool false]) (by simp [results, Tryd.results90, go_sem, *]) rfl ?_; exact send_no HB.out HC.out ((HK.out).new13 hz3)

theorem Keeps.send {G G0 : Nat → Nat} {i : Nat} {w W1 w2 W : World} (hG : ∀ b, b < w.heap.size → G0 b = G b) (hk1 : Keeps noBlk w W1) (hk2 : Keeps (MtB G0 i) W1 w2) (hk3 : Keeps (fun b => w.heap.size ≤ b) w2 W) : Keeps (Mt G i) w W := by
 refine (((hk1.more (T := Mt G0 i) fun _ _ h => h.elim).then hk2 fun b _ h => h.mt).then hk3 fun b hb h => by omega).more fun b hb h => ?_
 obtain ⟨j, hj, e⟩ := h; exact ⟨j, hj, by rw [← hG b hb]; exact e⟩
theorem l12Send_poor (G : Nat → Nat) (i : Nat) (c : ChM) (kd f t m u : Int) (w : World) (hc : ChR G i w c) (hx : StFit c.st.x) (hq : okB c.bk.b = true) (h1 : c.st.x.way = 3) (h2 : (⟨(c.st.x.sent.length : Int) + 1, kd, f, t, m, u, c.st.x.ver⟩ : Pk).ok = true) (h3 : ¬ m ≤ has c.bk.b kd f) :
  Calls Tryd.prog 90 #[c.val, .int .i64 kd, .int .i64 f, .int .i64 t, .int .i64 m, .int .i64 u] w (RetSend G i w c (⟨(c.st.x.sent.length : Int) + 1, kd, f, t, m, u, c.st.x.ver⟩ : Pk)) := by
 have HB := hH (show sendB c (⟨(c.st.x.sent.length : Int) + 1, kd, f, t, m, u, c.st.x.ver⟩ : Pk) = false by simp [sendB, h3])
 have hc := hc.ext (G' := up G w.heap.size 0) fun b hb => up_old hb
 have HG := hH (show ∀ b, w.heap.size ≤ b → up G w.heap.size 0 b = 0 from fun b hb => up_new hb); have HG' := hH (show ∀ b, b < w.heap.size → up G w.heap.size 0 b = G b from fun b hb => up_old hb); generalize up G w.heap.size 0 = G0 at hc HG HG'; have HC := hH hc; clear hc; have HQ := hH hq; have HX := hH hx; have h8 := hx.n8; clear hx hq; have HBC := hH (((Box.new w (w.heap.size) (by simp) 94 (chC c)).alloc (.cells zC13 94)).alloc (.cells #[.int .i64 ((c.st.x.sent.length : Int) + 1), .int .i64 kd, .int .i64 f, .int .i64 t, .int .i64 m, .int .i64 u, .int .i64 c.st.x.ver] 29)); have HBZ := hH ((Box.new (w.alloc (.cells (chC c) 94)) (w.heap.size + 1) (by simp) 94 zC13).alloc (.cells #[.int .i64 ((c.st.x.sent.length : Int) + 1), .int .i64 kd, .int .i64 f, .int .i64 t, .int .i64 m, .int .i64 u, .int .i64 c.st.x.ver] 29)); have HBP := hH (Box.new ((w.alloc (.cells (chC c) 94)).alloc (.cells zC13 94)) (w.heap.size + 1 + 1) (by simp) 29 #[.int .i64 ((c.st.x.sent.length : Int) + 1), .int .i64 kd, .int .i64 f, .int .i64 t, .int .i64 m, .int .i64 u, .int .i64 c.st.x.ver]); have HK := hH ((((Keeps.refl (noBlk) w).alloc (.cells (chC c) 94)).alloc (.cells zC13 94)).alloc (.cells #[.int .i64 ((c.st.x.sent.length : Int) + 1), .int .i64 kd, .int .i64 f, .int .i64 t, .int .i64 m, .int .i64 u, .int .i64 c.st.x.ver] 29))
 have hsz : w.heap.size + 3 ≤ (((w.alloc (.cells (chC c) 94)).alloc (.cells zC13 94)).alloc (.cells #[.int .i64 ((c.st.x.sent.length : Int) + 1), .int .i64 kd, .int .i64 f, .int .i64 t, .int .i64 m, .int .i64 u, .int .i64 c.st.x.ver] 29)).heap.size := by simp
 have HPK := hH (fun W => (show Calls Tryd.prog 51 #[.agg #[.int .i64 ((c.st.x.sent.length : Int) + 1), .int .i64 kd, .int .i64 f, .int .i64 t, .int .i64 m, .int .i64 u, .int .i64 c.st.x.ver]] W (fun e w' => e = .returned (.bool true) ∧ Keeps noBlk W w') from by rw [← h2]; exact specPk_any _ _ _ _ _ _ _ W))
 have e1 : (c.st.x.way != 3) = false := by simpa using h1
 have pp := pkB_parts h2; dsimp only at pp
 have q2 : kindB kd = true := by simp [kindB]; omega
 have q3 : userB f = true := by simp [userB]; omega
 have hm0 : 0 ≤ m := by omega
 have hm1 : m ≤ 1000 := by omega
 clear pp h2; have HTA := hH (fun W hB => l1Away_g G0 i c.bk kd f m W hB HQ.out q2 q3 hm0 hm1); clear q2 q3 hm0 hm1; rw [decide_eq_false h3, show turnA c.bk.b kd f m = c.bk.b by unfold turnA; rw [if_neg h3]] at HTA; have H1 := hH h1; clear h1 h3; unfold RetBk BkM.val at HTA; dsimp only at HTA; unfold ChM.val
 go_enter Tryd.func90, Tryd.ntmps90
 go_wp2_with fail; refine (HPK.out _).mono ?_; rintro e w1 ⟨rfl, hk1⟩; replace HBC := hH (HBC.out.keeps hk1 (fun h => h)); replace HBZ := hH (HBZ.out.keeps hk1 (fun h => h)); replace HBP := hH (HBP.out.keeps hk1 (fun h => h)); replace HK := hH (HK.out.trans hk1); have hb := HBC.out; obtain ⟨C0, C1, C2, C3, C4, C5, C6, C7, C8, C9, C10, C11, C12⟩ := hb.cells13; have Cz := hb.lt; clear hb; have hb := HBP.out; obtain ⟨P0, P1, P2, P3, P4, P5, P6⟩ := hb.cells7; have Pz := hb.lt; clear hb; have HTW := hH (HTA.out w1 (HC.out.1.keeps HK.out (fun _ _ _ _ _ h => h))); go_wp2_with fail; refine HTW.out.mono ?_; rintro e w2 ⟨rfl, hb2, hk2⟩; clear C0 C1 C2 C3 C4 C5 C6 C7 C8 C9 C10 C11 C12 Cz P0 P1 P2 P3 P4 P5 P6 Pz; have hbC := HBC.out.keeps hk2 (fun e' => by rcases e' with e' | e' <;> (rw [HG.out _ (by omega)] at e'; unfold rl at e'; omega)); have hbZ := HBZ.out.keeps hk2 (fun e' => by rcases e' with e' | e' <;> (rw [HG.out _ (by omega)] at e'; unfold rl at e'; omega)); have hbP := HBP.out.keeps hk2 (fun e' => by rcases e' with e' | e' <;> (rw [HG.out _ (by omega)] at e'; unfold rl at e'; omega)); have HCW := hH (HC.out.kept HK.out); have x0 := hbC.cell 0; have z0 := hbZ.cell 0; have zf0 := hbZ.frozen 0; have x1 := hbC.cell 1; have z1 := hbZ.cell 1; have zf1 := hbZ.frozen 1; have x2 := hbC.cell 2; have z2 := hbZ.cell 2; have zf2 := hbZ.frozen 2; have x3 := hbC.cell 3; have z3 := hbZ.cell 3; have zf3 := hbZ.frozen 3; have x4 := hbC.cell 4; have z4 := hbZ.cell 4; have zf4 := hbZ.frozen 4; have x5 := hbC.cell 5; have z5 := hbZ.cell 5; have zf5 := hbZ.frozen 5; have x6 := hbC.cell 6; have z6 := hbZ.cell 6; have zf6 := hbZ.frozen 6; have x7 := hbC.cell 7; have z7 := hbZ.cell 7; have zf7 := hbZ.frozen 7; have x8 := hbC.cell 8; have z8 := hbZ.cell 8; have zf8 := hbZ.frozen 8; have x9 := hbC.cell 9; have z9 := hbZ.cell 9; have zf9 := hbZ.frozen 9; have x10 := hbC.cell 10; have z10 := hbZ.cell 10; have zf10 := hbZ.frozen 10; have x11 := hbC.cell 11; have z11 := hbZ.cell 11; have zf11 := hbZ.frozen 11; have x12 := hbC.cell 12; have z12 := hbZ.cell 12; have zf12 := hbZ.frozen 12; simp at x0 z0 x1 z1 x2 z2 x3 z3 x4 z4 x5 z5 x6 z6 x7 z7 x8 z8 x9 z9 x10 z10 x11 z11 x12 z12; have z2 := hbP.lt; have hw1 := HK.out.size; have HK2 := hH hk2; have HB2 := hH hb2
 have : w.heap.size < w2.heap.size := by omega
 have : w.heap.size < w2.heap.size + 1 := by omega
 have : ¬ w.heap.size = w2.heap.size := by omega
 have : ¬ w2.heap.size = w.heap.size := by omega
 have : w.heap.size + 1 < w2.heap.size := by omega
 have : w.heap.size + 1 < w2.heap.size + 1 := by omega
 have : ¬ w.heap.size + 1 = w2.heap.size := by omega
 have : ¬ w2.heap.size = w.heap.size + 1 := by omega
 clear hbC hbZ hbP hk2 hb2 HBC HBZ HBP HTA HTW; go_wp2; refine bodyPost_ret (v := .tuple #[.agg (chC c), .int .i64 0, .bool false]) (by simp [results, Tryd.results90, go_sem, *]) rfl ?_; have K3 : Keeps (fun b => w.heap.size ≤ b) w2 ((((((((((((((w2.setCell ⟨w.heap.size + 1, 0, none⟩ (.int .i64 c.id)).setCell ⟨w.heap.size + 1, 1, none⟩ (.slice c.bk.A1 c.bk.b.own.length c.bk.c1)).setCell ⟨w.heap.size + 1, 2, none⟩ (.slice c.bk.A2 c.bk.b.notes.length c.bk.c2)).setCell ⟨w.heap.size + 1, 3, none⟩ (.int .i64 c.bk.b.locked)).setCell ⟨w.heap.size + 1, 4, none⟩ (.int .i64 c.st.x.way)).setCell ⟨w.heap.size + 1, 5, none⟩ (.int .i64 c.st.x.ver)).setCell ⟨w.heap.size + 1, 6, none⟩ (.int .i64 c.st.x.want)).setCell ⟨w.heap.size + 1, 7, none⟩ (.slice c.st.A1 c.st.x.sent.length c.st.c1)).setCell ⟨w.heap.size + 1, 8, none⟩ (.slice c.st.A2 c.st.x.live.length c.st.c2)).setCell ⟨w.heap.size + 1, 9, none⟩ (.slice c.st.A3 c.st.x.back.length c.st.c3)).setCell ⟨w.heap.size + 1, 10, none⟩ (.slice c.st.A4 c.st.x.got.length c.st.c4)).setCell ⟨w.heap.size + 1, 11, none⟩ (.slice c.pA c.past.length c.pc)).setCell ⟨w.heap.size + 1, 12, none⟩ (.slice c.kA c.knows.length c.kc)).alloc (.cells (bkC c.bk) 91)) := (((Keeps.refl (fun b => w.heap.size ≤ b) w2)).put13 (w.heap.size + 1) (.inr (by first | omega | (dsimp only; omega)))).alloc _; refine ⟨G0, c, 0, false, rfl, .inr ⟨HB.out, rfl, rfl, rfl⟩, HG'.out, ?_, Keeps.send HG'.out HK.out HK2.out K3⟩; obtain ⟨hB, hS, hP, hI, hN⟩ := HCW.out; exact ⟨HB2.out.keeps K3 (fun b j _ _ e e' => by rw [HG.out b e'] at e; unfold rl at e; omega), (hS.keeps HK2.out (fun b j hj e e' => by rcases e' with e' | e' <;> (rw [e] at e'; unfold rl at e'; omega))).keeps K3 (fun b j _ e e' => by rw [HG.out b e'] at e; unfold rl at e; omega), (hP.keeps HK2.out (fun b e e' => by rcases e' with e' | e' <;> (rw [e] at e'; unfold rl at e'; omega))).keeps K3 (fun b e e' => by rw [HG.out b e'] at e; unfold rl at e; omega), fun s hs => ((hI s hs).keeps HK2.out (fun b j _ e e' => by rcases e' with e' | e' <;> (rw [e] at e'; unfold rl im at e'; omega))).keeps K3 (fun b j _ e e' => by rw [HG.out b e'] at e; unfold im at e; omega), (hN.keeps HK2.out (fun b e e' => by rcases e' with e' | e' <;> (rw [e] at e'; unfold rl at e'; omega))).keeps K3 (fun b e e' => by rw [HG.out b e'] at e; omega)⟩

section
variable {G : Nat → Nat} {i : Nat} {w w' : World} {c : ChM} {A' : Option Addr} {k' : Nat}
theorem ChR.box {S : Nat → Prop} (h : ChR G i w c) (hk : Keeps S w w') (hs : ∀ b, S b → G b = 0) : ChR G i w' c :=
 h.keeps hk fun b hb hS => by
  rcases hb with ⟨k, _, e⟩ | e
  ·rw [hs b hS] at e; unfold rl at e; omega
  ·rw [hs b hS] at e; omega
theorem ChR.app_aux {j : Nat} {v : Value} (hj : j < 7) (h : ChR G i w c) (hv : ∀ g, v.ownBlock = some g → G g = rl i j) (hk : Keeps (fun b => v.ownBlock = some b) w w') :
  (∀ l r, l ≠ j → l < 7 → ∀ {e sz v' n xs}, Rw G (rl i l) w e sz v' n xs → Rw (up G w.heap.size r) (rl i l) w' e sz v' n xs) ∧ (∀ r, BkR G (rl i) w c.bk → (j < 4) → BkR (up G w.heap.size r) (rl i) w' c.bk) ∧
  (∀ r s, StR G im w s → StR (up G w.heap.size r) im w' s) ∧ (∀ r {e sz v' n xs}, Rw G 1 w e sz v' n xs → Rw (up G w.heap.size r) 1 w' e sz v' n xs) := by
 refine ⟨fun l r hl h7 e sz v' n xs hr => ?_, fun r hb h4 => ?_, fun r s hs => ?_, fun r e sz v' n xs hr => ?_⟩
 ·have hr' := hr.keeps hk fun b e e' => by rw [hv b e'] at e; unfold rl at e; omega
  exact ⟨hr'.1, fun g hg => by rw [up_old (hr.lt hg)]; exact hr.2 g hg⟩
 ·have h1 := hb.keeps hk fun b k h4 h6 e e' => by rw [hv b e'] at e; unfold rl at e; omega
  exact ⟨⟨h1.1.1, fun b hb' => by rw [up_old (hb.1.1.lt hb')]; exact hb.1.2 b hb'⟩, h1.2.1, fun b hb' => by rw [up_old (hb.2.1.lt hb')]; exact hb.2.2 b hb'⟩
 ·have h1 := hs.keeps hk fun b k _ e e' => by rw [hv b e'] at e; unfold rl im at e; omega
  exact ⟨⟨h1.1.1, fun g hg => by rw [up_old (hs.1.lt hg)]; exact hs.1.2 g hg⟩, ⟨h1.2.1.1, fun g hg => by rw [up_old (hs.2.1.lt hg)]; exact hs.2.1.2 g hg⟩, ⟨h1.2.2.1.1, fun g hg => by rw [up_old (hs.2.2.1.lt hg)]; exact hs.2.2.1.2 g hg⟩, ⟨h1.2.2.2.1, fun g hg => by rw [up_old (hs.2.2.2.lt hg)]; exact hs.2.2.2.2 g hg⟩⟩
 ·have h1 := hr.keeps hk fun b e e' => by rw [hv b e'] at e; unfold rl at e; omega
  exact ⟨h1.1, fun g hg => by rw [up_old (hr.lt hg)]; exact hr.2 g hg⟩
theorem ChR.app0 {p : Pk} (h : ChR G i w c) (ho : w'.ownsRow 0 29 7 (.slice A' (c.st.x.sent.length + 1) k') (c.st.x.sent.length + 1) (vPs c.st.x.sent ++ p.cs))
  (hk : Keeps (fun b => (Value.slice c.st.A1 c.st.x.sent.length c.st.c1).ownBlock = some b) w w') (hf : ∀ g, (Value.slice A' (c.st.x.sent.length + 1) k').ownBlock = some g → (Value.slice c.st.A1 c.st.x.sent.length c.st.c1).ownBlock = some g ∨ w.heap.size ≤ g) :
  ChR (up G w.heap.size (rl i 0)) i w' { c with st := { c.st with x := { c.st.x with sent := c.st.x.sent ++ [p] }, A1 := A', c1 := k' } } := by
 obtain ⟨a1, a2, a3, a4⟩ := ChR.app_aux (j := 0) (by decide) h h.2.1.1.2 hk; refine ⟨a2 _ h.1 (by decide), ⟨?_, a1 1 _ (by decide) (by decide) h.2.1.2.1, a1 2 _ (by decide) (by decide) h.2.1.2.2.1, a1 3 _ (by decide) (by decide) h.2.1.2.2.2⟩, a1 6 _ (by decide) (by decide) h.2.2.1, fun s hs => a3 _ s (h.2.2.2.1 s hs), a4 _ h.2.2.2.2⟩; have h0 := rw_app h.2.1.1 ho hf; dsimp only; rw [List.length_append, List.length_singleton, vPs_snoc]; exact h0
theorem ChR.app1 {y : Bool} (h : ChR G i w c) (ho : w'.ownsRow 0 4 1 (.slice A' (c.st.x.live.length + 1) k') (c.st.x.live.length + 1) (vBs c.st.x.live ++ [.bool y]))
  (hk : Keeps (fun b => (Value.slice c.st.A2 c.st.x.live.length c.st.c2).ownBlock = some b) w w') (hf : ∀ g, (Value.slice A' (c.st.x.live.length + 1) k').ownBlock = some g → (Value.slice c.st.A2 c.st.x.live.length c.st.c2).ownBlock = some g ∨ w.heap.size ≤ g) :
  ChR (up G w.heap.size (rl i 1)) i w' { c with st := { c.st with x := { c.st.x with live := c.st.x.live ++ [y] }, A2 := A', c2 := k' } } := by
 obtain ⟨a1, a2, a3, a4⟩ := ChR.app_aux (j := 1) (by decide) h h.2.1.2.1.2 hk; refine ⟨a2 _ h.1 (by decide), ⟨a1 0 _ (by decide) (by decide) h.2.1.1, ?_, a1 2 _ (by decide) (by decide) h.2.1.2.2.1, a1 3 _ (by decide) (by decide) h.2.1.2.2.2⟩, a1 6 _ (by decide) (by decide) h.2.2.1, fun s hs => a3 _ s (h.2.2.2.1 s hs), a4 _ h.2.2.2.2⟩; have h0 := rw_app h.2.1.2.1 ho hf; dsimp only; rw [List.length_append, List.length_singleton, vBs_snoc]; exact h0
theorem ChR.app2 {y : Bool} (h : ChR G i w c) (ho : w'.ownsRow 0 4 1 (.slice A' (c.st.x.back.length + 1) k') (c.st.x.back.length + 1) (vBs c.st.x.back ++ [.bool y]))
  (hk : Keeps (fun b => (Value.slice c.st.A3 c.st.x.back.length c.st.c3).ownBlock = some b) w w') (hf : ∀ g, (Value.slice A' (c.st.x.back.length + 1) k').ownBlock = some g → (Value.slice c.st.A3 c.st.x.back.length c.st.c3).ownBlock = some g ∨ w.heap.size ≤ g) :
  ChR (up G w.heap.size (rl i 2)) i w' { c with st := { c.st with x := { c.st.x with back := c.st.x.back ++ [y] }, A3 := A', c3 := k' } } := by
 obtain ⟨a1, a2, a3, a4⟩ := ChR.app_aux (j := 2) (by decide) h h.2.1.2.2.1.2 hk; refine ⟨a2 _ h.1 (by decide), ⟨a1 0 _ (by decide) (by decide) h.2.1.1, a1 1 _ (by decide) (by decide) h.2.1.2.1, ?_, a1 3 _ (by decide) (by decide) h.2.1.2.2.2⟩, a1 6 _ (by decide) (by decide) h.2.2.1, fun s hs => a3 _ s (h.2.2.2.1 s hs), a4 _ h.2.2.2.2⟩; have h0 := rw_app h.2.1.2.2.1 ho hf; dsimp only; rw [List.length_append, List.length_singleton, vBs_snoc]; exact h0
theorem ChR.bank {s : BkM} (h : ChR G i w c) (hb : BkR G (rl i) w' s) (hk : Keeps (MtB G i) w w') : ChR G i w' { c with bk := s } :=
 ⟨hb, h.2.1.keeps hk fun b k _ e e' => by rcases e' with e' | e' <;> (rw [e] at e'; unfold rl at e'; omega), h.2.2.1.keeps hk fun b e e' => by rcases e' with e' | e' <;> (rw [e] at e'; unfold rl at e'; omega),
  fun s hs => (h.2.2.2.1 s hs).keeps hk fun b k _ e e' => by rcases e' with e' | e' <;> (rw [e] at e'; unfold rl im at e'; omega), h.2.2.2.2.keeps hk fun b e e' => by rcases e' with e' | e' <;> (rw [e] at e'; unfold rl at e'; omega)⟩
end
end Go.Proofs.YtjcbeihoeanhaaaDoor

/-! GSendD -/
namespace Go.Proofs.YtjcbeihoeanhaaaDoor
open Go.RowKit

theorem l12Send_yes (G : Nat → Nat) (i : Nat) (c : ChM) (kd f t m u : Int) (w : World) (hc : ChR G i w c) (hx : StFit c.st.x) (hq : okB c.bk.b = true) (h1 : c.st.x.way = 3) (h2 : (⟨(c.st.x.sent.length : Int) + 1, kd, f, t, m, u, c.st.x.ver⟩ : Pk).ok = true) (h3 : m ≤ has c.bk.b kd f) :
  Calls Tryd.prog 90 #[c.val, .int .i64 kd, .int .i64 f, .int .i64 t, .int .i64 m, .int .i64 u] w (RetSend G i w c (⟨(c.st.x.sent.length : Int) + 1, kd, f, t, m, u, c.st.x.ver⟩ : Pk)) := by
 have HB := hH (show sendB c (⟨(c.st.x.sent.length : Int) + 1, kd, f, t, m, u, c.st.x.ver⟩ : Pk) = true by unfold sendB; rw [decide_eq_true h1, h2]; simpa using h3)
 have hc := hc.ext (G' := up G w.heap.size 0) fun b hb => up_old hb
 have HG := hH (show ∀ b, w.heap.size ≤ b → up G w.heap.size 0 b = 0 from fun b hb => up_new hb); have HG' := hH (show ∀ b, b < w.heap.size → up G w.heap.size 0 b = G b from fun b hb => up_old hb); generalize up G w.heap.size 0 = G0 at hc HG HG'; have HC := hH hc; clear hc; have HQ := hH hq; have HX := hH hx; have h8 := hx.n8; clear hx hq; have HBC := hH (((Box.new w (w.heap.size) (by simp) 94 (chC c)).alloc (.cells zC13 94)).alloc (.cells #[.int .i64 ((c.st.x.sent.length : Int) + 1), .int .i64 kd, .int .i64 f, .int .i64 t, .int .i64 m, .int .i64 u, .int .i64 c.st.x.ver] 29)); have HBZ := hH ((Box.new (w.alloc (.cells (chC c) 94)) (w.heap.size + 1) (by simp) 94 zC13).alloc (.cells #[.int .i64 ((c.st.x.sent.length : Int) + 1), .int .i64 kd, .int .i64 f, .int .i64 t, .int .i64 m, .int .i64 u, .int .i64 c.st.x.ver] 29)); have HBP := hH (Box.new ((w.alloc (.cells (chC c) 94)).alloc (.cells zC13 94)) (w.heap.size + 1 + 1) (by simp) 29 #[.int .i64 ((c.st.x.sent.length : Int) + 1), .int .i64 kd, .int .i64 f, .int .i64 t, .int .i64 m, .int .i64 u, .int .i64 c.st.x.ver]); have HK := hH ((((Keeps.refl (noBlk) w).alloc (.cells (chC c) 94)).alloc (.cells zC13 94)).alloc (.cells #[.int .i64 ((c.st.x.sent.length : Int) + 1), .int .i64 kd, .int .i64 f, .int .i64 t, .int .i64 m, .int .i64 u, .int .i64 c.st.x.ver] 29))
 have hsz : w.heap.size + 3 ≤ (((w.alloc (.cells (chC c) 94)).alloc (.cells zC13 94)).alloc (.cells #[.int .i64 ((c.st.x.sent.length : Int) + 1), .int .i64 kd, .int .i64 f, .int .i64 t, .int .i64 m, .int .i64 u, .int .i64 c.st.x.ver] 29)).heap.size := by simp
 have HPK := hH (fun W => (show Calls Tryd.prog 51 #[.agg #[.int .i64 ((c.st.x.sent.length : Int) + 1), .int .i64 kd, .int .i64 f, .int .i64 t, .int .i64 m, .int .i64 u, .int .i64 c.st.x.ver]] W (fun e w' => e = .returned (.bool true) ∧ Keeps noBlk W w') from by rw [← h2]; exact specPk_any _ _ _ _ _ _ _ W))
 have e1 : (c.st.x.way != 3) = false := by simpa using h1
 have pp := pkB_parts h2; dsimp only at pp
 have q2 : kindB kd = true := by simp [kindB]; omega
 have q3 : userB f = true := by simp [userB]; omega
 have hm0 : 0 ≤ m := by omega
 have hm1 : m ≤ 1000 := by omega
 clear pp h2; have HTA := hH (fun W hB => l1Away_g G0 i c.bk kd f m W hB HQ.out q2 q3 hm0 hm1); clear q2 q3 hm0 hm1; have HSE := hH (show ∀ A1 A2 A3 k1 k2 k3, sendCh c (⟨(c.st.x.sent.length : Int) + 1, kd, f, t, m, u, c.st.x.ver⟩ : Pk) A1 A2 A3 k1 k2 k3 = { c with bk := { c.bk with b := turnA c.bk.b kd f m }, st := ⟨{ c.st.x with sent := c.st.x.sent ++ [(⟨(c.st.x.sent.length : Int) + 1, kd, f, t, m, u, c.st.x.ver⟩ : Pk)], live := c.st.x.live ++ [true], back := c.st.x.back ++ [false] }, A1, A2, A3, c.st.A4, k1, k2, k3, c.st.c4⟩ } from fun _ _ _ _ _ _ => rfl); rw [decide_eq_true h3] at HTA; generalize turnA c.bk.b kd f m = b' at HTA HSE; obtain ⟨own', notes', lk'⟩ := b'; have H1 := hH h1; clear h1 h3
 have hl8 : c.st.x.live.length ≤ 8 := by have := HX.out.live; omega
 have hb8 : c.st.x.back.length ≤ 8 := by have := HX.out.back; omega
 unfold RetBk BkM.val at HTA; dsimp only at HTA; unfold ChM.val
 go_enter Tryd.func90, Tryd.ntmps90
 go_wp2_with fail; refine (HPK.out _).mono ?_; rintro e w1 ⟨rfl, hk1⟩; replace HBC := hH (HBC.out.keeps hk1 (fun h => h)); replace HBZ := hH (HBZ.out.keeps hk1 (fun h => h)); replace HBP := hH (HBP.out.keeps hk1 (fun h => h)); replace HK := hH (HK.out.trans hk1); have hb := HBC.out; obtain ⟨C0, C1, C2, C3, C4, C5, C6, C7, C8, C9, C10, C11, C12⟩ := hb.cells13; have Cz := hb.lt; clear hb; have hb := HBP.out; obtain ⟨P0, P1, P2, P3, P4, P5, P6⟩ := hb.cells7; have Pz := hb.lt; clear hb; have HTW := hH (HTA.out w1 (HC.out.1.keeps HK.out (fun _ _ _ _ _ h => h))); go_wp2_with fail; refine HTW.out.mono ?_; rintro e w2 ⟨rfl, hb2, hk2⟩; clear C0 C1 C2 C3 C4 C5 C6 C7 C8 C9 C10 C11 C12 Cz P0 P1 P2 P3 P4 P5 P6 Pz; have HC2 := hH (show ChR G0 i w2 { c with bk := { c.bk with b := ⟨own', notes', lk'⟩ } } from (HC.out.kept HK.out).bank hb2 hk2); have hbC := HBC.out.keeps hk2 (fun e' => by rcases e' with e' | e' <;> (rw [HG.out _ (by omega)] at e'; unfold rl at e'; omega)); have hbZ := HBZ.out.keeps hk2 (fun e' => by rcases e' with e' | e' <;> (rw [HG.out _ (by omega)] at e'; unfold rl at e'; omega)); have hbP := HBP.out.keeps hk2 (fun e' => by rcases e' with e' | e' <;> (rw [HG.out _ (by omega)] at e'; unfold rl at e'; omega)); have hw1 := HK.out.size; have hw2 := hk2.size; have zp := hbP.lt; have HKK := hH ((HK.out.more (T := Mt G0 i) fun _ _ h => h.elim).then hk2 fun b _ e => e.mt); have x0 := hbC.cell 0; have xf0 := hbC.frozen 0; have x1 := hbC.cell 1; have xf1 := hbC.frozen 1; have x2 := hbC.cell 2; have xf2 := hbC.frozen 2; have x3 := hbC.cell 3; have xf3 := hbC.frozen 3; have x4 := hbC.cell 4; have xf4 := hbC.frozen 4; have x5 := hbC.cell 5; have xf5 := hbC.frozen 5; have x6 := hbC.cell 6; have xf6 := hbC.frozen 6; have x7 := hbC.cell 7; have xf7 := hbC.frozen 7; have x8 := hbC.cell 8; have xf8 := hbC.frozen 8; have x9 := hbC.cell 9; have xf9 := hbC.frozen 9; have x10 := hbC.cell 10; have xf10 := hbC.frozen 10; have x11 := hbC.cell 11; have xf11 := hbC.frozen 11; have x12 := hbC.cell 12; have xf12 := hbC.frozen 12; have p0 := hbP.cell 0; have p1 := hbP.cell 1; have p2 := hbP.cell 2; have p3 := hbP.cell 3; have p4 := hbP.cell 4; have p5 := hbP.cell 5; have p6 := hbP.cell 6; simp at x0 x1 x2 x3 x4 x5 x6 x7 x8 x9 x10 x11 x12 p0 p1 p2 p3 p4 p5 p6; clear HBC HBZ HBP; have HBC := hH hbC; have HBZ := hH hbZ; have HBP := hH hbP
 have : w.heap.size < w2.heap.size := by omega
 have : w.heap.size < w2.heap.size + 1 := by omega
 have : w.heap.size < w2.heap.size + 1 + 1 := by omega
 have : ¬ w.heap.size = w2.heap.size := by omega
 have : ¬ w2.heap.size = w.heap.size := by omega
 have : ¬ w.heap.size = w2.heap.size + 1 := by omega
 have : ¬ w2.heap.size + 1 = w.heap.size := by omega
 have : w.heap.size + 1 < w2.heap.size := by omega
 have : w.heap.size + 1 < w2.heap.size + 1 := by omega
 have : w.heap.size + 1 < w2.heap.size + 1 + 1 := by omega
 have : ¬ w.heap.size + 1 = w2.heap.size := by omega
 have : ¬ w2.heap.size = w.heap.size + 1 := by omega
 have : ¬ w.heap.size + 1 = w2.heap.size + 1 := by omega
 have : ¬ w2.heap.size + 1 = w.heap.size + 1 := by omega
 have : w.heap.size + 1 + 1 < w2.heap.size := by omega
 have : w.heap.size + 1 + 1 < w2.heap.size + 1 := by omega
 have : w.heap.size + 1 + 1 < w2.heap.size + 1 + 1 := by omega
 have : ¬ w.heap.size + 1 + 1 = w2.heap.size := by omega
 have : ¬ w2.heap.size = w.heap.size + 1 + 1 := by omega
 have : ¬ w.heap.size + 1 + 1 = w2.heap.size + 1 := by omega
 have : ¬ w2.heap.size + 1 = w.heap.size + 1 + 1 := by omega
 clear hbC hbZ hbP hk2 hb2 HTA HTW; have KB : Keeps (fun b => w.heap.size ≤ b ∧ b < w2.heap.size) w2 ((((w2.setCell ⟨w.heap.size, 1, none⟩ (.slice c.bk.A1 own'.length c.bk.c1)).setCell ⟨w.heap.size, 2, none⟩ (.slice c.bk.A2 notes'.length c.bk.c2)).setCell ⟨w.heap.size, 3, none⟩ (.int .i64 lk')).alloc (.cells #[.slice c.bk.A1 own'.length c.bk.c1, .slice c.bk.A2 notes'.length c.bk.c2, .int .i64 lk'] 91)) := (((Keeps.refl (fun b => w.heap.size ≤ b ∧ b < w2.heap.size) w2)).put3 (w.heap.size) (.inr ⟨by first | omega | (dsimp only; omega), by first | omega | (dsimp only; omega)⟩)).alloc _; have HCB := hH (HC2.out.box KB fun b hb => HG.out b hb.1); have hbc := (((HBC.out.set_ 1 (.slice c.bk.A1 own'.length c.bk.c1)).set_ 2 (.slice c.bk.A2 notes'.length c.bk.c2)).set_ 3 (.int .i64 lk')).alloc (.cells #[.slice c.bk.A1 own'.length c.bk.c1, .slice c.bk.A2 notes'.length c.bk.c2, .int .i64 lk'] 91); simp only [sx] at hbc; have hbz := ((((HBZ.out.far (p := ⟨w.heap.size, 1, none⟩) (by dsimp only; omega) (.slice c.bk.A1 own'.length c.bk.c1)).far (p := ⟨w.heap.size, 2, none⟩) (by dsimp only; omega) (.slice c.bk.A2 notes'.length c.bk.c2)).far (p := ⟨w.heap.size, 3, none⟩) (by dsimp only; omega) (.int .i64 lk')).alloc (.cells #[.slice c.bk.A1 own'.length c.bk.c1, .slice c.bk.A2 notes'.length c.bk.c2, .int .i64 lk'] 91)); have hbp := ((((HBP.out.far (p := ⟨w.heap.size, 1, none⟩) (by dsimp only; omega) (.slice c.bk.A1 own'.length c.bk.c1)).far (p := ⟨w.heap.size, 2, none⟩) (by dsimp only; omega) (.slice c.bk.A2 notes'.length c.bk.c2)).far (p := ⟨w.heap.size, 3, none⟩) (by dsimp only; omega) (.int .i64 lk')).alloc (.cells #[.slice c.bk.A1 own'.length c.bk.c1, .slice c.bk.A2 notes'.length c.bk.c2, .int .i64 lk'] 91)); clear HBC HBZ HBP; have HBC := hH hbc; have HBZ := hH hbz; have HBP := hH hbp; clear hbc hbz hbp
 have hkk := HKK.out.then KB fun b hb e => by omega
 clear HKK; have HKK := hH hkk
 have hszB : w2.heap.size < ((((w2.setCell ⟨w.heap.size, 1, none⟩ (.slice c.bk.A1 own'.length c.bk.c1)).setCell ⟨w.heap.size, 2, none⟩ (.slice c.bk.A2 notes'.length c.bk.c2)).setCell ⟨w.heap.size, 3, none⟩ (.int .i64 lk')).alloc (.cells #[.slice c.bk.A1 own'.length c.bk.c1, .slice c.bk.A2 notes'.length c.bk.c2, .int .i64 lk'] 91)).heap.size := by simp
 clear hkk KB; have HGw := hH True.intro; have HGb := hH (show ∀ b, w.heap.size ≤ b → b < w2.heap.size → G0 b = 0 from fun b h _ => HG.out b h); have HOW := hH HCB.out.2.1.1.1; dsimp only at HOW
 go_wp2_with (at_builtin; refine wpList_app1 _ rfl _ _ 23 rfl 29 (.agg zC7) 7 56 Tryd.underlying23 info_pk rfl (by decide) (by decide) (.slice c.st.A1 c.st.x.sent.length c.st.c1) c.st.x.sent.length (vPs c.st.x.sent) rfl HOW.out _ (by first | rfl | simp) #[.int .i64 ((c.st.x.sent.length : Int) + 1), .int .i64 kd, .int .i64 f, .int .i64 t, .int .i64 m, .int .i64 u, .int .i64 c.st.x.ver] (Pk.cs (⟨(c.st.x.sent.length : Int) + 1, kd, f, t, m, u, c.st.x.ver⟩ : Pk)) rfl rfl rfl ?qd ?qe ?_)
 case qd => first | exact one_pk | rfl
 case qe => omega
 intro B1 k1 w3 ho hk hf; have hro : ∀ b, (Value.slice c.st.A1 c.st.x.sent.length c.st.c1).ownBlock = some b → G0 b = rl i 0 := HCB.out.2.1.1.2
 have hnb : ∀ b, w.heap.size ≤ b → b < w2.heap.size → ¬ (Value.slice c.st.A1 c.st.x.sent.length c.st.c1).ownBlock = some b := fun b h h' e => by have e' := hro b e; rw [HGb.out b h h'] at e'; unfold rl at e'; omega
 have hcn := HCB.out.app0 ho hk (fun g hg => by have := hf g hg; simpa using this); have hbC := HBC.out.keeps hk (hnb _ (by omega) (by omega)); have hbZ := HBZ.out.keeps hk (hnb _ (by omega) (by omega)); have hbP := HBP.out.keeps hk (hnb _ (by omega) (by omega))
 have hkk := HKK.out.then hk fun b hb e => ⟨0, by decide, hro b e⟩
 have hs3 := hk.size
 (try simp only [World.size_setCell] at hs3)
 have hgw : ∀ b, b < w.heap.size → up G0 _ (rl i 0) b = G0 b := fun b hb => by rw [up_old (show b < ((((w2.setCell ⟨w.heap.size, 1, none⟩ (.slice c.bk.A1 own'.length c.bk.c1)).setCell ⟨w.heap.size, 2, none⟩ (.slice c.bk.A2 notes'.length c.bk.c2)).setCell ⟨w.heap.size, 3, none⟩ (.int .i64 lk')).alloc (.cells #[.slice c.bk.A1 own'.length c.bk.c1, .slice c.bk.A2 notes'.length c.bk.c2, .int .i64 lk'] 91)).heap.size by (try simp only [World.size_setCell]); omega)]
 have hgb : ∀ b, w.heap.size ≤ b → b < w2.heap.size → up G0 _ (rl i 0) b = 0 := fun b h h' => by rw [up_old (show b < ((((w2.setCell ⟨w.heap.size, 1, none⟩ (.slice c.bk.A1 own'.length c.bk.c1)).setCell ⟨w.heap.size, 2, none⟩ (.slice c.bk.A2 notes'.length c.bk.c2)).setCell ⟨w.heap.size, 3, none⟩ (.int .i64 lk')).alloc (.cells #[.slice c.bk.A1 own'.length c.bk.c1, .slice c.bk.A2 notes'.length c.bk.c2, .int .i64 lk'] 91)).heap.size by (try simp only [World.size_setCell]); omega)]; exact HGb.out b h h'
 clear HGw HGb HCB HKK HBC HBZ HBP hro hnb HOW ho hk hf; generalize up G0 _ (rl i 0) = G1 at hcn hgw hgb; have HGw := hH hgw; have HGb := hH hgb; clear hgw hgb; have hset := (Keeps.refl (one w.heap.size) w3).set1 7 (.slice B1 (c.st.x.sent.length + 1) k1); have HCB := hH (hcn.box hset fun b hb => by have e : b = w.heap.size := hb; rw [e]; exact HGb.out _ (by omega) (by omega)); have hb9 := hbC.set_ 7 (.slice B1 (c.st.x.sent.length + 1) k1); simp only [sx] at hb9; clear x0 xf0 x1 xf1 x2 xf2 x3 xf3 x4 xf4 x5 xf5 x6 xf6 x7 xf7 x8 xf8 x9 xf9 x10 xf10 x11 xf11 x12 xf12 p0 p1 p2 p3 p4 p5 p6; have x0 := hbC.cell 0; have xf0 := hbC.frozen 0; have x1 := hbC.cell 1; have xf1 := hbC.frozen 1; have x2 := hbC.cell 2; have xf2 := hbC.frozen 2; have x3 := hbC.cell 3; have xf3 := hbC.frozen 3; have x4 := hbC.cell 4; have xf4 := hbC.frozen 4; have x5 := hbC.cell 5; have xf5 := hbC.frozen 5; have x6 := hbC.cell 6; have xf6 := hbC.frozen 6; have x7 := hbC.cell 7; have xf7 := hbC.frozen 7; have x8 := hbC.cell 8; have xf8 := hbC.frozen 8; have x9 := hbC.cell 9; have xf9 := hbC.frozen 9; have x10 := hbC.cell 10; have xf10 := hbC.frozen 10; have x11 := hbC.cell 11; have xf11 := hbC.frozen 11; have x12 := hbC.cell 12; have xf12 := hbC.frozen 12; have p0 := hbP.cell 0; have p1 := hbP.cell 1; have p2 := hbP.cell 2; have p3 := hbP.cell 3; have p4 := hbP.cell 4; have p5 := hbP.cell 5; have p6 := hbP.cell 6; simp at x0 x1 x2 x3 x4 x5 x6 x7 x8 x9 x10 x11 x12 p0 p1 p2 p3 p4 p5 p6; have HBC := hH hb9; have HBZ := hH (hbZ.far (p := ⟨w.heap.size, 7, none⟩) (by dsimp only; omega) (.slice B1 (c.st.x.sent.length + 1) k1)); have HBP := hH (hbP.far (p := ⟨w.heap.size, 7, none⟩) (by dsimp only; omega) (.slice B1 (c.st.x.sent.length + 1) k1)); have HKK := hH (hkk.then hset fun b hb e => by have e' : b = w.heap.size := e; omega); clear hcn hset hb9 hbC hbZ hbP hkk
 have : w.heap.size < w3.heap.size := by omega
 have : w.heap.size < w3.heap.size + 1 := by omega
 have : ¬ w.heap.size = w3.heap.size := by omega
 have : ¬ w3.heap.size = w.heap.size := by omega
 have : w.heap.size + 1 < w3.heap.size := by omega
 have : w.heap.size + 1 < w3.heap.size + 1 := by omega
 have : ¬ w.heap.size + 1 = w3.heap.size := by omega
 have : ¬ w3.heap.size = w.heap.size + 1 := by omega
 have : w.heap.size + 1 + 1 < w3.heap.size := by omega
 have : w.heap.size + 1 + 1 < w3.heap.size + 1 := by omega
 have : ¬ w.heap.size + 1 + 1 = w3.heap.size := by omega
 have : ¬ w3.heap.size = w.heap.size + 1 + 1 := by omega
 have HOW := hH HCB.out.2.1.2.1.1; dsimp only at HOW
 go_wp2_with (at_builtin; refine wpList_app1 _ rfl _ _ 24 rfl 4 (.bool false) 1 1 Tryd.underlying24 info_bool rfl (by decide) (by decide) (.slice c.st.A2 c.st.x.live.length c.st.c2) c.st.x.live.length (vBs c.st.x.live) rfl HOW.out _ (by first | rfl | simp) #[.bool true] [.bool true] rfl rfl rfl ?qd ?qe ?_)
 case qd => first | exact (one_bools (xs := [true])) | rfl
 case qe => omega
 intro B2 k2 w4 ho hk hf; have hro : ∀ b, (Value.slice c.st.A2 c.st.x.live.length c.st.c2).ownBlock = some b → G1 b = rl i 1 := HCB.out.2.1.2.1.2
 have hnb : ∀ b, w.heap.size ≤ b → b < w2.heap.size → ¬ (Value.slice c.st.A2 c.st.x.live.length c.st.c2).ownBlock = some b := fun b h h' e => by have e' := hro b e; rw [HGb.out b h h'] at e'; unfold rl at e'; omega
 have hcn := HCB.out.app1 ho hk (fun g hg => by have := hf g hg; simpa using this); have hbC := HBC.out.keeps hk (hnb _ (by omega) (by omega)); have hbZ := HBZ.out.keeps hk (hnb _ (by omega) (by omega)); have hbP := HBP.out.keeps hk (hnb _ (by omega) (by omega))
 have hkk := HKK.out.then hk fun b hb e => ⟨1, by decide, by rw [← HGw.out b hb]; exact hro b e⟩
 have hs4 := hk.size
 (try simp only [World.size_setCell] at hs4)
 have hgw : ∀ b, b < w.heap.size → up G1 _ (rl i 1) b = G0 b := fun b hb => by rw [up_old (show b < (w3.setCell ⟨w.heap.size, 7, none⟩ (.slice B1 (c.st.x.sent.length + 1) k1)).heap.size by (try simp only [World.size_setCell]); omega)]; exact HGw.out b hb
 have hgb : ∀ b, w.heap.size ≤ b → b < w2.heap.size → up G1 _ (rl i 1) b = 0 := fun b h h' => by rw [up_old (show b < (w3.setCell ⟨w.heap.size, 7, none⟩ (.slice B1 (c.st.x.sent.length + 1) k1)).heap.size by (try simp only [World.size_setCell]); omega)]; exact HGb.out b h h'
 clear HGw HGb HCB HKK HBC HBZ HBP hro hnb HOW ho hk hf; generalize up G1 _ (rl i 1) = G2 at hcn hgw hgb; have HGw := hH hgw; have HGb := hH hgb; clear hgw hgb; have hset := (Keeps.refl (one w.heap.size) w4).set1 8 (.slice B2 (c.st.x.live.length + 1) k2); have HCB := hH (hcn.box hset fun b hb => by have e : b = w.heap.size := hb; rw [e]; exact HGb.out _ (by omega) (by omega)); have hb9 := hbC.set_ 8 (.slice B2 (c.st.x.live.length + 1) k2); simp only [sx] at hb9; clear x0 xf0 x1 xf1 x2 xf2 x3 xf3 x4 xf4 x5 xf5 x6 xf6 x7 xf7 x8 xf8 x9 xf9 x10 xf10 x11 xf11 x12 xf12 p0 p1 p2 p3 p4 p5 p6; have x0 := hbC.cell 0; have xf0 := hbC.frozen 0; have x1 := hbC.cell 1; have xf1 := hbC.frozen 1; have x2 := hbC.cell 2; have xf2 := hbC.frozen 2; have x3 := hbC.cell 3; have xf3 := hbC.frozen 3; have x4 := hbC.cell 4; have xf4 := hbC.frozen 4; have x5 := hbC.cell 5; have xf5 := hbC.frozen 5; have x6 := hbC.cell 6; have xf6 := hbC.frozen 6; have x7 := hbC.cell 7; have xf7 := hbC.frozen 7; have x8 := hbC.cell 8; have xf8 := hbC.frozen 8; have x9 := hbC.cell 9; have xf9 := hbC.frozen 9; have x10 := hbC.cell 10; have xf10 := hbC.frozen 10; have x11 := hbC.cell 11; have xf11 := hbC.frozen 11; have x12 := hbC.cell 12; have xf12 := hbC.frozen 12; have p0 := hbP.cell 0; have p1 := hbP.cell 1; have p2 := hbP.cell 2; have p3 := hbP.cell 3; have p4 := hbP.cell 4; have p5 := hbP.cell 5; have p6 := hbP.cell 6; simp at x0 x1 x2 x3 x4 x5 x6 x7 x8 x9 x10 x11 x12 p0 p1 p2 p3 p4 p5 p6; have HBC := hH hb9; have HBZ := hH (hbZ.far (p := ⟨w.heap.size, 8, none⟩) (by dsimp only; omega) (.slice B2 (c.st.x.live.length + 1) k2)); have HBP := hH (hbP.far (p := ⟨w.heap.size, 8, none⟩) (by dsimp only; omega) (.slice B2 (c.st.x.live.length + 1) k2)); have HKK := hH (hkk.then hset fun b hb e => by have e' : b = w.heap.size := e; omega); clear hcn hset hb9 hbC hbZ hbP hkk
 have : w.heap.size < w4.heap.size := by omega
 have : w.heap.size < w4.heap.size + 1 := by omega
 have : ¬ w.heap.size = w4.heap.size := by omega
 have : ¬ w4.heap.size = w.heap.size := by omega
 have : w.heap.size + 1 < w4.heap.size := by omega
 have : w.heap.size + 1 < w4.heap.size + 1 := by omega
 have : ¬ w.heap.size + 1 = w4.heap.size := by omega
 have : ¬ w4.heap.size = w.heap.size + 1 := by omega
 have : w.heap.size + 1 + 1 < w4.heap.size := by omega
 have : w.heap.size + 1 + 1 < w4.heap.size + 1 := by omega
 have : ¬ w.heap.size + 1 + 1 = w4.heap.size := by omega
 have : ¬ w4.heap.size = w.heap.size + 1 + 1 := by omega
 have HOW := hH HCB.out.2.1.2.2.1.1; dsimp only at HOW
 go_wp2_with (at_builtin; refine wpList_app1 _ rfl _ _ 24 rfl 4 (.bool false) 1 1 Tryd.underlying24 info_bool rfl (by decide) (by decide) (.slice c.st.A3 c.st.x.back.length c.st.c3) c.st.x.back.length (vBs c.st.x.back) rfl HOW.out _ (by first | rfl | simp) #[.bool false] [.bool false] rfl rfl rfl ?qd ?qe ?_)
 case qd => first | exact (one_bools (xs := [false])) | rfl
 case qe => omega
 intro B3 k3 w5 ho hk hf; have hro : ∀ b, (Value.slice c.st.A3 c.st.x.back.length c.st.c3).ownBlock = some b → G2 b = rl i 2 := HCB.out.2.1.2.2.1.2
 have hnb : ∀ b, w.heap.size ≤ b → b < w2.heap.size → ¬ (Value.slice c.st.A3 c.st.x.back.length c.st.c3).ownBlock = some b := fun b h h' e => by have e' := hro b e; rw [HGb.out b h h'] at e'; unfold rl at e'; omega
 have hcn := HCB.out.app2 ho hk (fun g hg => by have := hf g hg; simpa using this); have hbC := HBC.out.keeps hk (hnb _ (by omega) (by omega)); have hbZ := HBZ.out.keeps hk (hnb _ (by omega) (by omega)); have hbP := HBP.out.keeps hk (hnb _ (by omega) (by omega))
 have hkk := HKK.out.then hk fun b hb e => ⟨2, by decide, by rw [← HGw.out b hb]; exact hro b e⟩
 have hs5 := hk.size
 (try simp only [World.size_setCell] at hs5)
 have hgw : ∀ b, b < w.heap.size → up G2 _ (rl i 2) b = G0 b := fun b hb => by rw [up_old (show b < (w4.setCell ⟨w.heap.size, 8, none⟩ (.slice B2 (c.st.x.live.length + 1) k2)).heap.size by (try simp only [World.size_setCell]); omega)]; exact HGw.out b hb
 have hgb : ∀ b, w.heap.size ≤ b → b < w2.heap.size → up G2 _ (rl i 2) b = 0 := fun b h h' => by rw [up_old (show b < (w4.setCell ⟨w.heap.size, 8, none⟩ (.slice B2 (c.st.x.live.length + 1) k2)).heap.size by (try simp only [World.size_setCell]); omega)]; exact HGb.out b h h'
 clear HGw HGb HCB HKK HBC HBZ HBP hro hnb HOW ho hk hf; generalize up G2 _ (rl i 2) = G3 at hcn hgw hgb; have HGw := hH hgw; have HGb := hH hgb; clear hgw hgb; have hset := (Keeps.refl (one w.heap.size) w5).set1 9 (.slice B3 (c.st.x.back.length + 1) k3); have HCB := hH (hcn.box hset fun b hb => by have e : b = w.heap.size := hb; rw [e]; exact HGb.out _ (by omega) (by omega)); have hb9 := hbC.set_ 9 (.slice B3 (c.st.x.back.length + 1) k3); simp only [sx] at hb9; clear x0 xf0 x1 xf1 x2 xf2 x3 xf3 x4 xf4 x5 xf5 x6 xf6 x7 xf7 x8 xf8 x9 xf9 x10 xf10 x11 xf11 x12 xf12 p0 p1 p2 p3 p4 p5 p6; have x0 := hbC.cell 0; have xf0 := hbC.frozen 0; have x1 := hbC.cell 1; have xf1 := hbC.frozen 1; have x2 := hbC.cell 2; have xf2 := hbC.frozen 2; have x3 := hbC.cell 3; have xf3 := hbC.frozen 3; have x4 := hbC.cell 4; have xf4 := hbC.frozen 4; have x5 := hbC.cell 5; have xf5 := hbC.frozen 5; have x6 := hbC.cell 6; have xf6 := hbC.frozen 6; have x7 := hbC.cell 7; have xf7 := hbC.frozen 7; have x8 := hbC.cell 8; have xf8 := hbC.frozen 8; have x9 := hbC.cell 9; have xf9 := hbC.frozen 9; have x10 := hbC.cell 10; have xf10 := hbC.frozen 10; have x11 := hbC.cell 11; have xf11 := hbC.frozen 11; have x12 := hbC.cell 12; have xf12 := hbC.frozen 12; have p0 := hbP.cell 0; have p1 := hbP.cell 1; have p2 := hbP.cell 2; have p3 := hbP.cell 3; have p4 := hbP.cell 4; have p5 := hbP.cell 5; have p6 := hbP.cell 6; simp at x0 x1 x2 x3 x4 x5 x6 x7 x8 x9 x10 x11 x12 p0 p1 p2 p3 p4 p5 p6; have HBC := hH hb9; have HBZ := hH (hbZ.far (p := ⟨w.heap.size, 9, none⟩) (by dsimp only; omega) (.slice B3 (c.st.x.back.length + 1) k3)); have HBP := hH (hbP.far (p := ⟨w.heap.size, 9, none⟩) (by dsimp only; omega) (.slice B3 (c.st.x.back.length + 1) k3)); have HKK := hH (hkk.then hset fun b hb e => by have e' : b = w.heap.size := e; omega); clear hcn hset hb9 hbC hbZ hbP hkk
 have : w.heap.size < w5.heap.size := by omega
 have : w.heap.size < w5.heap.size + 1 := by omega
 have : ¬ w.heap.size = w5.heap.size := by omega
 have : ¬ w5.heap.size = w.heap.size := by omega
 have : w.heap.size + 1 < w5.heap.size := by omega
 have : w.heap.size + 1 < w5.heap.size + 1 := by omega
 have : ¬ w.heap.size + 1 = w5.heap.size := by omega
 have : ¬ w5.heap.size = w.heap.size + 1 := by omega
 have : w.heap.size + 1 + 1 < w5.heap.size := by omega
 have : w.heap.size + 1 + 1 < w5.heap.size + 1 := by omega
 have : ¬ w.heap.size + 1 + 1 = w5.heap.size := by omega
 have : ¬ w5.heap.size = w.heap.size + 1 + 1 := by omega
 have hb := HBZ.out; have z0 := hb.cell 0; have zf0 := hb.frozen 0; have z1 := hb.cell 1; have zf1 := hb.frozen 1; have z2 := hb.cell 2; have zf2 := hb.frozen 2; have z3 := hb.cell 3; have zf3 := hb.frozen 3; have z4 := hb.cell 4; have zf4 := hb.frozen 4; have z5 := hb.cell 5; have zf5 := hb.frozen 5; have z6 := hb.cell 6; have zf6 := hb.frozen 6; have z7 := hb.cell 7; have zf7 := hb.frozen 7; have z8 := hb.cell 8; have zf8 := hb.frozen 8; have z9 := hb.cell 9; have zf9 := hb.frozen 9; have z10 := hb.cell 10; have zf10 := hb.frozen 10; have z11 := hb.cell 11; have zf11 := hb.frozen 11; have z12 := hb.cell 12; have zf12 := hb.frozen 12; simp at z0 z1 z2 z3 z4 z5 z6 z7 z8 z9 z10 z11 z12; clear hb; go_wp2_with fail
 go_region
 all_goals
  go_wp2; refine bodyPost_ret (v := .tuple #[.agg #[.int .i64 c.id, .slice c.bk.A1 own'.length c.bk.c1, .slice c.bk.A2 notes'.length c.bk.c2, .int .i64 lk', .int .i64 c.st.x.way, .int .i64 c.st.x.ver, .int .i64 c.st.x.want, .slice B1 (c.st.x.sent.length + 1) k1, .slice B2 (c.st.x.live.length + 1) k2, .slice B3 (c.st.x.back.length + 1) k3, .slice c.st.A4 c.st.x.got.length c.st.c4, .slice c.pA c.past.length c.pc, .slice c.kA c.knows.length c.kc], .int .i64 ((c.st.x.sent.length : Int) + 1), .bool true]) (by simp [results, Tryd.results90, go_sem, *]) rfl ?_; have K13 := (((((((((((((((Keeps.refl (one (w.heap.size + 1)) (w5.setCell ⟨w.heap.size, 9, none⟩ (.slice B3 (c.st.x.back.length + 1) k3)))).set1 0 (.int .i64 c.id)).set1 1 (.slice c.bk.A1 own'.length c.bk.c1)).set1 2 (.slice c.bk.A2 notes'.length c.bk.c2)).set1 3 (.int .i64 lk')).set1 4 (.int .i64 c.st.x.way)).set1 5 (.int .i64 c.st.x.ver)).set1 6 (.int .i64 c.st.x.want)).set1 7 (.slice B1 (c.st.x.sent.length + 1) k1)).set1 8 (.slice B2 (c.st.x.live.length + 1) k2)).set1 9 (.slice B3 (c.st.x.back.length + 1) k3)).set1 10 (.slice c.st.A4 c.st.x.got.length c.st.c4)).set1 11 (.slice c.pA c.past.length c.pc)).set1 12 (.slice c.kA c.knows.length c.kc)).drew; refine ⟨G3, sendCh c (⟨(c.st.x.sent.length : Int) + 1, kd, f, t, m, u, c.st.x.ver⟩ : Pk) B1 B2 B3 k1 k2 k3, _, true, ?_, .inl ⟨HB.out, rfl, rfl, B1, B2, B3, k1, k2, k3, rfl⟩, fun b hb => (HGw.out b hb).trans (HG'.out b hb), ?_, ?_⟩
  ·rw [HSE.out]; simp [ChM.val]
  ·rw [HSE.out]
   have hfin := HCB.out.box K13 (fun b hb => by have e : b = w.heap.size + 1 := hb; rw [e]; exact HGb.out _ (by omega) (by omega)); exact hfin
  ·refine (HKK.out.then K13 fun b hb e => by have e' : b = w.heap.size + 1 := e; omega).more fun b hb h => ?_
   obtain ⟨j, hj, e⟩ := h; exact ⟨j, hj, by rw [← HG'.out b hb]; exact e⟩
theorem l12Send_any (G : Nat → Nat) (i : Nat) (c : ChM) (kd f t m u : Int) (w : World) (hc : ChR G i w c) (hx : StFit c.st.x) (hq : okB c.bk.b = true) :
  Calls Tryd.prog 90 #[c.val, .int .i64 kd, .int .i64 f, .int .i64 t, .int .i64 m, .int .i64 u] w (RetSend G i w c (⟨(c.st.x.sent.length : Int) + 1, kd, f, t, m, u, c.st.x.ver⟩ : Pk)) := by
 by_cases h1 : c.st.x.way = 3
 ·cases h2 : (⟨(c.st.x.sent.length : Int) + 1, kd, f, t, m, u, c.st.x.ver⟩ : Pk).ok with
  | false => exact l12Send_bad G i c kd f t m u w hc hx hq h1 h2
  | true =>
   by_cases h3 : m ≤ has c.bk.b kd f
   ·exact l12Send_yes G i c kd f t m u w hc hx hq h1 h2 h3
   ·exact l12Send_poor G i c kd f t m u w hc hx hq h1 h2 h3
 ·exact l12Send_shut G i c kd f t m u w hc hx hq h1
end Go.Proofs.YtjcbeihoeanhaaaDoor
