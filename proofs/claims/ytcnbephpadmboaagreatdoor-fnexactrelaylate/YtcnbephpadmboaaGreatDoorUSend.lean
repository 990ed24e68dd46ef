/- l12Block of the model: a chain ends a height. l12Send of the model: a chain sends coins. l12Send of the model: the packet is ok. l12Send of the model: it is sent. l12Send of the model: it is sent, the walk. -/
import Derived.Test.YtcnbephpadmboaaGreatDoorULate
import Derived.Deep.RegionLaw
import Derived.Test.YtcnbephpadmboaaGreatDoorUPk
set_option linter.unusedVariables false
set_option linter.unusedSimpArgs false
/-! GBlock -/
namespace Go.Proofs.YtcnbephpadmboaaGreatDoor
open Go.RowKit

theorem info_stG : (Tryz.prog.info? 39).map (fun i => (i.zero, i.size, i.bytes)) = some (some (.agg #[.int .i64 0, .int .i64 0, .int .i64 0, .slice none 0 0, .slice none 0 0, .slice none 0 0, .slice none 0 0]), 7, 120) := by kernel_rfl
theorem one_st {s : StM} : ∀ u ∈ s.cs, u.oneCell' = true := by
  intro u hu
  simp only [StM.cs, List.mem_cons, List.not_mem_nil, or_false] at hu
  rcases hu with rfl | rfl | rfl | rfl | rfl | rfl | rfl <;> rfl
/-- What a chain is behind a height. -/
def blockP (c c' : ChM) : Prop := if c.past.length < 90 then ∃ (s : StM) (A : Option Addr) (k : Nat), s.x = c.st.x ∧ c' = { c with past := c.past ++ [s], pA := A, pc := k } else c' = c
theorem block_end {G : Nat → Nat} {i : Nat} {w W0 w1 w2 WF : World} {c : ChM} {s1 : StM} {A' : Option Addr} {k' : Nat}
    (hC : ChR G i w c) (hk0 : Keeps noBlk w W0) (hk1 : Keeps noBlk W0 w1) (hst : ∀ G ρ : Nat → Nat, ∃ G' : Nat → Nat, (∀ b, b < W0.heap.size → G' b = G b) ∧ StR G' ρ w1 s1)
    (ho : w2.ownsRow 0 39 7 (.slice A' (c.past.length + 1) k') (c.past.length + 1) (vSs c.past ++ s1.cs))
    (hk2 : Keeps (fun b => (Value.slice c.pA c.past.length c.pc).ownBlock = some b) w1 w2)
    (hf : ∀ g, (Value.slice A' (c.past.length + 1) k').ownBlock = some g → (Value.slice c.pA c.past.length c.pc).ownBlock = some g ∨ w1.heap.size ≤ g)
    (hk3 : Keeps (fun b => w.heap.size ≤ b ∧ b < W0.heap.size) w2 WF) :
    ∃ G' : Nat → Nat, (∀ b, b < w.heap.size → G' b = G b) ∧ ChR G' i WF { c with past := c.past ++ [s1], pA := A', pc := k' } ∧ Keeps (Mt G i) w WF := by
  obtain ⟨G1, hG1, hS1⟩ := hst (up G w.heap.size 0) im
  have hs0 := hk0.size
  have hs1 := hk1.size
  have g0 : ∀ b, b < w.heap.size → up G w.heap.size 0 b = G b := fun b hb => up_old hb
  have c1 : ChR G1 i w1 c := (((hC.ext (G' := up G w.heap.size 0) g0).kept hk0).ext (G' := G1) hG1).kept hk1
  have hpr : ∀ b, (Value.slice c.pA c.past.length c.pc).ownBlock = some b → G1 b = rl i 6 := c1.2.2.1.2
  have hold : ∀ b, (Value.slice c.pA c.past.length c.pc).ownBlock = some b → G b = rl i 6 := hC.2.2.1.2
  have c2 : ChR (up G1 w1.heap.size (rl i 6)) i w1 c := c1.ext fun b hb => up_old hb
  have s2 : StR (up G1 w1.heap.size (rl i 6)) im w1 s1 := hS1.ext fun b hb => up_old hb
  have hpu : ∀ b, (Value.slice c.pA c.past.length c.pc).ownBlock = some b → up G1 w1.heap.size (rl i 6) b = rl i 6 := c2.2.2.1.2
  have hbx : ∀ b, w.heap.size ≤ b → b < W0.heap.size → up G1 w1.heap.size (rl i 6) b = 0 := fun b h h' => by rw [up_old (by omega), hG1 b h', up_new h]
  have hnew : ∀ b, w1.heap.size ≤ b → up G1 w1.heap.size (rl i 6) b = rl i 6 := fun b h => up_new h
  have hG2 : ∀ b, b < w.heap.size → up G1 w1.heap.size (rl i 6) b = G b := fun b hb => by rw [up_old (by omega), hG1 b (by omega), up_old hb]
  refine ⟨up G1 w1.heap.size (rl i 6), hG2, ?_, ?_⟩
  · generalize up G1 w1.heap.size (rl i 6) = G2 at *
    obtain ⟨hB, ⟨h1, h2, h3, h4⟩, hP, hI, hN⟩ := c2
    have n6 : ∀ k, k < 6 → ∀ b, G2 b = rl i k → ¬ (Value.slice c.pA c.past.length c.pc).ownBlock = some b := fun k hk b e e' => by rw [hpu b e'] at e; unfold rl at e; omega
    have n1 : ∀ b, G2 b = 1 → ¬ (Value.slice c.pA c.past.length c.pc).ownBlock = some b := fun b e e' => by rw [hpu b e'] at e; unfold rl at e; omega
    have b6 : ∀ k b, G2 b = rl i k → ¬ (w.heap.size ≤ b ∧ b < W0.heap.size) := fun k b e e' => by rw [hbx b e'.1 e'.2] at e; unfold rl at e; omega
    have b1 : ∀ b, G2 b = 1 → ¬ (w.heap.size ≤ b ∧ b < W0.heap.size) := fun b e e' => by rw [hbx b e'.1 e'.2] at e; omega
    refine ⟨(hB.keeps hk2 fun b k _ h6 e => n6 k h6 b e).keeps hk3 fun b k _ _ e => b6 k b e, ⟨(h1.keeps hk2 (n6 0 (by decide))).keeps hk3 (b6 0), (h2.keeps hk2 (n6 1 (by decide))).keeps hk3 (b6 1), (h3.keeps hk2 (n6 2 (by decide))).keeps hk3 (b6 2), (h4.keeps hk2 (n6 3 (by decide))).keeps hk3 (b6 3)⟩, ?_, ?_, (hN.keeps hk2 n1).keeps hk3 b1⟩
    · dsimp only
      rw [List.length_append, List.length_singleton, vSs_snoc]
      refine Rw.keeps ⟨ho, fun g hg => ?_⟩ hk3 (b6 6)
      rcases hf g hg with h | h
      · exact hpu g h
      · exact hnew g h
    · intro s hs
      rcases List.mem_append.1 hs with hs | hs
      · exact ((hI s hs).keeps hk2 fun b _ _ e => n1 b e).keeps hk3 fun b _ _ e => b1 b e
      · obtain rfl := List.mem_singleton.1 hs
        exact (s2.keeps hk2 fun b _ _ e => n1 b e).keeps hk3 fun b _ _ e => b1 b e
  · exact (((hk0.trans hk1).more (T := Mt G i) fun _ _ h => h.elim).then hk2 fun b _ e => ⟨6, by decide, hold b e⟩).then hk3 fun b hb e => by omega
end Go.Proofs.YtcnbephpadmboaaGreatDoor

/-! GSendA -/
namespace Go.Proofs.YtcnbephpadmboaaGreatDoor
open Go.RowKit

def sendB (c : ChM) (p : Pk) : Bool := decide (c.st.x.way = 3) && p.ok && decide (p.m ≤ has c.bk.b p.k p.f)
def sendCh (c : ChM) (p : Pk) (A1 A2 A3 : Option Addr) (k1 k2 k3 : Nat) : ChM :=
  { c with bk := { c.bk with b := turnA c.bk.b p.k p.f p.m }, st := ⟨{ c.st.x with sent := c.st.x.sent ++ [p], live := c.st.x.live ++ [true], back := c.st.x.back ++ [false] }, A1, A2, A3, c.st.A4, k1, k2, k3, c.st.c4⟩ }
/-- What sending makes of a chain. -/
def sendP (c : ChM) (p : Pk) (c' : ChM) (n : Int) (o : Bool) : Prop :=
  (sendB c p = true ∧ n = p.s ∧ o = true ∧ ∃ A1 A2 A3 k1 k2 k3, c' = sendCh c p A1 A2 A3 k1 k2 k3) ∨ (sendB c p = false ∧ n = 0 ∧ o = false ∧ c' = c)
def RetSend (G : Nat → Nat) (i : Nat) (w : World) (c : ChM) (p : Pk) (e : Ending) (w' : World) : Prop :=
  ∃ (G' : Nat → Nat) (c' : ChM) (n : Int) (o : Bool), e = .returned (.tuple #[c'.val, .int .i64 n, .bool o]) ∧ sendP c p c' n o ∧ (∀ b, b < w.heap.size → G' b = G b) ∧ ChR G' i w' c' ∧ Keeps (Mt G i) w w'
theorem send_no {G : Nat → Nat} {i : Nat} {w W : World} {c : ChM} {p : Pk} (h : sendB c p = false) (hC : ChR G i w c) (hk : Keeps noBlk w W) : RetSend G i w c p (.returned (.tuple #[c.val, .int .i64 0, .bool false])) W :=
  ⟨G, c, 0, false, rfl, .inr ⟨h, rfl, rfl, rfl⟩, fun _ _ => rfl, hC.kept hk, hk.more fun _ _ h => h.elim⟩
/-- One row is made longer: it keeps its role, the others theirs. -/
theorem rw_app {G : Nat → Nat} {r : Nat} {w w' : World} {e : TypeId} {sz n c c' : Nat} {A A' : Option Addr} {xs ys : List Value} (h : Rw G r w e sz (.slice A n c) n xs)
    (ho : w'.ownsRow 0 e sz (.slice A' (n + 1) c') (n + 1) ys) (hf : ∀ g, (Value.slice A' (n + 1) c').ownBlock = some g → (Value.slice A n c).ownBlock = some g ∨ w.heap.size ≤ g) :
    Rw (up G w.heap.size r) r w' e sz (.slice A' (n + 1) c') (n + 1) ys := by
  refine ⟨ho, fun g hg => ?_⟩
  rcases hf g hg with h1 | h1
  · rw [up_old (h.lt h1)]
    exact h.2 g h1
  · exact up_new h1
/-- The step's world: what was of another role stays. -/
theorem keeps_role {G : Nat → Nat} {r : Nat} {w w' : World} {v : Value} (hk : Keeps (fun b => v.ownBlock = some b) w w') (h : ∀ g, v.ownBlock = some g → G g = r) : Keeps (fun b => G b = r) w w' := hk.more fun b _ e => h b e
end Go.Proofs.YtcnbephpadmboaaGreatDoor

/-! GSendB -/
namespace Go.Proofs.YtcnbephpadmboaaGreatDoor
open Go.RowKit

theorem Keeps.send {G G0 : Nat → Nat} {i : Nat} {w W1 w2 W : World} (hG : ∀ b, b < w.heap.size → G0 b = G b) (hk1 : Keeps noBlk w W1) (hk2 : Keeps (MtB G0 i) W1 w2) (hk3 : Keeps (fun b => w.heap.size ≤ b) w2 W) : Keeps (Mt G i) w W := by
  refine (((hk1.more (T := Mt G0 i) fun _ _ h => h.elim).then hk2 fun b _ h => h.mt).then hk3 fun b hb h => by omega).more fun b hb h => ?_
  obtain ⟨j, hj, e⟩ := h
  exact ⟨j, hj, by rw [← hG b hb]; exact e⟩
end Go.Proofs.YtcnbephpadmboaaGreatDoor

/-! GSendC -/
namespace Go.Proofs.YtcnbephpadmboaaGreatDoor
open Go.RowKit

section
variable {G : Nat → Nat} {i : Nat} {w w' : World} {c : ChM} {A' : Option Addr} {k' : Nat}
theorem ChR.box {S : Nat → Prop} (h : ChR G i w c) (hk : Keeps S w w') (hs : ∀ b, S b → G b = 0) : ChR G i w' c :=
  h.keeps hk fun b hb hS => by
    rcases hb with ⟨k, _, e⟩ | e
    · rw [hs b hS] at e; unfold rl at e; omega
    · rw [hs b hS] at e; omega
theorem ChR.app_aux {j : Nat} {v : Value} (hj : j < 7) (h : ChR G i w c) (hv : ∀ g, v.ownBlock = some g → G g = rl i j) (hk : Keeps (fun b => v.ownBlock = some b) w w') :
    (∀ l r, l ≠ j → l < 7 → ∀ {e sz v' n xs}, Rw G (rl i l) w e sz v' n xs → Rw (up G w.heap.size r) (rl i l) w' e sz v' n xs) ∧ (∀ r, BkR G (rl i) w c.bk → (j < 4) → BkR (up G w.heap.size r) (rl i) w' c.bk) ∧
    (∀ r s, StR G im w s → StR (up G w.heap.size r) im w' s) ∧ (∀ r {e sz v' n xs}, Rw G 1 w e sz v' n xs → Rw (up G w.heap.size r) 1 w' e sz v' n xs) := by
  refine ⟨fun l r hl h7 e sz v' n xs hr => ?_, fun r hb h4 => ?_, fun r s hs => ?_, fun r e sz v' n xs hr => ?_⟩
  · have hr' := hr.keeps hk fun b e e' => by rw [hv b e'] at e; unfold rl at e; omega
    exact ⟨hr'.1, fun g hg => by rw [up_old (hr.lt hg)]; exact hr.2 g hg⟩
  · have h1 := hb.keeps hk fun b k h4 h6 e e' => by rw [hv b e'] at e; unfold rl at e; omega
    exact ⟨⟨h1.1.1, fun b hb' => by rw [up_old (hb.1.1.lt hb')]; exact hb.1.2 b hb'⟩, h1.2.1, fun b hb' => by rw [up_old (hb.2.1.lt hb')]; exact hb.2.2 b hb'⟩
  · have h1 := hs.keeps hk fun b k _ e e' => by rw [hv b e'] at e; unfold rl im at e; omega
    exact ⟨⟨h1.1.1, fun g hg => by rw [up_old (hs.1.lt hg)]; exact hs.1.2 g hg⟩, ⟨h1.2.1.1, fun g hg => by rw [up_old (hs.2.1.lt hg)]; exact hs.2.1.2 g hg⟩, ⟨h1.2.2.1.1, fun g hg => by rw [up_old (hs.2.2.1.lt hg)]; exact hs.2.2.1.2 g hg⟩, ⟨h1.2.2.2.1, fun g hg => by rw [up_old (hs.2.2.2.lt hg)]; exact hs.2.2.2.2 g hg⟩⟩
  · have h1 := hr.keeps hk fun b e e' => by rw [hv b e'] at e; unfold rl at e; omega
    exact ⟨h1.1, fun g hg => by rw [up_old (hr.lt hg)]; exact hr.2 g hg⟩
theorem ChR.app0 {p : Pk} (h : ChR G i w c) (ho : w'.ownsRow 0 47 7 (.slice A' (c.st.x.sent.length + 1) k') (c.st.x.sent.length + 1) (vPs c.st.x.sent ++ p.cs))
    (hk : Keeps (fun b => (Value.slice c.st.A1 c.st.x.sent.length c.st.c1).ownBlock = some b) w w') (hf : ∀ g, (Value.slice A' (c.st.x.sent.length + 1) k').ownBlock = some g → (Value.slice c.st.A1 c.st.x.sent.length c.st.c1).ownBlock = some g ∨ w.heap.size ≤ g) :
    ChR (up G w.heap.size (rl i 0)) i w' { c with st := { c.st with x := { c.st.x with sent := c.st.x.sent ++ [p] }, A1 := A', c1 := k' } } := by
  obtain ⟨a1, a2, a3, a4⟩ := ChR.app_aux (j := 0) (by decide) h h.2.1.1.2 hk
  refine ⟨a2 _ h.1 (by decide), ⟨?_, a1 1 _ (by decide) (by decide) h.2.1.2.1, a1 2 _ (by decide) (by decide) h.2.1.2.2.1, a1 3 _ (by decide) (by decide) h.2.1.2.2.2⟩, a1 6 _ (by decide) (by decide) h.2.2.1, fun s hs => a3 _ s (h.2.2.2.1 s hs), a4 _ h.2.2.2.2⟩
  have h0 := rw_app h.2.1.1 ho hf
  dsimp only
  rw [List.length_append, List.length_singleton, vPs_snoc]
  exact h0
theorem ChR.app1 {y : Bool} (h : ChR G i w c) (ho : w'.ownsRow 0 4 1 (.slice A' (c.st.x.live.length + 1) k') (c.st.x.live.length + 1) (vBs c.st.x.live ++ [.bool y]))
    (hk : Keeps (fun b => (Value.slice c.st.A2 c.st.x.live.length c.st.c2).ownBlock = some b) w w') (hf : ∀ g, (Value.slice A' (c.st.x.live.length + 1) k').ownBlock = some g → (Value.slice c.st.A2 c.st.x.live.length c.st.c2).ownBlock = some g ∨ w.heap.size ≤ g) :
    ChR (up G w.heap.size (rl i 1)) i w' { c with st := { c.st with x := { c.st.x with live := c.st.x.live ++ [y] }, A2 := A', c2 := k' } } := by
  obtain ⟨a1, a2, a3, a4⟩ := ChR.app_aux (j := 1) (by decide) h h.2.1.2.1.2 hk
  refine ⟨a2 _ h.1 (by decide), ⟨a1 0 _ (by decide) (by decide) h.2.1.1, ?_, a1 2 _ (by decide) (by decide) h.2.1.2.2.1, a1 3 _ (by decide) (by decide) h.2.1.2.2.2⟩, a1 6 _ (by decide) (by decide) h.2.2.1, fun s hs => a3 _ s (h.2.2.2.1 s hs), a4 _ h.2.2.2.2⟩
  have h0 := rw_app h.2.1.2.1 ho hf
  dsimp only
  rw [List.length_append, List.length_singleton, vBs_snoc]
  exact h0
theorem ChR.app2 {y : Bool} (h : ChR G i w c) (ho : w'.ownsRow 0 4 1 (.slice A' (c.st.x.back.length + 1) k') (c.st.x.back.length + 1) (vBs c.st.x.back ++ [.bool y]))
    (hk : Keeps (fun b => (Value.slice c.st.A3 c.st.x.back.length c.st.c3).ownBlock = some b) w w') (hf : ∀ g, (Value.slice A' (c.st.x.back.length + 1) k').ownBlock = some g → (Value.slice c.st.A3 c.st.x.back.length c.st.c3).ownBlock = some g ∨ w.heap.size ≤ g) :
    ChR (up G w.heap.size (rl i 2)) i w' { c with st := { c.st with x := { c.st.x with back := c.st.x.back ++ [y] }, A3 := A', c3 := k' } } := by
  obtain ⟨a1, a2, a3, a4⟩ := ChR.app_aux (j := 2) (by decide) h h.2.1.2.2.1.2 hk
  refine ⟨a2 _ h.1 (by decide), ⟨a1 0 _ (by decide) (by decide) h.2.1.1, a1 1 _ (by decide) (by decide) h.2.1.2.1, ?_, a1 3 _ (by decide) (by decide) h.2.1.2.2.2⟩, a1 6 _ (by decide) (by decide) h.2.2.1, fun s hs => a3 _ s (h.2.2.2.1 s hs), a4 _ h.2.2.2.2⟩
  have h0 := rw_app h.2.1.2.2.1 ho hf
  dsimp only
  rw [List.length_append, List.length_singleton, vBs_snoc]
  exact h0
/-- The bank is turned. -/
theorem ChR.bank {s : BkM} (h : ChR G i w c) (hb : BkR G (rl i) w' s) (hk : Keeps (MtB G i) w w') : ChR G i w' { c with bk := s } :=
  ⟨hb, h.2.1.keeps hk fun b k _ e e' => by rcases e' with e' | e' <;> (rw [e] at e'; unfold rl at e'; omega), h.2.2.1.keeps hk fun b e e' => by rcases e' with e' | e' <;> (rw [e] at e'; unfold rl at e'; omega),
    fun s hs => (h.2.2.2.1 s hs).keeps hk fun b k _ e e' => by rcases e' with e' | e' <;> (rw [e] at e'; unfold rl im at e'; omega), h.2.2.2.2.keeps hk fun b e e' => by rcases e' with e' | e' <;> (rw [e] at e'; unfold rl at e'; omega)⟩
end
end Go.Proofs.YtcnbephpadmboaaGreatDoor

/-! GSendD -/
namespace Go.Proofs.YtcnbephpadmboaaGreatDoor
open Go.RowKit

end Go.Proofs.YtcnbephpadmboaaGreatDoor
