/- A chain's memory for the laws: slices of states; a chain that can be read; a chain of the call's own. Nothing here speaks of the program's functions. eqStateS, eqChain of the laws, of two chains that hold the same. markStateS, heldStateS, markChain, heldChain of the laws: a chain of the call's own, whose rows lie in blocks of their own, is marked; a marked one is told. -/
import Derived.Test.YtcnbephpadmboaaGreatDoorGCh
import Derived.Test.YtcnbephpadmboaaGreatDoorUEM
import Derived.Test.YtcnbephpadmboaaGreatDoorUOk
import Derived.Test.YtcnbephpadmboaaGreatDoorUMem
set_option linter.unusedVariables false
set_option linter.unusedSimpArgs false
/-! CxM -/
namespace Go.Proofs.YtcnbephpadmboaaGreatDoor
open Go.RowKit

def stm0 : StM := ⟨⟨0, 0, 0, [], [], [], []⟩, none, none, none, none, 0, 0, 0, 0⟩
theorem getD_some {α : Type} {l : List α} {j : Nat} (d : α) (h : j < l.length) : l[j]? = some (l.getD j d) := by
  rw [List.getD_eq_getElem?_getD, List.getElem?_eq_getElem h]
  rfl
theorem getD_mem' {α : Type} {l : List α} {j : Nat} (d : α) (h : j < l.length) : l.getD j d ∈ l := List.mem_of_getElem? (getD_some d h)
/-- A state's rows can be read. -/
def StM.At (w : World) (s : StM) : Prop := StAt w s.x s.A1 s.A2 s.A3 s.A4
/-- The blocks of its rows. -/
def StM.bl (s : StM) (b : Nat) : Prop := stBlk s.x s.A1 s.A2 s.A3 s.A4 b
theorem StM.At.kept {w w' : World} {s : StM} (h : s.At w) (hk : Keeps noBlk w w') : s.At w' := StAt.kept h hk
theorem StM.At.keeps {S : Nat → Prop} {w w' : World} {s : StM} (h : s.At w) (hk : Keeps S w w') (hs : ∀ b, s.bl b → ¬ S b) : s.At w' := StAt.keeps h hk hs
/-- The slice of states '.slice A n c' holds the states ss. -/
def Pas (w : World) (A : Option Addr) (n : Nat) (ps : List StM) : Prop :=
  ps.length = n ∧ (0 < n → ∃ b off, A = some ⟨b, off, none⟩ ∧ b < w.heap.size ∧ ∀ j p, ps[j]? = some p → ∀ i c, p.cs[i]? = some c → w.cell? ⟨b, off + (j * 7 + i), none⟩ = some c)
theorem Pas.nil (w : World) (A : Option Addr) : Pas w A 0 [] := ⟨rfl, fun h => absurd h (by omega)⟩
theorem Pas.keeps {S : Nat → Prop} {w w' : World} {A : Option Addr} {n : Nat} {ps : List StM} (h : Pas w A n ps) (hk : Keeps S w w') (hs : ∀ b, blk A n b → ¬ S b) : Pas w' A n ps :=
  ⟨h.1, fun hn => by
    obtain ⟨b, off, e, hb, hc⟩ := h.2 hn
    exact ⟨b, off, e, Nat.lt_of_lt_of_le hb hk.size, fun j p hp i c hi => (hk.cell hb (hs b ⟨hn, _, e, rfl⟩)).trans (hc j p hp i c hi)⟩⟩
theorem Pas.kept {w w' : World} {A : Option Addr} {n : Nat} {ps : List StM} (h : Pas w A n ps) (hk : Keeps noBlk w w') : Pas w' A n ps := h.keeps hk fun _ _ h => h
theorem Pas.lt {w : World} {A : Option Addr} {n : Nat} {ps : List StM} (h : Pas w A n ps) {b : Nat} (hb : blk A n b) : b < w.heap.size := by
  obtain ⟨hn, a, rfl, rfl⟩ := hb
  obtain ⟨b, off, e, hl, _⟩ := h.2 hn
  injection e with e
  subst e
  exact hl
/-- A state of the slice: its seven cells. -/
theorem Pas.at_ {w : World} {A : Option Addr} {n k : Nat} {ps : List StM} (h : Pas w A n ps) (hk : k < n) :
    ∃ b off, A = some ⟨b, off, none⟩ ∧ b < w.heap.size ∧
      w.cell? ⟨b, off + k * 7, none⟩ = some (.int .i64 (ps.getD k stm0).x.way) ∧ w.cell? ⟨b, off + k * 7 + 1, none⟩ = some (.int .i64 (ps.getD k stm0).x.ver) ∧ w.cell? ⟨b, off + k * 7 + 2, none⟩ = some (.int .i64 (ps.getD k stm0).x.want) ∧
      w.cell? ⟨b, off + k * 7 + 3, none⟩ = some (.slice (ps.getD k stm0).A1 (ps.getD k stm0).x.sent.length (ps.getD k stm0).c1) ∧ w.cell? ⟨b, off + k * 7 + 4, none⟩ = some (.slice (ps.getD k stm0).A2 (ps.getD k stm0).x.live.length (ps.getD k stm0).c2) ∧
      w.cell? ⟨b, off + k * 7 + 5, none⟩ = some (.slice (ps.getD k stm0).A3 (ps.getD k stm0).x.back.length (ps.getD k stm0).c3) ∧ w.cell? ⟨b, off + k * 7 + 6, none⟩ = some (.slice (ps.getD k stm0).A4 (ps.getD k stm0).x.got.length (ps.getD k stm0).c4) := by
  obtain ⟨b, off, e, hb, hc⟩ := h.2 (by omega)
  have hl : k < ps.length := by have := h.1; omega
  have h7 := hc k _ (getD_some stm0 hl)
  exact ⟨b, off, e, hb, h7 0 _ rfl, h7 1 _ rfl, h7 2 _ rfl, h7 3 _ rfl, h7 4 _ rfl, h7 5 _ rfl, h7 6 _ rfl⟩
/-- The same, of the call's own. -/
def SRow (w : World) (lo : Nat) (A : Option Addr) (n : Nat) (ps : List StM) : Prop :=
  Pas w A n ps ∧ (0 < n → ∃ b off, A = some ⟨b, off, none⟩ ∧ lo ≤ b ∧ ∀ j, j < n * 7 → w.frozen? ⟨b, off + j, none⟩ = false)
theorem SRow.nil (w : World) (lo : Nat) (A : Option Addr) : SRow w lo A 0 [] := ⟨Pas.nil w A, fun h => absurd h (by omega)⟩
theorem SRow.less {w : World} {lo lo' : Nat} {A : Option Addr} {n : Nat} {ps : List StM} (h : SRow w lo A n ps) (hl : lo' ≤ lo) : SRow w lo' A n ps :=
  ⟨h.1, fun hn => by
    obtain ⟨b, off, e, hb, hf⟩ := h.2 hn
    exact ⟨b, off, e, by omega, hf⟩⟩
theorem SRow.keeps {S : Nat → Prop} {w w' : World} {lo : Nat} {A : Option Addr} {n : Nat} {ps : List StM} (h : SRow w lo A n ps) (hk : Keeps S w w') (hs : ∀ b, blk A n b → ¬ S b) : SRow w' lo A n ps :=
  ⟨h.1.keeps hk hs, fun hn => by
    obtain ⟨b, off, e, hb, hf⟩ := h.2 hn
    obtain ⟨b', off', e', hb', _⟩ := h.1.2 hn
    rw [e] at e'
    injection e' with e'
    injection e' with e1 e2
    subst e1
    exact ⟨b, off, e, hb, fun j hj => (hk.frozen hb' (hs b ⟨hn, _, e, rfl⟩)).trans (hf j hj)⟩⟩
theorem SRow.kept {w w' : World} {lo : Nat} {A : Option Addr} {n : Nat} {ps : List StM} (h : SRow w lo A n ps) (hk : Keeps noBlk w w') : SRow w' lo A n ps := h.keeps hk fun _ _ h => h
theorem SRow.lt {w : World} {lo : Nat} {A : Option Addr} {n : Nat} {ps : List StM} (h : SRow w lo A n ps) {b : Nat} (hb : blk A n b) : b < w.heap.size := h.1.lt hb
theorem SRow.ge {w : World} {lo : Nat} {A : Option Addr} {n : Nat} {ps : List StM} (h : SRow w lo A n ps) {b : Nat} (hb : blk A n b) : lo ≤ b := by
  obtain ⟨hn, a, rfl, rfl⟩ := hb
  obtain ⟨b, off, e, hl, _⟩ := h.2 hn
  injection e with e
  subst e
  exact hl
/-- Seven stores, one state. -/
def setSt (w : World) (b o : Nat) (p : StM) : World :=
  ((((((w.setCell ⟨b, o, none⟩ (.int .i64 p.x.way)).setCell ⟨b, o + 1, none⟩ (.int .i64 p.x.ver)).setCell ⟨b, o + 2, none⟩ (.int .i64 p.x.want)).setCell ⟨b, o + 3, none⟩ (.slice p.A1 p.x.sent.length p.c1)).setCell ⟨b, o + 4, none⟩ (.slice p.A2 p.x.live.length p.c2)).setCell ⟨b, o + 5, none⟩ (.slice p.A3 p.x.back.length p.c3)).setCell ⟨b, o + 6, none⟩ (.slice p.A4 p.x.got.length p.c4)
theorem setSt_other (w : World) (b o : Nat) (p : StM) (y : Nat) (hy : y < o ∨ o + 7 ≤ y) : (setSt w b o p).cell? ⟨b, y, none⟩ = w.cell? ⟨b, y, none⟩ := by
  have ne : ∀ j, j < 7 → (⟨b, o + j, none⟩ : Addr) ≠ ⟨b, y, none⟩ := fun j hj e => by injection e with _ e; omega
  have n0 : (⟨b, o, none⟩ : Addr) ≠ ⟨b, y, none⟩ := fun e => by injection e with _ e; omega
  unfold setSt
  rw [World.cell?_setCell_other _ _ _ _ (ne 6 (by omega)), World.cell?_setCell_other _ _ _ _ (ne 5 (by omega)), World.cell?_setCell_other _ _ _ _ (ne 4 (by omega)), World.cell?_setCell_other _ _ _ _ (ne 3 (by omega)), World.cell?_setCell_other _ _ _ _ (ne 2 (by omega)), World.cell?_setCell_other _ _ _ _ (ne 1 (by omega)), World.cell?_setCell_other _ _ _ _ n0]
theorem setSt_same (w : World) (b o : Nat) (p : StM) (h : ∀ i, i < 7 → ∃ v, w.cell? ⟨b, o + i, none⟩ = some v) (i : Nat) (c : Value) (hc : p.cs[i]? = some c) : (setSt w b o p).cell? ⟨b, o + i, none⟩ = some c := by
  have hi : i < 7 := (List.getElem?_eq_some_iff.1 hc).1
  have ne : ∀ j k, j ≠ k → (⟨b, o + k, none⟩ : Addr) ≠ ⟨b, o + j, none⟩ := fun j k hj e => by injection e with _ e; omega
  have n0 : ∀ j, j ≠ 0 → (⟨b, o, none⟩ : Addr) ≠ ⟨b, o + j, none⟩ := fun j hj e => by injection e with _ e; omega
  obtain ⟨v, hv⟩ := h i hi
  unfold setSt
  obtain rfl | rfl | rfl | rfl | rfl | rfl | rfl : i = 0 ∨ i = 1 ∨ i = 2 ∨ i = 3 ∨ i = 4 ∨ i = 5 ∨ i = 6 := by omega
  · obtain rfl : _ = c := Option.some.inj hc
    rw [World.cell?_setCell_other _ _ _ _ (ne 0 6 (by omega)), World.cell?_setCell_other _ _ _ _ (ne 0 5 (by omega)), World.cell?_setCell_other _ _ _ _ (ne 0 4 (by omega)), World.cell?_setCell_other _ _ _ _ (ne 0 3 (by omega)), World.cell?_setCell_other _ _ _ _ (ne 0 2 (by omega)), World.cell?_setCell_other _ _ _ _ (ne 0 1 (by omega))]
    exact World.cell?_setCell_same _ _ _ hv
  · obtain rfl : _ = c := Option.some.inj hc
    rw [World.cell?_setCell_other _ _ _ _ (ne 1 6 (by omega)), World.cell?_setCell_other _ _ _ _ (ne 1 5 (by omega)), World.cell?_setCell_other _ _ _ _ (ne 1 4 (by omega)), World.cell?_setCell_other _ _ _ _ (ne 1 3 (by omega)), World.cell?_setCell_other _ _ _ _ (ne 1 2 (by omega))]
    exact World.cell?_setCell_same _ _ _ ((World.cell?_setCell_other _ _ _ _ (n0 1 (by omega))).trans hv)
  · obtain rfl : _ = c := Option.some.inj hc
    rw [World.cell?_setCell_other _ _ _ _ (ne 2 6 (by omega)), World.cell?_setCell_other _ _ _ _ (ne 2 5 (by omega)), World.cell?_setCell_other _ _ _ _ (ne 2 4 (by omega)), World.cell?_setCell_other _ _ _ _ (ne 2 3 (by omega))]
    exact World.cell?_setCell_same _ _ _ ((World.cell?_setCell_other _ _ _ _ (ne 2 1 (by omega))).trans ((World.cell?_setCell_other _ _ _ _ (n0 2 (by omega))).trans hv))
  · obtain rfl : _ = c := Option.some.inj hc
    rw [World.cell?_setCell_other _ _ _ _ (ne 3 6 (by omega)), World.cell?_setCell_other _ _ _ _ (ne 3 5 (by omega)), World.cell?_setCell_other _ _ _ _ (ne 3 4 (by omega))]
    exact World.cell?_setCell_same _ _ _ ((World.cell?_setCell_other _ _ _ _ (ne 3 2 (by omega))).trans ((World.cell?_setCell_other _ _ _ _ (ne 3 1 (by omega))).trans ((World.cell?_setCell_other _ _ _ _ (n0 3 (by omega))).trans hv)))
  · obtain rfl : _ = c := Option.some.inj hc
    rw [World.cell?_setCell_other _ _ _ _ (ne 4 6 (by omega)), World.cell?_setCell_other _ _ _ _ (ne 4 5 (by omega))]
    exact World.cell?_setCell_same _ _ _ ((World.cell?_setCell_other _ _ _ _ (ne 4 3 (by omega))).trans ((World.cell?_setCell_other _ _ _ _ (ne 4 2 (by omega))).trans ((World.cell?_setCell_other _ _ _ _ (ne 4 1 (by omega))).trans ((World.cell?_setCell_other _ _ _ _ (n0 4 (by omega))).trans hv))))
  · obtain rfl : _ = c := Option.some.inj hc
    rw [World.cell?_setCell_other _ _ _ _ (ne 5 6 (by omega))]
    exact World.cell?_setCell_same _ _ _ ((World.cell?_setCell_other _ _ _ _ (ne 5 4 (by omega))).trans ((World.cell?_setCell_other _ _ _ _ (ne 5 3 (by omega))).trans ((World.cell?_setCell_other _ _ _ _ (ne 5 2 (by omega))).trans ((World.cell?_setCell_other _ _ _ _ (ne 5 1 (by omega))).trans ((World.cell?_setCell_other _ _ _ _ (n0 5 (by omega))).trans hv)))))
  · obtain rfl : _ = c := Option.some.inj hc
    exact World.cell?_setCell_same _ _ _ ((World.cell?_setCell_other _ _ _ _ (ne 6 5 (by omega))).trans ((World.cell?_setCell_other _ _ _ _ (ne 6 4 (by omega))).trans ((World.cell?_setCell_other _ _ _ _ (ne 6 3 (by omega))).trans ((World.cell?_setCell_other _ _ _ _ (ne 6 2 (by omega))).trans ((World.cell?_setCell_other _ _ _ _ (ne 6 1 (by omega))).trans ((World.cell?_setCell_other _ _ _ _ (n0 6 (by omega))).trans hv))))))
theorem setSt_size (w : World) (b o : Nat) (p : StM) : (setSt w b o p).heap.size = w.heap.size := by simp [setSt, World.setCell]
theorem setSt_frozen (w : World) (b o : Nat) (p : StM) (a : Addr) : (setSt w b o p).frozen? a = w.frozen? a := by simp only [setSt, World.frozen?_setCell]
theorem Keeps.setSt {S : Nat → Prop} {a w : World} (h : Keeps S a w) {b : Nat} (hb : a.heap.size ≤ b ∨ S b) (o : Nat) (p : StM) : Keeps S a (setSt w b o p) :=
  ((((((h.setCell (p := ⟨b, o, none⟩) hb _).setCell (p := ⟨b, o + 1, none⟩) hb _).setCell (p := ⟨b, o + 2, none⟩) hb _).setCell (p := ⟨b, o + 3, none⟩) hb _).setCell (p := ⟨b, o + 4, none⟩) hb _).setCell (p := ⟨b, o + 5, none⟩) hb _).setCell (p := ⟨b, o + 6, none⟩) hb _
theorem SRow.set_ {w : World} {lo b off n k : Nat} {ps : List StM} (h : SRow w lo (some ⟨b, off, none⟩) n ps) (hk : k < n) (p : StM) :
    SRow (setSt w b (off + k * 7) p) lo (some ⟨b, off, none⟩) n (ps.set k p) := by
  obtain ⟨⟨hl, h2⟩, h3⟩ := h
  refine ⟨⟨by simpa using hl, fun hn => ?_⟩, fun hn => ?_⟩
  · obtain ⟨b', off', e', hb, hc⟩ := h2 hn
    injection e' with e'
    injection e' with e1 e2
    subst e1
    subst e2
    refine ⟨b, off, rfl, by rw [setSt_size]; exact hb, fun j q hq i c hi => ?_⟩
    have hi7 : i < 7 := (List.getElem?_eq_some_iff.1 hi).1
    have hjl : j < ps.length := by
      have := (List.getElem?_eq_some_iff.1 hq).1
      simpa using this
    by_cases hjk : j = k
    · subst hjk
      have hq' : (ps.set j p)[j]? = some p := List.getElem?_set_self (by omega)
      have hpq : p = q := Option.some.inj (hq'.symm.trans hq)
      clear hq hq'
      subst hpq
      have := setSt_same w b (off + j * 7) p (fun i' hi' => by
        have hl' : i' < (ps[j]).cs.length := hi'
        obtain ⟨c', hc'⟩ : ∃ c', (ps[j]).cs[i']? = some c' := ⟨_, List.getElem?_eq_getElem hl'⟩
        exact ⟨c', by have := hc j _ (List.getElem?_eq_getElem hjl) i' c' hc'; rwa [← Nat.add_assoc] at this⟩) i c hi
      rwa [← Nat.add_assoc]
    · rw [List.getElem?_set_ne (by omega)] at hq
      rw [setSt_other _ _ _ _ _ (by rcases Nat.lt_or_gt_of_ne hjk with h | h <;> omega)]
      exact hc j q hq i c hi
  · obtain ⟨b', off', e', hb, hf⟩ := h3 hn
    exact ⟨b', off', e', hb, fun j hj => by rw [setSt_frozen]; exact hf j hj⟩


/-- One store into a cell of a state of the slice. -/
theorem SRow.put {w : World} {lo b off n k : Nat} {ps : List StM} (h : SRow w lo (some ⟨b, off, none⟩) n ps) (hk : k < n) (i : Nat) (hi : i < 7) (u : Value) (s : StM) (hs : s.cs = (ps.getD k stm0).cs.set i u) :
    SRow (w.setCell ⟨b, off + k * 7 + i, none⟩ u) lo (some ⟨b, off, none⟩) n (ps.set k s) := by
  obtain ⟨⟨hl, h2⟩, h3⟩ := h
  refine ⟨⟨by simpa using hl, fun hn => ?_⟩, fun hn => ?_⟩
  · obtain ⟨b', off', e', hb, hc⟩ := h2 hn
    injection e' with e'
    injection e' with e1 e2
    subst e1
    subst e2
    refine ⟨b, off, rfl, by simpa [World.setCell] using hb, fun j q hq i' c hi' => ?_⟩
    have hi7 : i' < 7 := (List.getElem?_eq_some_iff.1 hi').1
    have hjl : j < ps.length := by
      have := (List.getElem?_eq_some_iff.1 hq).1
      simpa using this
    by_cases hjk : j = k
    · subst hjk
      have hq' : (ps.set j s)[j]? = some s := List.getElem?_set_self (by omega)
      have hpq : s = q := Option.some.inj (hq'.symm.trans hq)
      clear hq hq'
      subst hpq
      have old := hc j _ (getD_some stm0 hjl)
      rw [hs] at hi'
      by_cases hii : i = i'
      · subst hii
        rw [List.getElem?_set_self (by exact hi7)] at hi'
        injection hi' with hi'
        subst hi'
        rw [← Nat.add_assoc]
        exact World.cell?_setCell_same _ _ _ (by rw [Nat.add_assoc]; exact old i _ (List.getElem?_eq_getElem (show i < (ps.getD j stm0).cs.length from hi7)))
      · rw [List.getElem?_set_ne hii] at hi'
        rw [World.cell?_setCell_other _ _ _ _ (by intro e; injection e with _ e; omega)]
        exact old i' c hi'
    · rw [List.getElem?_set_ne (by omega)] at hq
      rw [World.cell?_setCell_other _ _ _ _ (by intro e; injection e with _ e; rcases Nat.lt_or_gt_of_ne hjk with h | h <;> omega)]
      exact hc j q hq i' c hi'
  · obtain ⟨b', off', e', hb, hf⟩ := h3 hn
    exact ⟨b', off', e', hb, fun j hj => by rw [World.frozen?_setCell]; exact hf j hj⟩

/-- A chain that can be read. -/
structure ChAt (w : World) (c : ChM) : Prop where
  own : Ints w c.bk.A1 c.bk.b.own.length c.bk.b.own
  notes : Ints w c.bk.A2 c.bk.b.notes.length c.bk.b.notes
  st : c.st.At w
  row : Pas w c.pA c.past.length c.past
  past : ∀ s ∈ c.past, s.At w
  knows : Ints w c.kA c.knows.length c.knows
  m1 : c.bk.b.own.length ≤ maxLen
  m2 : c.bk.b.notes.length ≤ maxLen
  m3 : c.past.length ≤ maxLen
  m4 : c.knows.length ≤ maxLen
theorem ChAt.kept {w w' : World} {c : ChM} (h : ChAt w c) (hk : Keeps noBlk w w') : ChAt w' c :=
  ⟨h.own.keeps hk fun _ _ h => h, h.notes.keeps hk fun _ _ h => h, h.st.kept hk, h.row.kept hk, fun s hs => (h.past s hs).kept hk, h.knows.keeps hk fun _ _ h => h, h.m1, h.m2, h.m3, h.m4⟩

/-- Known heights: from 1 to 90, each above the one before it. -/
def KnOk (l : List Int) : Prop := ∀ i, i < l.length → (1 ≤ l.getD i 0 ∧ l.getD i 0 ≤ 90) ∧ (0 < i → l.getD (i - 1) 0 < l.getD i 0)
instance (l : List Int) : Decidable (KnOk l) := by unfold KnOk; infer_instance
def PaOk (l : List StM) : Prop := ∀ i, i < l.length → stB (l.getD i stm0).x = true
instance (l : List StM) : Decidable (PaOk l) := by unfold PaOk; infer_instance
/-- When a chain is ok. -/
def CkOk (c : ChM) : Prop := (1 ≤ c.id ∧ c.id ≤ 2) ∧ okB c.bk.b = true ∧ stB c.st.x = true ∧ c.past.length ≤ 90 ∧ PaOk c.past ∧ KnOk c.knows
instance (c : ChM) : Decidable (CkOk c) := by unfold CkOk; infer_instance
def ckB (c : ChM) : Bool := decide (CkOk c)
end Go.Proofs.YtcnbephpadmboaaGreatDoor

/-! CxE -/
namespace Go.Proofs.YtcnbephpadmboaaGreatDoor
open Go.RowKit

/-- Two lists of states hold the same. -/
def SameS (ps qs : List StM) : Prop := ps.length = qs.length ∧ ∀ i, i < ps.length → (ps.getD i stm0).x = (qs.getD i stm0).x
theorem SameS.refl (ps : List StM) : SameS ps ps := ⟨rfl, fun _ _ => rfl⟩
theorem SameS.symm {ps qs : List StM} (h : SameS ps qs) : SameS qs ps := ⟨h.1.symm, fun i hi => (h.2 i (by rw [h.1]; exact hi)).symm⟩
theorem SameS.trans {ps qs rs : List StM} (h : SameS ps qs) (k : SameS qs rs) : SameS ps rs := ⟨h.1.trans k.1, fun i hi => (h.2 i hi).trans (k.2 i (by rw [← h.1]; exact hi))⟩
set_option maxHeartbeats 2000000 in
theorem eqStateS_same (A B : Option Addr) (n c d : Nat) (ps qs : List StM) (w : World) (ha : Pas w A n ps) (hb : Pas w B n qs) (hs : SameS ps qs) (hpa : ∀ s ∈ ps, s.At w) (hqa : ∀ s ∈ qs, s.At w) (hn : n ≤ maxLen) :
    Calls Tryz.prog 46 #[.slice A n c, .slice B n d] w fun e w' => e = .returned (.bool true) ∧ Keeps noBlk w w' := by
  unfold maxLen at hn
  have hl := Lib.hid ha.1
  have hl2 := Lib.hid hb.1
  have HA := Lib.hid ha
  have HB := Lib.hid hb
  have HS := Lib.hid hs
  have HP := Lib.hid hpa
  have HQ := Lib.hid hqa
  clear ha hb hs hpa hqa
  go_enter Tryz.func46, Tryz.ntmps46
  go_wp2
  go_loopw [5] (fun i wr => ∃ k : Nat, k ≤ n ∧ i = .int .i64 k ∧ Keeps noBlk w wr) (fun i _ => n - (intOf i).toNat)
  case atStart => exact ⟨0, Nat.zero_le _, rfl, Keeps.refl _ _⟩
  case round =>
    obtain ⟨k, hk, rfl, hkp⟩ := hrel
    have HK := Lib.hid hkp
    clear hkp
    by_cases hlt : k < n
    · obtain ⟨b1, o1, rfl, _, q0, q1, q2, q3, q4, q5, q6⟩ := (HA.out.kept HK.out).at_ hlt
      obtain ⟨b2, o2, rfl, _, r0, r1, r2, r3, r4, r5, r6⟩ := (HB.out.kept HK.out).at_ hlt
      have hx := HS.out.2 k (by rw [hl.out]; exact hlt)
      have H1 := Lib.hid ((HP.out _ (getD_mem' stm0 (by rw [hl.out]; exact hlt : k < ps.length))).kept HK.out)
      have H2 := Lib.hid ((HQ.out _ (getD_mem' stm0 (by rw [hl2.out]; exact hlt : k < qs.length))).kept HK.out)
      generalize ps.getD k stm0 = p at q0 q1 q2 q3 q4 q5 q6 hx H1
      generalize qs.getD k stm0 = q at r0 r1 r2 r3 r4 r5 r6 hx H2
      obtain ⟨x, A1, A2, A3, A4, c1, c2, c3, c4⟩ := p
      obtain ⟨y, B1, B2, B3, B4, d1, d2, d3, d4⟩ := q
      dsimp only [StM.At] at q0 q1 q2 q3 q4 q5 q6 r0 r1 r2 r3 r4 r5 r6 hx H1 H2
      subst hx
      have hcall := Lib.hid (fun W (hk : Keeps noBlk wr W) => eqState_same x A1 A2 A3 A4 B1 B2 B3 B4 c1 c2 c3 c4 d1 d2 d3 d4 W (H1.out.kept hk) (H2.out.kept hk))
      unfold stV at hcall
      have q0 := fun U : GW wr => GW.cell q0 U
      have q1 := fun U : GW wr => GW.cell q1 U
      have q2 := fun U : GW wr => GW.cell q2 U
      have q3 := fun U : GW wr => GW.cell q3 U
      have q4 := fun U : GW wr => GW.cell q4 U
      have q5 := fun U : GW wr => GW.cell q5 U
      have q6 := fun U : GW wr => GW.cell q6 U
      have r0 := fun U : GW wr => GW.cell r0 U
      have r1 := fun U : GW wr => GW.cell r1 U
      have r2 := fun U : GW wr => GW.cell r2 U
      have r3 := fun U : GW wr => GW.cell r3 U
      have r4 := fun U : GW wr => GW.cell r4 U
      have r5 := fun U : GW wr => GW.cell r5 U
      have r6 := fun U : GW wr => GW.cell r6 U
      go_wp2_with fail
      refine wp_region_grow (by kernel_rfl) (by kernel_rfl) ?_
      repeat (go_big_quiet_step ((go_at_call 15; exact Calls.grow _ (hcall.out _ (GW.keep _)))))
      refine wpQuiet_nil ?_
      rintro _ ⟨U1, rfl⟩
      have HK1 := Lib.hid (HK.out.trans U1.keep)
      go_wp2
      go_roundw
      case rel => exact ⟨k + 1, by omega, by go_num, HK1.out⟩
      case measure => simp [intOf]; omega
    · go_wp2
      go_ret
      exact ⟨rfl, HK.out⟩

/-- Two chains hold the same. -/
structure SameC (c d : ChM) : Prop where
  id : c.id = d.id
  bk : c.bk.b = d.bk.b
  st : c.st.x = d.st.x
  past : SameS c.past d.past
  knows : c.knows = d.knows

set_option maxRecDepth 100000 in
set_option maxHeartbeats 4000000 in
theorem eqChain_same (c d : ChM) (w : World) (ha : ChAt w c) (hb : ChAt w d) (hs : SameC c d) :
    Calls Tryz.prog 14 #[c.val, d.val] w fun e w' => e = .returned (.bool true) ∧ Keeps noBlk w w' := by
  have F1 := Lib.hid (fun W (hk : Keeps noBlk w W) => eqBank_yes c.bk.A1 c.bk.A2 d.bk.A1 d.bk.A2 _ _ c.bk.c1 c.bk.c2 d.bk.c1 d.bk.c2 c.bk.b.locked _ _ W (ha.kept hk).own (by rw [hs.bk]; exact (hb.kept hk).own) (ha.kept hk).notes (by rw [hs.bk]; exact (hb.kept hk).notes) ha.m1 ha.m2)
  have F2 := Lib.hid (fun W (hk : Keeps noBlk w W) => eqState_same c.st.x c.st.A1 c.st.A2 c.st.A3 c.st.A4 d.st.A1 d.st.A2 d.st.A3 d.st.A4 c.st.c1 c.st.c2 c.st.c3 c.st.c4 d.st.c1 d.st.c2 d.st.c3 d.st.c4 W (ha.kept hk).st (by rw [hs.st]; exact (hb.kept hk).st))
  have F3 := Lib.hid (fun W (hk : Keeps noBlk w W) => eqStateS_same c.pA d.pA _ c.pc d.pc c.past d.past W (ha.kept hk).row (by rw [hs.past.1]; exact (hb.kept hk).row) hs.past (ha.kept hk).past (hb.kept hk).past ha.m3)
  have F4 := Lib.hid (fun W (hk : Keeps noBlk w W) => eqIntS_yes c.kA d.kA _ c.kc d.kc c.knows W (ha.kept hk).knows (by rw [hs.knows]; exact (hb.kept hk).knows) ha.m4)
  have hl := hs.past.1
  obtain ⟨s1, s2, s3, _, s5⟩ := hs
  clear ha hb
  obtain ⟨id, ⟨⟨own, notes, lk⟩, ua1, ua2, ue1, ue2⟩, ⟨x, uA1, uA2, uA3, uA4, uc1, uc2, uc3, uc4⟩, upast, upA, upc, knows, ukA, ukc⟩ := c
  obtain ⟨id', ⟨⟨own', notes', lk'⟩, va1, va2, ve1, ve2⟩, ⟨x', vA1, vA2, vA3, vA4, vc1, vc2, vc3, vc4⟩, vpast, vpA, vpc, knows', vkA, vkc⟩ := d
  dsimp only at s1 s2 s3 s5 hl F1 F2 F3 F4
  injection s2 with s2 s6 s7
  subst s1 s2 s3 s5 s6 s7
  unfold ChM.val
  dsimp only
  unfold stV at F2
  rw [← hl]
  generalize upast.length = n at F3
  clear hl
  have HBa := Lib.hid ((Box.new w _ rfl 42 #[.int .i64 id, .slice ua1 own.length ue1, .slice ua2 notes.length ue2, .int .i64 lk, .int .i64 x.way, .int .i64 x.ver, .int .i64 x.want, .slice uA1 x.sent.length uc1, .slice uA2 x.live.length uc2, .slice uA3 x.back.length uc3, .slice uA4 x.got.length uc4, .slice upA n upc, .slice ukA knows.length ukc]).alloc (.cells #[.int .i64 id, .slice va1 own.length ve1, .slice va2 notes.length ve2, .int .i64 lk, .int .i64 x.way, .int .i64 x.ver, .int .i64 x.want, .slice vA1 x.sent.length vc1, .slice vA2 x.live.length vc2, .slice vA3 x.back.length vc3, .slice vA4 x.got.length vc4, .slice vpA n vpc, .slice vkA knows.length vkc] 42))
  have HBb := Lib.hid (Box.new (w.alloc (.cells #[.int .i64 id, .slice ua1 own.length ue1, .slice ua2 notes.length ue2, .int .i64 lk, .int .i64 x.way, .int .i64 x.ver, .int .i64 x.want, .slice uA1 x.sent.length uc1, .slice uA2 x.live.length uc2, .slice uA3 x.back.length uc3, .slice uA4 x.got.length uc4, .slice upA n upc, .slice ukA knows.length ukc] 42)) (w.heap.size + 1) (by simp) 42 #[.int .i64 id, .slice va1 own.length ve1, .slice va2 notes.length ve2, .int .i64 lk, .int .i64 x.way, .int .i64 x.ver, .int .i64 x.want, .slice vA1 x.sent.length vc1, .slice vA2 x.live.length vc2, .slice vA3 x.back.length vc3, .slice vA4 x.got.length vc4, .slice vpA n vpc, .slice vkA knows.length vkc])
  have HK := Lib.hid (((Keeps.refl noBlk w).alloc (.cells #[.int .i64 id, .slice ua1 own.length ue1, .slice ua2 notes.length ue2, .int .i64 lk, .int .i64 x.way, .int .i64 x.ver, .int .i64 x.want, .slice uA1 x.sent.length uc1, .slice uA2 x.live.length uc2, .slice uA3 x.back.length uc3, .slice uA4 x.got.length uc4, .slice upA n upc, .slice ukA knows.length ukc] 42)).alloc (.cells #[.int .i64 id, .slice va1 own.length ve1, .slice va2 notes.length ve2, .int .i64 lk, .int .i64 x.way, .int .i64 x.ver, .int .i64 x.want, .slice vA1 x.sent.length vc1, .slice vA2 x.live.length vc2, .slice vA3 x.back.length vc3, .slice vA4 x.got.length vc4, .slice vpA n vpc, .slice vkA knows.length vkc] 42))
  go_enter Tryz.func14, Tryz.ntmps14
  go_wp2_with fail
  refine (F1.out _ HK.out).mono ?_
  rintro e w1 ⟨rfl, hk1⟩
  have ha := HBa.out.keeps hk1 (fun h => h)
  clear HBa
  have HBa := Lib.hid ha
  clear ha
  have hb := HBb.out.keeps hk1 (fun h => h)
  clear HBb
  have HBb := Lib.hid hb
  clear hb
  have hr := HK.out.trans hk1
  clear HK
  have HK := Lib.hid hr
  clear hr
  have sz1 := hk1.size
  (try simp at sz1)
  clear hk1
  have hb := HBa.out
  have a0 := hb.cell 0
  have a1 := hb.cell 1
  have a2 := hb.cell 2
  have a3 := hb.cell 3
  have a4 := hb.cell 4
  have a5 := hb.cell 5
  have a6 := hb.cell 6
  have a7 := hb.cell 7
  have a8 := hb.cell 8
  have a9 := hb.cell 9
  have a10 := hb.cell 10
  have a11 := hb.cell 11
  have a12 := hb.cell 12
  simp at a0 a1 a2 a3 a4 a5 a6 a7 a8 a9 a10 a11 a12
  have za := hb.lt
  clear hb
  have hb := HBb.out
  have b0 := hb.cell 0
  have b1 := hb.cell 1
  have b2 := hb.cell 2
  have b3 := hb.cell 3
  have b4 := hb.cell 4
  have b5 := hb.cell 5
  have b6 := hb.cell 6
  have b7 := hb.cell 7
  have b8 := hb.cell 8
  have b9 := hb.cell 9
  have b10 := hb.cell 10
  have b11 := hb.cell 11
  have b12 := hb.cell 12
  simp at b0 b1 b2 b3 b4 b5 b6 b7 b8 b9 b10 b11 b12
  have zb := hb.lt
  clear hb
  go_wp2_with fail
  refine (F2.out _ HK.out).mono ?_
  rintro e w2 ⟨rfl, hk2⟩
  clear a0 a1 a2 a3 a4 a5 a6 a7 a8 a9 a10 a11 a12 b0 b1 b2 b3 b4 b5 b6 b7 b8 b9 b10 b11 b12 za zb
  have ha := HBa.out.keeps hk2 (fun h => h)
  clear HBa
  have HBa := Lib.hid ha
  clear ha
  have hb := HBb.out.keeps hk2 (fun h => h)
  clear HBb
  have HBb := Lib.hid hb
  clear hb
  have hr := HK.out.trans hk2
  clear HK
  have HK := Lib.hid hr
  clear hr
  have sz2 := hk2.size
  (try simp at sz2)
  clear hk2
  have hb := HBa.out
  have a0 := hb.cell 0
  have a1 := hb.cell 1
  have a2 := hb.cell 2
  have a3 := hb.cell 3
  have a4 := hb.cell 4
  have a5 := hb.cell 5
  have a6 := hb.cell 6
  have a7 := hb.cell 7
  have a8 := hb.cell 8
  have a9 := hb.cell 9
  have a10 := hb.cell 10
  have a11 := hb.cell 11
  have a12 := hb.cell 12
  simp at a0 a1 a2 a3 a4 a5 a6 a7 a8 a9 a10 a11 a12
  have za := hb.lt
  clear hb
  have hb := HBb.out
  have b0 := hb.cell 0
  have b1 := hb.cell 1
  have b2 := hb.cell 2
  have b3 := hb.cell 3
  have b4 := hb.cell 4
  have b5 := hb.cell 5
  have b6 := hb.cell 6
  have b7 := hb.cell 7
  have b8 := hb.cell 8
  have b9 := hb.cell 9
  have b10 := hb.cell 10
  have b11 := hb.cell 11
  have b12 := hb.cell 12
  simp at b0 b1 b2 b3 b4 b5 b6 b7 b8 b9 b10 b11 b12
  have zb := hb.lt
  clear hb
  go_wp2_with fail
  refine (F3.out _ HK.out).mono ?_
  rintro e w3 ⟨rfl, hk3⟩
  clear a0 a1 a2 a3 a4 a5 a6 a7 a8 a9 a10 a11 a12 b0 b1 b2 b3 b4 b5 b6 b7 b8 b9 b10 b11 b12 za zb
  have ha := HBa.out.keeps hk3 (fun h => h)
  clear HBa
  have HBa := Lib.hid ha
  clear ha
  have hb := HBb.out.keeps hk3 (fun h => h)
  clear HBb
  have HBb := Lib.hid hb
  clear hb
  have hr := HK.out.trans hk3
  clear HK
  have HK := Lib.hid hr
  clear hr
  have sz3 := hk3.size
  (try simp at sz3)
  clear hk3
  have hb := HBa.out
  have a0 := hb.cell 0
  have a1 := hb.cell 1
  have a2 := hb.cell 2
  have a3 := hb.cell 3
  have a4 := hb.cell 4
  have a5 := hb.cell 5
  have a6 := hb.cell 6
  have a7 := hb.cell 7
  have a8 := hb.cell 8
  have a9 := hb.cell 9
  have a10 := hb.cell 10
  have a11 := hb.cell 11
  have a12 := hb.cell 12
  simp at a0 a1 a2 a3 a4 a5 a6 a7 a8 a9 a10 a11 a12
  have za := hb.lt
  clear hb
  have hb := HBb.out
  have b0 := hb.cell 0
  have b1 := hb.cell 1
  have b2 := hb.cell 2
  have b3 := hb.cell 3
  have b4 := hb.cell 4
  have b5 := hb.cell 5
  have b6 := hb.cell 6
  have b7 := hb.cell 7
  have b8 := hb.cell 8
  have b9 := hb.cell 9
  have b10 := hb.cell 10
  have b11 := hb.cell 11
  have b12 := hb.cell 12
  simp at b0 b1 b2 b3 b4 b5 b6 b7 b8 b9 b10 b11 b12
  have zb := hb.lt
  clear hb
  go_wp2_with fail
  refine (F4.out _ HK.out).mono ?_
  rintro e w4 ⟨rfl, hq4⟩
  have hk4 := hq4.keeps noBlk
  clear a0 a1 a2 a3 a4 a5 a6 a7 a8 a9 a10 a11 a12 b0 b1 b2 b3 b4 b5 b6 b7 b8 b9 b10 b11 b12 za zb
  have ha := HBa.out.keeps hk4 (fun h => h)
  clear HBa
  have HBa := Lib.hid ha
  clear ha
  have hb := HBb.out.keeps hk4 (fun h => h)
  clear HBb
  have HBb := Lib.hid hb
  clear hb
  have hr := HK.out.trans hk4
  clear HK
  have HK := Lib.hid hr
  clear hr
  have sz4 := hk4.size
  (try simp at sz4)
  clear hk4
  go_wp2
  go_ret
  exact ⟨rfl, HK.out⟩
end Go.Proofs.YtcnbephpadmboaaGreatDoor

/-! CxK -/
namespace Go.Proofs.YtcnbephpadmboaaGreatDoor
open Go.RowKit

def StM.Own (w : World) (lo : Nat) (s : StM) : Prop := StOwn w lo s.x s.A1 s.A2 s.A3 s.A4
def StM.Len (s : StM) : Prop := s.x.sent.length ≤ maxLen ∧ s.x.live.length ≤ maxLen ∧ s.x.back.length ≤ maxLen ∧ s.x.got.length ≤ maxLen
theorem StM.Own.at_ {w : World} {lo : Nat} {s : StM} (h : s.Own w lo) (m : s.Len) : s.At w := StOwn.at_ h m.1 m.2.1 m.2.2.1 m.2.2.2
theorem StM.Own.kept {w w' : World} {lo : Nat} {s : StM} (h : s.Own w lo) (hk : Keeps noBlk w w') : s.Own w' lo := StOwn.kept h hk
theorem StM.Own.keeps {S : Nat → Prop} {w w' : World} {lo : Nat} {s : StM} (h : s.Own w lo) (hk : Keeps S w w') (hs : ∀ b, s.bl b → ¬ S b) : s.Own w' lo := StOwn.keeps h hk hs
theorem StM.Own.lt {w : World} {lo : Nat} {s : StM} (h : s.Own w lo) {b : Nat} (hb : s.bl b) : b < w.heap.size := StOwn.lt h hb
theorem StM.Own.ge {w : World} {lo : Nat} {s : StM} (h : s.Own w lo) {b : Nat} (hb : s.bl b) : lo ≤ b := StOwn.ge h hb
theorem StM.Own.less {w : World} {lo lo' : Nat} {s : StM} (h : s.Own w lo) (hl : lo' ≤ lo) : s.Own w lo' := by
  obtain ⟨s1, s2, s3, ⟨h1, h2, h3, h4⟩, q1, q2, q3, e1, e2, e3⟩ := h
  exact ⟨s1, s2, s3, ⟨h1.less hl, h2, h3, h4⟩, q1, q2, q3, by omega, e2, e3⟩
/-- State i of the list is the call's own, its blocks have the role r + i. -/
def SOwn (G : Nat → Nat) (r : Nat) (w : World) (lo : Nat) (ps : List StM) (i : Nat) : Prop := (ps.getD i stm0).Own w lo ∧ ∀ b, (ps.getD i stm0).bl b → G b = r + i
theorem SOwn.keeps {S : Nat → Prop} {G : Nat → Nat} {r : Nat} {w w' : World} {lo : Nat} {ps : List StM} {i : Nat} (h : SOwn G r w lo ps i) (hk : Keeps S w w') (hs : ∀ b, G b = r + i → ¬ S b) : SOwn G r w' lo ps i :=
  ⟨h.1.keeps hk fun b hb => hs b (h.2 b hb), h.2⟩
theorem SOwn.kept {G : Nat → Nat} {r : Nat} {w w' : World} {lo : Nat} {ps : List StM} {i : Nat} (h : SOwn G r w lo ps i) (hk : Keeps noBlk w w') : SOwn G r w' lo ps i := h.keeps hk fun _ _ h => h
theorem getD_set_self {α : Type} {l : List α} {k : Nat} (d s : α) (h : k < l.length) : (l.set k s).getD k d = s := by
  rw [List.getD_eq_getElem?_getD, List.getElem?_set_self h]
  rfl
theorem getD_set_ne {α : Type} {l : List α} {k i : Nat} (d s : α) (h : k ≠ i) : (l.set k s).getD i d = l.getD i d := by
  rw [List.getD_eq_getElem?_getD, List.getElem?_set_ne h, ← List.getD_eq_getElem?_getD]

/-- A state whose memory and three numbers are marked from k on. -/
def smk (s : StM) (k : Int) : StM := { s with x := { stMark s.x (k + 1 + 1 + 1) with way := k, ver := k + 1, want := k + 1 + 1 } }
theorem smk_bl (s : StM) (k : Int) (b : Nat) : (smk s k).bl b ↔ s.bl b := by
  simp only [smk, StM.bl, stBlk, stMark, pmarks_length, bmarks_length, iota_length]
theorem smk_len {s : StM} {k : Int} (h : s.Len) : (smk s k).Len := by
  simpa only [smk, StM.Len, stMark, pmarks_length, bmarks_length, iota_length] using h
def stNi (x : StL) : Int := 7 * (x.sent.length : Int) + x.live.length + x.back.length + x.got.length
/-- How many marks the first i states take. -/
def paN (ps : List StM) : Nat → Int
  | 0 => 0
  | i + 1 => paN ps i + 3 + stNi (ps.getD i stm0).x
theorem stNi_nn (x : StL) : 0 ≤ stNi x := by unfold stNi; omega
theorem paN_nn (ps : List StM) (i : Nat) : 0 ≤ paN ps i := by
  induction i with
  | zero => exact Int.le_refl _
  | succ i ih => have := stNi_nn (ps.getD i stm0).x; simp only [paN]; omega
theorem paN_mono (ps : List StM) {i j : Nat} (h : i ≤ j) : paN ps i ≤ paN ps j := by
  induction h with
  | refl => exact Int.le_refl _
  | @step m _ ih => have := stNi_nn (ps.getD m stm0).x; simp only [paN]; omega
theorem paN_len (ps : List StM) (i : Nat) : 3 * (i : Int) ≤ paN ps i := by
  induction i with
  | zero => exact Int.le_refl _
  | succ i ih => have := stNi_nn (ps.getD i stm0).x; simp only [paN]; omega
/-- The blocks of a slice of states, and of their rows. -/
def pasBlk (A : Option Addr) (ps : List StM) (b : Nat) : Prop := blk A ps.length b ∨ ∃ i, i < ps.length ∧ (ps.getD i stm0).bl b
/-- All marked. -/
def pastMark (ps : List StM) (k : Int) : List StM := (List.range ps.length).map fun i => smk (ps.getD i stm0) (k + paN ps i)
theorem pastMark_length (ps : List StM) (k : Int) : (pastMark ps k).length = ps.length := by simp [pastMark]
theorem pastMark_getD (ps : List StM) (k : Int) {i : Nat} (h : i < ps.length) : (pastMark ps k).getD i stm0 = smk (ps.getD i stm0) (k + paN ps i) := by
  simp only [pastMark, List.getD_eq_getElem?_getD, List.getElem?_map, List.getElem?_range h]
  rfl
theorem ext_getD {l m : List StM} (hl : l.length = m.length) (h : ∀ i, i < l.length → l.getD i stm0 = m.getD i stm0) : l = m := by
  apply List.ext_getElem hl
  intro i h1 h2
  have := h i h1
  rw [List.getD_eq_getElem?_getD, List.getD_eq_getElem?_getD, List.getElem?_eq_getElem h1, List.getElem?_eq_getElem h2] at this
  exact this

set_option maxRecDepth 100000 in
set_option maxHeartbeats 4000000 in
theorem markStateS_any (A : Option Addr) (c lo : Nat) (G : Nat → Nat) (k : Int) (ps : List StM) (w : World) (hr : SRow w lo A ps.length ps) (hg : ∀ b, blk A ps.length b → G b = 3) (hs : ∀ i, i < ps.length → SOwn G 10 w lo ps i)
    (hk0 : 0 ≤ k) (hk : k + paN ps ps.length ≤ 1000000000) :
    Calls Tryz.prog 51 #[.slice A ps.length c, .int .i64 k] w fun e w' => e = .returned (.int .i64 (k + paN ps ps.length)) ∧ SRow w' lo A ps.length (pastMark ps k) ∧ (∀ i, i < ps.length → SOwn G 10 w' lo (pastMark ps k) i) ∧ Keeps (pasBlk A ps) w w' := by
  have hln : (ps.length : Int) ≤ 1000000000 := by have := paN_len ps ps.length; omega
  have hle := Lib.hid (fun j (h : j ≤ ps.length) => paN_mono ps h)
  have hnn := Lib.hid (paN_nn ps)
  have HG := Lib.hid hg
  have HR := Lib.hid hr
  have HS := Lib.hid hs
  clear hr hg hs
  go_enter Tryz.func51, Tryz.ntmps51
  go_wp2
  go_loopw [1, 5] (fun kk i wr => ∃ (j : Nat) (us : List StM), j ≤ ps.length ∧ i = .int .i64 j ∧ kk = .int .i64 (k + paN ps j) ∧ us.length = ps.length ∧ (∀ i, i < ps.length → us.getD i stm0 = if i < j then smk (ps.getD i stm0) (k + paN ps i) else ps.getD i stm0) ∧ SRow wr lo A ps.length us ∧ (∀ i, i < ps.length → SOwn G 10 wr lo us i) ∧ Keeps (pasBlk A ps) w wr) (fun _ i _ => ps.length - (intOf i).toNat)
  case atStart => exact ⟨0, ps, Nat.zero_le _, rfl, by simp [paN], rfl, fun i _ => by rw [if_neg (Nat.not_lt_zero _)], HR.out, HS.out, Keeps.refl _ _⟩
  case round =>
    obtain ⟨j, us, hj, rfl, rfl, hul, hus, hr, hs, hkp⟩ := hrel
    by_cases hlt : j < ps.length
    · obtain ⟨b1, o1, rfl, hb1, z0, z1, z2, z3, z4, z5, z6⟩ := hr.1.at_ hlt
      obtain ⟨b1', o1', e1', _, hf⟩ := hr.2 (by omega)
      injection e1' with e1'
      injection e1' with e1' e2'
      subst e1'
      subst e2'
      have f0 := hf (j * 7) (by omega)
      have f1 := hf (j * 7 + 1) (by omega)
      have f2 := hf (j * 7 + 2) (by omega)
      simp only [← Nat.add_assoc] at f1 f2
      clear hf
      have hsj := hs j hlt
      have huj := hus j hlt
      rw [if_neg (Nat.lt_irrefl _)] at huj
      have gb1 : G b1 = 3 := HG.out b1 ⟨by omega, _, rfl, rfl⟩
      have hst : Hid (paN ps (j + 1) = paN ps j + 3 + stNi (ps.getD j stm0).x) := Lib.hid rfl
      have h1 := hle.out (j + 1) hlt
      have h2 := hnn.out j
      rw [hst.out] at h1
      have hbl : ∀ b, (ps.getD j stm0).bl b → pasBlk (some ⟨b1, o1, none⟩) ps b := fun b hb => .inr ⟨j, hlt, hb⟩
      have hb3 : pasBlk (some ⟨b1, o1, none⟩) ps b1 := .inl ⟨by omega, _, rfl, rfl⟩
      rw [SOwn, huj] at hsj
      rw [huj] at z0 z1 z2 z3 z4 z5 z6
      have hne : Hid (ps.getD j stm0 = us.getD j stm0) := Lib.hid huj.symm
      generalize hp : ps.getD j stm0 = p at hsj z0 z1 z2 z3 z4 z5 z6 hst h1 hbl huj hne
      have HPJ := Lib.hid hp
      clear hp
      obtain ⟨x, A1, A2, A3, A4, c1, c2, c3, c4⟩ := p
      obtain ⟨hown, hgj⟩ := hsj
      dsimp only [StM.Own, StM.bl] at hown hgj z0 z1 z2 z3 z4 z5 z6 hbl
      generalize hK : k + paN ps j = K
      have hK0 : 0 ≤ K := by omega
      have hK1 : K + 3 + 7 * (x.sent.length : Int) + x.live.length + x.back.length + x.got.length ≤ 1000000000 := by
        unfold stNi at h1
        dsimp only at h1
        omega
      have HKK := Lib.hid hK
      clear hK h1 h2
      have n1 : ¬ stBlk x A1 A2 A3 A4 b1 := fun h => by have := hgj _ h; omega
      -- the three stores
      have HK3 := Lib.hid ((((Keeps.refl (fun b => b = b1) wr).setCell (p := ⟨b1, o1 + j * 7, none⟩) (.inr rfl) (.int .i64 K)).setCell (p := ⟨b1, o1 + j * 7 + 1, none⟩) (.inr rfl) (.int .i64 (K + 1))).setCell (p := ⟨b1, o1 + j * 7 + 2, none⟩) (.inr rfl) (.int .i64 (K + 1 + 1)))
      have hR3 := ((hr.put hlt 0 (by omega) (.int .i64 K) ⟨{ x with way := K }, A1, A2, A3, A4, c1, c2, c3, c4⟩ (by rw [huj]; rfl)).put hlt 1 (by omega) (.int .i64 (K + 1)) ⟨{ x with way := K, ver := K + 1 }, A1, A2, A3, A4, c1, c2, c3, c4⟩ (by rw [getD_set_self _ _ (by omega)]; rfl)).put hlt 2 (by omega) (.int .i64 (K + 1 + 1)) (smk ⟨x, A1, A2, A3, A4, c1, c2, c3, c4⟩ K) (by rw [getD_set_self _ _ (by simp; omega)]; simp [StM.cs, smk, stMark, pmarks_length, bmarks_length, iota_length])
      rw [List.set_set, List.set_set, Nat.add_zero] at hR3
      have HR3 := Lib.hid hR3
      clear hR3
      obtain ⟨s1, s2, s3, ⟨h1, h2, h3, h4⟩, q1, q2, q3, e1, e2, e3⟩ := hown
      have H1 := Lib.hid (h1.keeps HK3.out fun b hb e => n1 (by subst e; exact .inl hb))
      have H2 := Lib.hid (h2.keeps HK3.out fun b hb e => n1 (by subst e; exact .inr (.inl hb)))
      have H3 := Lib.hid (h3.keeps HK3.out fun b hb e => n1 (by subst e; exact .inr (.inr (.inl hb))))
      have H4 := Lib.hid (h4.keeps HK3.out fun b hb e => n1 (by subst e; exact .inr (.inr (.inr hb))))
      have d12 : ∀ b, blk A1 x.sent.length b → ¬ blk A2 x.live.length b := fun b h h' => by have := q1 b h; have := h2.ge h'; omega
      have d13 : ∀ b, blk A1 x.sent.length b → ¬ blk A3 x.back.length b := fun b h h' => by have := q1 b h; have := h3.ge h'; omega
      have d14 : ∀ b, blk A1 x.sent.length b → ¬ blk A4 x.got.length b := fun b h h' => by have := q1 b h; have := h4.ge h'; omega
      have d23 : ∀ b, blk A2 x.live.length b → ¬ blk A3 x.back.length b := fun b h h' => by have := q2 b h; have := h3.ge h'; omega
      have d24 : ∀ b, blk A2 x.live.length b → ¬ blk A4 x.got.length b := fun b h h' => by have := q2 b h; have := h4.ge h'; omega
      have d34 : ∀ b, blk A3 x.back.length b → ¬ blk A4 x.got.length b := fun b h h' => by have := q3 b h; have := h4.ge h'; omega
      have D := Lib.hid (And.intro d12 (And.intro d13 (And.intro d14 (And.intro d23 (And.intro d24 d34)))))
      have Q := Lib.hid (And.intro q1 (And.intro q2 (And.intro q3 (And.intro e1 (And.intro e2 e3)))))
      have HUS := Lib.hid hus
      have HSS := Lib.hid hs
      have Hkp := Lib.hid hkp
      have HGJ := Lib.hid hgj
      have HBL := Lib.hid hbl
      have HB3 := Lib.hid hb3
      have HN1 := Lib.hid n1
      have HUL := Lib.hid hul
      have HGB := Lib.hid gb1
      have HLT := Lib.hid hlt
      clear h1 h2 h3 h4 q1 q2 q3 e1 e2 e3 d12 d13 d14 d23 d24 d34 hus hs hkp hgj hbl hb3 n1 hul gb1 huj hr
      go_wp2_with fail
      generalize ((wr.setCell ⟨b1, o1 + j * 7, none⟩ (.int .i64 K)).setCell ⟨b1, o1 + j * 7 + 1, none⟩ (.int .i64 (K + 1))).setCell ⟨b1, o1 + j * 7 + 2, none⟩ (.int .i64 (K + 1 + 1)) = W3 at HK3 HR3 H1 H2 H3 H4 ⊢
      clear z0 z1 z2 z3 z4 z5 z6 f0 f1 f2
      refine (markPacketS_any A1 x.sent.length _ lo _ x.sent _ H1.out (by omega) (by omega)).mono ?_
      rintro e w1 ⟨rfl, hr1, hk1⟩
      have hrow := HR3.out.keeps hk1 (fun b hb h => HN1.out (by obtain ⟨_, a, ea, eb⟩ := hb; injection ea with ea; subst ea; subst eb; exact .inl h))
      obtain ⟨b9, o9, e9, _, _, _, _, _, z4, _, _⟩ := hrow.1.at_ hlt
      injection e9 with e9
      injection e9 with e9 e8
      subst e9
      subst e8
      rw [getD_set_self _ _ (by rw [HUL.out]; exact hlt)] at z4
      simp only [smk, stMark, bmarks_length] at z4
      have HR4 := Lib.hid hrow
      have R1 := Lib.hid hr1
      have R2 := Lib.hid (H2.out.keeps hk1 fun b h h' => D.out.1 b h' h)
      have R3 := Lib.hid (H3.out.keeps hk1 fun b h h' => D.out.2.1 b h' h)
      have R4 := Lib.hid (H4.out.keeps hk1 fun b h h' => D.out.2.2.1 b h' h)
      have HK4 := Lib.hid (((HK3.out.more (T := fun b => b = b1 ∨ stBlk x A1 A2 A3 A4 b) fun _ _ h => .inl h)).then hk1 fun i hi h => .inr (.inl h))
      clear hrow hr1 hk1 H1 H2 H3 H4 HR3 HK3
      go_wp2_with fail
      clear z4
      refine (markBoolS_any A2 x.live.length _ s1 _ x.live _ R2.out (by omega) (by omega)).mono ?_
      rintro e w2 ⟨rfl, hr2, hk2⟩
      have hrow := HR4.out.keeps hk2 (fun b hb h => HN1.out (by obtain ⟨_, a, ea, eb⟩ := hb; injection ea with ea; subst ea; subst eb; exact .inr (.inl h)))
      obtain ⟨b9, o9, e9, _, _, _, _, _, _, z5, _⟩ := hrow.1.at_ hlt
      injection e9 with e9
      injection e9 with e9 e8
      subst e9
      subst e8
      rw [getD_set_self _ _ (by rw [HUL.out]; exact hlt)] at z5
      simp only [smk, stMark, bmarks_length] at z5
      have HR5 := Lib.hid hrow
      have T1 := Lib.hid (R1.out.keeps hk2 fun b h h' => D.out.1 b h h')
      have T2 := Lib.hid hr2
      have T3 := Lib.hid (R3.out.keeps hk2 fun b h h' => D.out.2.2.2.1 b h' h)
      have T4 := Lib.hid (R4.out.keeps hk2 fun b h h' => D.out.2.2.2.2.1 b h' h)
      have HK5 := Lib.hid (HK4.out.then hk2 fun i hi h => .inr (.inr (.inl h)))
      clear hrow hr2 hk2 R1 R2 R3 R4 HR4 HK4
      go_wp2_with fail
      clear z5
      refine (markBoolS_any A3 x.back.length _ s2 _ x.back _ T3.out (by omega) (by omega)).mono ?_
      rintro e w3 ⟨rfl, hr3, hk3⟩
      have hrow := HR5.out.keeps hk3 (fun b hb h => HN1.out (by obtain ⟨_, a, ea, eb⟩ := hb; injection ea with ea; subst ea; subst eb; exact .inr (.inr (.inl h))))
      obtain ⟨b9, o9, e9, _, _, _, _, _, _, _, z6⟩ := hrow.1.at_ hlt
      injection e9 with e9
      injection e9 with e9 e8
      subst e9
      subst e8
      rw [getD_set_self _ _ (by rw [HUL.out]; exact hlt)] at z6
      simp only [smk, stMark, iota_length] at z6
      have HR6 := Lib.hid hrow
      have V1 := Lib.hid (T1.out.keeps hk3 fun b h h' => D.out.2.1 b h h')
      have V2 := Lib.hid (T2.out.keeps hk3 fun b h h' => D.out.2.2.2.1 b h h')
      have V3 := Lib.hid hr3
      have V4 := Lib.hid (T4.out.keeps hk3 fun b h h' => D.out.2.2.2.2.2 b h' h)
      have HK6 := Lib.hid (HK5.out.then hk3 fun i hi h => .inr (.inr (.inr (.inl h))))
      clear hrow hr3 hk3 T1 T2 T3 T4 HR5 HK5
      go_wp2_with fail
      clear z6
      refine (markIntS_any A4 x.got.length _ s3 _ x.got _ V4.out (by omega) (by omega)).mono ?_
      rintro e w4 ⟨rfl, hr4, hk4⟩
      have HR7 := Lib.hid (HR6.out.keeps hk4 (fun b hb h => HN1.out (by obtain ⟨_, a, ea, eb⟩ := hb; injection ea with ea; subst ea; subst eb; exact .inr (.inr (.inr h)))))
      have HK7 := Lib.hid (HK6.out.then hk4 fun i hi h => .inr (.inr (.inr (.inr h))))
      have Y1 := Lib.hid (V1.out.keeps hk4 fun b h h' => D.out.2.2.1 b h h')
      have Y2 := Lib.hid (V2.out.keeps hk4 fun b h h' => D.out.2.2.2.2.1 b h h')
      have Y3 := Lib.hid (V3.out.keeps hk4 fun b h h' => D.out.2.2.2.2.2 b h h')
      have Y4 := Lib.hid hr4
      clear hr4 hk4 V1 V2 V3 V4 HR6 HK6
      go_wp2
      go_roundw
      case rel =>
        refine ⟨j + 1, us.set j (smk ⟨x, A1, A2, A3, A4, c1, c2, c3, c4⟩ K), HLT.out, by go_num, ?_, by rw [List.length_set]; exact HUL.out, ?_, HR7.out, ?_, ?_⟩
        · rw [hst.out, ← HKK.out]
          unfold stNi
          congr 1
          (try dsimp only)
          omega
        · intro i hi
          by_cases hij : j = i
          · subst hij
            rw [getD_set_self _ _ (by rw [HUL.out]; exact hlt), if_pos (Nat.lt_succ_self _), HPJ.out, HKK.out]
          · rw [getD_set_ne _ _ hij, HUS.out i hi]
            by_cases hlt' : i < j
            · rw [if_pos hlt', if_pos (by omega)]
            · rw [if_neg hlt', if_neg (by omega)]
        · intro i hi
          by_cases hij : j = i
          · subst hij
            unfold SOwn
            rw [getD_set_self _ _ (by rw [HUL.out]; exact hlt)]
            refine ⟨⟨s1, s2, s3, ?_, ?_⟩, fun b hb => HGJ.out b ((smk_bl _ _ b).1 hb)⟩
            · simp only [smk, stMark, pmarks_length, bmarks_length, iota_length]
              exact ⟨Y1.out, Y2.out, Y3.out, Y4.out⟩
            · simp only [smk, stMark, pmarks_length, bmarks_length, iota_length]
              exact Q.out
          · have := (HSS.out i hi).keeps HK7.out fun b hb h => by
              rcases h with rfl | h
              · have := HGB.out; omega
              · have := HGJ.out b h; omega
            unfold SOwn at this ⊢
            rw [getD_set_ne _ _ hij]
            exact this
        · exact Hkp.out.then HK7.out fun i hi h => by
            rcases h with rfl | h
            · exact HB3.out
            · exact HBL.out _ h
      case measure => have := HLT.out; simp [intOf]; omega
    · obtain he : j = ps.length := by omega
      obtain rfl : us = pastMark ps k := ext_getD (by rw [pastMark_length, hul]) fun i hi => by
        rw [hul] at hi
        rw [pastMark_getD ps k hi, hus i hi, if_pos (by omega)]
      have hh : Hid (k + paN ps j = k + paN ps ps.length) := Lib.hid (by rw [he])
      clear he
      have Hr := Lib.hid hr
      have Hs := Lib.hid hs
      have Hkp := Lib.hid hkp
      clear hr hs hkp hus hul
      go_wp2
      go_ret
      exact ⟨by first | (rw [hh.out]; done) | (rw [hh.out]; rfl), Hr.out, Hs.out, Hkp.out⟩
end Go.Proofs.YtcnbephpadmboaaGreatDoor
