/- A chain's memory for the laws: slices of states; a chain that can be read; a chain of the call's own. Nothing here speaks of the program's functions. eqStateS, eqChain of the laws, of two chains that hold the same. markStateS, heldStateS, markChain, heldChain of the laws: a chain of the call's own, whose rows lie in blocks of their own, is marked; a marked one is told. -/
import Derived.Test.YtjcbeihoeanhaaaDoorGCh
import Derived.Test.YtjcbeihoeanhaaaDoorUEM
import Derived.Test.YtjcbeihoeanhaaaDoorUOk
set_option linter.unusedVariables false
set_option linter.unusedSimpArgs false
/-! CxM -/
namespace Go.Proofs.YtjcbeihoeanhaaaDoor
open Go.RowKit

def stm0 : StM := ⟨⟨0, 0, 0, [], [], [], []⟩, none, none, none, none, 0, 0, 0, 0⟩
theorem getD_some {α : Type} {l : List α} {j : Nat} (d : α) (h : j < l.length) : l[j]? = some (l.getD j d) := by
 rw [List.getD_eq_getElem?_getD, List.getElem?_eq_getElem h]
 rfl
theorem getD_mem' {α : Type} {l : List α} {j : Nat} (d : α) (h : j < l.length) : l.getD j d ∈ l := List.mem_of_getElem? (getD_some d h)
def StM.At (w : World) (s : StM) : Prop := StAt w s.x s.A1 s.A2 s.A3 s.A4
def StM.bl (s : StM) (b : Nat) : Prop := stBlk s.x s.A1 s.A2 s.A3 s.A4 b
theorem StM.At.kept {w w' : World} {s : StM} (h : s.At w) (hk : Keeps noBlk w w') : s.At w' := StAt.kept h hk
theorem StM.At.keeps {S : Nat → Prop} {w w' : World} {s : StM} (h : s.At w) (hk : Keeps S w w') (hs : ∀ b, s.bl b → ¬ S b) : s.At w' := StAt.keeps h hk hs
def Pas (w : World) (A : Option Addr) (n : Nat) (ps : List StM) : Prop :=
 ps.length = n ∧ (0 < n → ∃ b off, A = some ⟨b, off, none⟩ ∧ b < w.heap.size ∧ ∀ j p, ps[j]? = some p → ∀ i c, p.cs[i]? = some c → w.cell? ⟨b, off + (j * 7 + i), none⟩ = some c)
theorem Pas.nil (w : World) (A : Option Addr) : Pas w A 0 [] := ⟨rfl, fun h => absurd h (by omega)⟩
theorem Pas.keeps {S : Nat → Prop} {w w' : World} {A : Option Addr} {n : Nat} {ps : List StM} (h : Pas w A n ps) (hk : Keeps S w w') (hs : ∀ b, blk A n b → ¬ S b) : Pas w' A n ps :=
 ⟨h.1, fun hn => by
  obtain ⟨b, off, e, hb, hc⟩ := h.2 hn
  exact ⟨b, off, e, Nat.lt_of_lt_of_le hb hk.size, fun j p hp i c hi => (hk.cell hb (hs b ⟨hn, _, e, rfl⟩)).trans (hc j p hp i c hi)⟩⟩
theorem Pas.kept {w w' : World} {A : Option Addr} {n : Nat} {ps : List StM} (h : Pas w A n ps) (hk : Keeps noBlk w w') : Pas w' A n ps := h.keeps hk fun _ _ h => h
theorem Pas.lt {w : World} {A : Option Addr} {n : Nat} {ps : List StM} (h : Pas w A n ps) {b : Nat} (hb : blk A n b) : b < w.heap.size := by
 obtain ⟨hn, a, rfl, rfl⟩ := hb; obtain ⟨b, off, e, hl, _⟩ := h.2 hn
 injection e with e
 subst e; exact hl
theorem Pas.at_ {w : World} {A : Option Addr} {n k : Nat} {ps : List StM} (h : Pas w A n ps) (hk : k < n) :
  ∃ b off, A = some ⟨b, off, none⟩ ∧ b < w.heap.size ∧
   w.cell? ⟨b, off + k * 7, none⟩ = some (.int .i64 (ps.getD k stm0).x.way) ∧ w.cell? ⟨b, off + k * 7 + 1, none⟩ = some (.int .i64 (ps.getD k stm0).x.ver) ∧ w.cell? ⟨b, off + k * 7 + 2, none⟩ = some (.int .i64 (ps.getD k stm0).x.want) ∧
   w.cell? ⟨b, off + k * 7 + 3, none⟩ = some (.slice (ps.getD k stm0).A1 (ps.getD k stm0).x.sent.length (ps.getD k stm0).c1) ∧ w.cell? ⟨b, off + k * 7 + 4, none⟩ = some (.slice (ps.getD k stm0).A2 (ps.getD k stm0).x.live.length (ps.getD k stm0).c2) ∧
   w.cell? ⟨b, off + k * 7 + 5, none⟩ = some (.slice (ps.getD k stm0).A3 (ps.getD k stm0).x.back.length (ps.getD k stm0).c3) ∧ w.cell? ⟨b, off + k * 7 + 6, none⟩ = some (.slice (ps.getD k stm0).A4 (ps.getD k stm0).x.got.length (ps.getD k stm0).c4) := by
 obtain ⟨b, off, e, hb, hc⟩ := h.2 (by omega)
 have hl : k < ps.length := by have := h.1; omega
 have h7 := hc k _ (getD_some stm0 hl); exact ⟨b, off, e, hb, h7 0 _ rfl, h7 1 _ rfl, h7 2 _ rfl, h7 3 _ rfl, h7 4 _ rfl, h7 5 _ rfl, h7 6 _ rfl⟩
def SRow (w : World) (lo : Nat) (A : Option Addr) (n : Nat) (ps : List StM) : Prop :=
 Pas w A n ps ∧ (0 < n → ∃ b off, A = some ⟨b, off, none⟩ ∧ lo ≤ b ∧ ∀ j, j < n * 7 → w.frozen? ⟨b, off + j, none⟩ = false)
theorem SRow.nil (w : World) (lo : Nat) (A : Option Addr) : SRow w lo A 0 [] := ⟨Pas.nil w A, fun h => absurd h (by omega)⟩
theorem SRow.less {w : World} {lo lo' : Nat} {A : Option Addr} {n : Nat} {ps : List StM} (h : SRow w lo A n ps) (hl : lo' ≤ lo) : SRow w lo' A n ps :=
 ⟨h.1, fun hn => by
  obtain ⟨b, off, e, hb, hf⟩ := h.2 hn
  exact ⟨b, off, e, by omega, hf⟩⟩
theorem SRow.keeps {S : Nat → Prop} {w w' : World} {lo : Nat} {A : Option Addr} {n : Nat} {ps : List StM} (h : SRow w lo A n ps) (hk : Keeps S w w') (hs : ∀ b, blk A n b → ¬ S b) : SRow w' lo A n ps :=
 ⟨h.1.keeps hk hs, fun hn => by
  obtain ⟨b, off, e, hb, hf⟩ := h.2 hn; obtain ⟨b', off', e', hb', _⟩ := h.1.2 hn; rw [e] at e'
  injection e' with e'
  injection e' with e1 e2
  subst e1
  exact ⟨b, off, e, hb, fun j hj => (hk.frozen hb' (hs b ⟨hn, _, e, rfl⟩)).trans (hf j hj)⟩⟩
theorem SRow.kept {w w' : World} {lo : Nat} {A : Option Addr} {n : Nat} {ps : List StM} (h : SRow w lo A n ps) (hk : Keeps noBlk w w') : SRow w' lo A n ps := h.keeps hk fun _ _ h => h
theorem SRow.lt {w : World} {lo : Nat} {A : Option Addr} {n : Nat} {ps : List StM} (h : SRow w lo A n ps) {b : Nat} (hb : blk A n b) : b < w.heap.size := h.1.lt hb
theorem SRow.ge {w : World} {lo : Nat} {A : Option Addr} {n : Nat} {ps : List StM} (h : SRow w lo A n ps) {b : Nat} (hb : blk A n b) : lo ≤ b := by
 obtain ⟨hn, a, rfl, rfl⟩ := hb; obtain ⟨b, off, e, hl, _⟩ := h.2 hn
 injection e with e
 subst e; exact hl
def setSt (w : World) (b o : Nat) (p : StM) : World :=
 ((((((w.setCell ⟨b, o, none⟩ (.int .i64 p.x.way)).setCell ⟨b, o + 1, none⟩ (.int .i64 p.x.ver)).setCell ⟨b, o + 2, none⟩ (.int .i64 p.x.want)).setCell ⟨b, o + 3, none⟩ (.slice p.A1 p.x.sent.length p.c1)).setCell ⟨b, o + 4, none⟩ (.slice p.A2 p.x.live.length p.c2)).setCell ⟨b, o + 5, none⟩ (.slice p.A3 p.x.back.length p.c3)).setCell ⟨b, o + 6, none⟩ (.slice p.A4 p.x.got.length p.c4)
theorem setSt_other (w : World) (b o : Nat) (p : StM) (y : Nat) (hy : y < o ∨ o + 7 ≤ y) : (setSt w b o p).cell? ⟨b, y, none⟩ = w.cell? ⟨b, y, none⟩ := by
 have ne : ∀ j, j < 7 → (⟨b, o + j, none⟩ : Addr) ≠ ⟨b, y, none⟩ := fun j hj e => by injection e with _ e; omega
 have n0 : (⟨b, o, none⟩ : Addr) ≠ ⟨b, y, none⟩ := fun e => by injection e with _ e; omega
 unfold setSt; rw [World.cell?_setCell_other _ _ _ _ (ne 6 (by omega)), World.cell?_setCell_other _ _ _ _ (ne 5 (by omega)), World.cell?_setCell_other _ _ _ _ (ne 4 (by omega)), World.cell?_setCell_other _ _ _ _ (ne 3 (by omega)), World.cell?_setCell_other _ _ _ _ (ne 2 (by omega)), World.cell?_setCell_other _ _ _ _ (ne 1 (by omega)), World.cell?_setCell_other _ _ _ _ n0]
theorem setSt_same (w : World) (b o : Nat) (p : StM) (h : ∀ i, i < 7 → ∃ v, w.cell? ⟨b, o + i, none⟩ = some v) (i : Nat) (c : Value) (hc : p.cs[i]? = some c) : (setSt w b o p).cell? ⟨b, o + i, none⟩ = some c := by
 have hi : i < 7 := (List.getElem?_eq_some_iff.1 hc).1
 have ne : ∀ j k, j ≠ k → (⟨b, o + k, none⟩ : Addr) ≠ ⟨b, o + j, none⟩ := fun j k hj e => by injection e with _ e; omega
 have n0 : ∀ j, j ≠ 0 → (⟨b, o, none⟩ : Addr) ≠ ⟨b, o + j, none⟩ := fun j hj e => by injection e with _ e; omega
 obtain ⟨v, hv⟩ := h i hi; unfold setSt
 obtain rfl | rfl | rfl | rfl | rfl | rfl | rfl : i = 0 ∨ i = 1 ∨ i = 2 ∨ i = 3 ∨ i = 4 ∨ i = 5 ∨ i = 6 := by omega
 ·obtain rfl : _ = c := Option.some.inj hc
  rw [World.cell?_setCell_other _ _ _ _ (ne 0 6 (by omega)), World.cell?_setCell_other _ _ _ _ (ne 0 5 (by omega)), World.cell?_setCell_other _ _ _ _ (ne 0 4 (by omega)), World.cell?_setCell_other _ _ _ _ (ne 0 3 (by omega)), World.cell?_setCell_other _ _ _ _ (ne 0 2 (by omega)), World.cell?_setCell_other _ _ _ _ (ne 0 1 (by omega))]; exact World.cell?_setCell_same _ _ _ hv
 ·obtain rfl : _ = c := Option.some.inj hc
  rw [World.cell?_setCell_other _ _ _ _ (ne 1 6 (by omega)), World.cell?_setCell_other _ _ _ _ (ne 1 5 (by omega)), World.cell?_setCell_other _ _ _ _ (ne 1 4 (by omega)), World.cell?_setCell_other _ _ _ _ (ne 1 3 (by omega)), World.cell?_setCell_other _ _ _ _ (ne 1 2 (by omega))]; exact World.cell?_setCell_same _ _ _ ((World.cell?_setCell_other _ _ _ _ (n0 1 (by omega))).trans hv)
 ·obtain rfl : _ = c := Option.some.inj hc
  rw [World.cell?_setCell_other _ _ _ _ (ne 2 6 (by omega)), World.cell?_setCell_other _ _ _ _ (ne 2 5 (by omega)), World.cell?_setCell_other _ _ _ _ (ne 2 4 (by omega)), World.cell?_setCell_other _ _ _ _ (ne 2 3 (by omega))]; exact World.cell?_setCell_same _ _ _ ((World.cell?_setCell_other _ _ _ _ (ne 2 1 (by omega))).trans ((World.cell?_setCell_other _ _ _ _ (n0 2 (by omega))).trans hv))
 ·obtain rfl : _ = c := Option.some.inj hc
  rw [World.cell?_setCell_other _ _ _ _ (ne 3 6 (by omega)), World.cell?_setCell_other _ _ _ _ (ne 3 5 (by omega)), World.cell?_setCell_other _ _ _ _ (ne 3 4 (by omega))]; exact World.cell?_setCell_same _ _ _ ((World.cell?_setCell_other _ _ _ _ (ne 3 2 (by omega))).trans ((World.cell?_setCell_other _ _ _ _ (ne 3 1 (by omega))).trans ((World.cell?_setCell_other _ _ _ _ (n0 3 (by omega))).trans hv)))
 ·obtain rfl : _ = c := Option.some.inj hc
  rw [World.cell?_setCell_other _ _ _ _ (ne 4 6 (by omega)), World.cell?_setCell_other _ _ _ _ (ne 4 5 (by omega))]; exact World.cell?_setCell_same _ _ _ ((World.cell?_setCell_other _ _ _ _ (ne 4 3 (by omega))).trans ((World.cell?_setCell_other _ _ _ _ (ne 4 2 (by omega))).trans ((World.cell?_setCell_other _ _ _ _ (ne 4 1 (by omega))).trans ((World.cell?_setCell_other _ _ _ _ (n0 4 (by omega))).trans hv))))
 ·obtain rfl : _ = c := Option.some.inj hc
  rw [World.cell?_setCell_other _ _ _ _ (ne 5 6 (by omega))]; exact World.cell?_setCell_same _ _ _ ((World.cell?_setCell_other _ _ _ _ (ne 5 4 (by omega))).trans ((World.cell?_setCell_other _ _ _ _ (ne 5 3 (by omega))).trans ((World.cell?_setCell_other _ _ _ _ (ne 5 2 (by omega))).trans ((World.cell?_setCell_other _ _ _ _ (ne 5 1 (by omega))).trans ((World.cell?_setCell_other _ _ _ _ (n0 5 (by omega))).trans hv)))))
 ·obtain rfl : _ = c := Option.some.inj hc
  exact World.cell?_setCell_same _ _ _ ((World.cell?_setCell_other _ _ _ _ (ne 6 5 (by omega))).trans ((World.cell?_setCell_other _ _ _ _ (ne 6 4 (by omega))).trans ((World.cell?_setCell_other _ _ _ _ (ne 6 3 (by omega))).trans ((World.cell?_setCell_other _ _ _ _ (ne 6 2 (by omega))).trans ((World.cell?_setCell_other _ _ _ _ (ne 6 1 (by omega))).trans ((World.cell?_setCell_other _ _ _ _ (n0 6 (by omega))).trans hv))))))
theorem setSt_size (w : World) (b o : Nat) (p : StM) : (setSt w b o p).heap.size = w.heap.size := by simp [setSt, World.setCell]
theorem setSt_frozen (w : World) (b o : Nat) (p : StM) (a : Addr) : (setSt w b o p).frozen? a = w.frozen? a := by simp only [setSt, World.frozen?_setCell]
theorem Keeps.setSt {S : Nat → Prop} {a w : World} (h : Keeps S a w) {b : Nat} (hb : a.heap.size ≤ b ∨ S b) (o : Nat) (p : StM) : Keeps S a (setSt w b o p) :=
 ((((((h.setCell (p := ⟨b, o, none⟩) hb _).setCell (p := ⟨b, o + 1, none⟩) hb _).setCell (p := ⟨b, o + 2, none⟩) hb _).setCell (p := ⟨b, o + 3, none⟩) hb _).setCell (p := ⟨b, o + 4, none⟩) hb _).setCell (p := ⟨b, o + 5, none⟩) hb _).setCell (p := ⟨b, o + 6, none⟩) hb _
theorem SRow.set_ {w : World} {lo b off n k : Nat} {ps : List StM} (h : SRow w lo (some ⟨b, off, none⟩) n ps) (hk : k < n) (p : StM) :
  SRow (setSt w b (off + k * 7) p) lo (some ⟨b, off, none⟩) n (ps.set k p) := by
 obtain ⟨⟨hl, h2⟩, h3⟩ := h; refine ⟨⟨by simpa using hl, fun hn => ?_⟩, fun hn => ?_⟩
 ·obtain ⟨b', off', e', hb, hc⟩ := h2 hn
  injection e' with e'
  injection e' with e1 e2
  subst e1; subst e2; refine ⟨b, off, rfl, by rw [setSt_size]; exact hb, fun j q hq i c hi => ?_⟩; have hi7 : i < 7 := (List.getElem?_eq_some_iff.1 hi).1
  have hjl : j < ps.length := by
   have := (List.getElem?_eq_some_iff.1 hq).1
   simpa using this
  by_cases hjk : j = k
  ·subst hjk
   have hq' : (ps.set j p)[j]? = some p := List.getElem?_set_self (by omega); have hpq : p = q := Option.some.inj (hq'.symm.trans hq); clear hq hq'; subst hpq
   have := setSt_same w b (off + j * 7) p (fun i' hi' => by
    have hl' : i' < (ps[j]).cs.length := hi'; obtain ⟨c', hc'⟩ : ∃ c', (ps[j]).cs[i']? = some c' := ⟨_, List.getElem?_eq_getElem hl'⟩
    exact ⟨c', by have := hc j _ (List.getElem?_eq_getElem hjl) i' c' hc'; rwa [← Nat.add_assoc] at this⟩) i c hi
   rwa [← Nat.add_assoc]
  ·rw [List.getElem?_set_ne (by omega)] at hq
   rw [setSt_other _ _ _ _ _ (by rcases Nat.lt_or_gt_of_ne hjk with h | h <;> omega)]; exact hc j q hq i c hi
 ·obtain ⟨b', off', e', hb, hf⟩ := h3 hn
  exact ⟨b', off', e', hb, fun j hj => by rw [setSt_frozen]; exact hf j hj⟩


theorem SRow.put {w : World} {lo b off n k : Nat} {ps : List StM} (h : SRow w lo (some ⟨b, off, none⟩) n ps) (hk : k < n) (i : Nat) (hi : i < 7) (u : Value) (s : StM) (hs : s.cs = (ps.getD k stm0).cs.set i u) :
  SRow (w.setCell ⟨b, off + k * 7 + i, none⟩ u) lo (some ⟨b, off, none⟩) n (ps.set k s) := by
 obtain ⟨⟨hl, h2⟩, h3⟩ := h; refine ⟨⟨by simpa using hl, fun hn => ?_⟩, fun hn => ?_⟩
 ·obtain ⟨b', off', e', hb, hc⟩ := h2 hn
  injection e' with e'
  injection e' with e1 e2
  subst e1; subst e2; refine ⟨b, off, rfl, by simpa [World.setCell] using hb, fun j q hq i' c hi' => ?_⟩; have hi7 : i' < 7 := (List.getElem?_eq_some_iff.1 hi').1
  have hjl : j < ps.length := by
   have := (List.getElem?_eq_some_iff.1 hq).1
   simpa using this
  by_cases hjk : j = k
  ·subst hjk
   have hq' : (ps.set j s)[j]? = some s := List.getElem?_set_self (by omega); have hpq : s = q := Option.some.inj (hq'.symm.trans hq); clear hq hq'; subst hpq; have old := hc j _ (getD_some stm0 hjl); rw [hs] at hi'
   by_cases hii : i = i'
   ·subst hii
    rw [List.getElem?_set_self (by exact hi7)] at hi'
    injection hi' with hi'
    subst hi'; rw [← Nat.add_assoc]; exact World.cell?_setCell_same _ _ _ (by rw [Nat.add_assoc]; exact old i _ (List.getElem?_eq_getElem (show i < (ps.getD j stm0).cs.length from hi7)))
   ·rw [List.getElem?_set_ne hii] at hi'
    rw [World.cell?_setCell_other _ _ _ _ (by intro e; injection e with _ e; omega)]; exact old i' c hi'
  ·rw [List.getElem?_set_ne (by omega)] at hq
   rw [World.cell?_setCell_other _ _ _ _ (by intro e; injection e with _ e; rcases Nat.lt_or_gt_of_ne hjk with h | h <;> omega)]; exact hc j q hq i' c hi'
 ·obtain ⟨b', off', e', hb, hf⟩ := h3 hn
  exact ⟨b', off', e', hb, fun j hj => by rw [World.frozen?_setCell]; exact hf j hj⟩

structure ChAt (w : World) (c : ChM) : Prop where
 own : Ints w c.bk.A1 c.bk.b.own.length c.bk.b.own
 notes : Ints w c.bk.A2 c.bk.b.notes.length c.bk.b.notes
 st : c.st.At w
 row : Pas w c.pA c.past.length c.past
 past : ∀ s ∈ c.past, s.At w
 knows : Ints w c.kA c.knows.length c.knows
 m1 : c.bk.b.own.length ≤ maxLen
 m2 : c.bk.b.notes.length ≤ maxLen
 m3 : c.past.length ≤ maxLen
 m4 : c.knows.length ≤ maxLen
theorem ChAt.kept {w w' : World} {c : ChM} (h : ChAt w c) (hk : Keeps noBlk w w') : ChAt w' c :=
 ⟨h.own.keeps hk fun _ _ h => h, h.notes.keeps hk fun _ _ h => h, h.st.kept hk, h.row.kept hk, fun s hs => (h.past s hs).kept hk, h.knows.keeps hk fun _ _ h => h, h.m1, h.m2, h.m3, h.m4⟩

def KnOk (l : List Int) : Prop := ∀ i, i < l.length → (1 ≤ l.getD i 0 ∧ l.getD i 0 ≤ 90) ∧ (0 < i → l.getD (i - 1) 0 < l.getD i 0)
instance (l : List Int) : Decidable (KnOk l) := by unfold KnOk; infer_instance
def PaOk (l : List StM) : Prop := ∀ i, i < l.length → stB (l.getD i stm0).x = true
instance (l : List StM) : Decidable (PaOk l) := by unfold PaOk; infer_instance
def CkOk (c : ChM) : Prop := (1 ≤ c.id ∧ c.id ≤ 2) ∧ okB c.bk.b = true ∧ stB c.st.x = true ∧ c.past.length ≤ 90 ∧ PaOk c.past ∧ KnOk c.knows
instance (c : ChM) : Decidable (CkOk c) := by unfold CkOk; infer_instance
def ckB (c : ChM) : Bool := decide (CkOk c)

def SameS (ps qs : List StM) : Prop := ps.length = qs.length ∧ ∀ i, i < ps.length → (ps.getD i stm0).x = (qs.getD i stm0).x
theorem SameS.refl (ps : List StM) : SameS ps ps := ⟨rfl, fun _ _ => rfl⟩
theorem SameS.symm {ps qs : List StM} (h : SameS ps qs) : SameS qs ps := ⟨h.1.symm, fun i hi => (h.2 i (by rw [h.1]; exact hi)).symm⟩
theorem SameS.trans {ps qs rs : List StM} (h : SameS ps qs) (k : SameS qs rs) : SameS ps rs := ⟨h.1.trans k.1, fun i hi => (h.2 i hi).trans (k.2 i (by rw [← h.1]; exact hi))⟩
structure SameC (c d : ChM) : Prop where
 id : c.id = d.id
 bk : c.bk.b = d.bk.b
 st : c.st.x = d.st.x
 past : SameS c.past d.past
 knows : c.knows = d.knows


def StM.Own (w : World) (lo : Nat) (s : StM) : Prop := StOwn w lo s.x s.A1 s.A2 s.A3 s.A4
def StM.Len (s : StM) : Prop := s.x.sent.length ≤ maxLen ∧ s.x.live.length ≤ maxLen ∧ s.x.back.length ≤ maxLen ∧ s.x.got.length ≤ maxLen
theorem StM.Own.at_ {w : World} {lo : Nat} {s : StM} (h : s.Own w lo) (m : s.Len) : s.At w := StOwn.at_ h m.1 m.2.1 m.2.2.1 m.2.2.2
theorem StM.Own.kept {w w' : World} {lo : Nat} {s : StM} (h : s.Own w lo) (hk : Keeps noBlk w w') : s.Own w' lo := StOwn.kept h hk
theorem StM.Own.keeps {S : Nat → Prop} {w w' : World} {lo : Nat} {s : StM} (h : s.Own w lo) (hk : Keeps S w w') (hs : ∀ b, s.bl b → ¬ S b) : s.Own w' lo := StOwn.keeps h hk hs
theorem StM.Own.lt {w : World} {lo : Nat} {s : StM} (h : s.Own w lo) {b : Nat} (hb : s.bl b) : b < w.heap.size := StOwn.lt h hb
theorem StM.Own.ge {w : World} {lo : Nat} {s : StM} (h : s.Own w lo) {b : Nat} (hb : s.bl b) : lo ≤ b := StOwn.ge h hb
theorem StM.Own.less {w : World} {lo lo' : Nat} {s : StM} (h : s.Own w lo) (hl : lo' ≤ lo) : s.Own w lo' := by
 obtain ⟨s1, s2, s3, ⟨h1, h2, h3, h4⟩, q1, q2, q3, e1, e2, e3⟩ := h; exact ⟨s1, s2, s3, ⟨h1.less hl, h2, h3, h4⟩, q1, q2, q3, by omega, e2, e3⟩
def SOwn (G : Nat → Nat) (r : Nat) (w : World) (lo : Nat) (ps : List StM) (i : Nat) : Prop := (ps.getD i stm0).Own w lo ∧ ∀ b, (ps.getD i stm0).bl b → G b = r + i
theorem SOwn.keeps {S : Nat → Prop} {G : Nat → Nat} {r : Nat} {w w' : World} {lo : Nat} {ps : List StM} {i : Nat} (h : SOwn G r w lo ps i) (hk : Keeps S w w') (hs : ∀ b, G b = r + i → ¬ S b) : SOwn G r w' lo ps i :=
 ⟨h.1.keeps hk fun b hb => hs b (h.2 b hb), h.2⟩
theorem SOwn.kept {G : Nat → Nat} {r : Nat} {w w' : World} {lo : Nat} {ps : List StM} {i : Nat} (h : SOwn G r w lo ps i) (hk : Keeps noBlk w w') : SOwn G r w' lo ps i := h.keeps hk fun _ _ h => h
def pasBlk (A : Option Addr) (ps : List StM) (b : Nat) : Prop := blk A ps.length b ∨ ∃ i, i < ps.length ∧ (ps.getD i stm0).bl b
end Go.Proofs.YtjcbeihoeanhaaaDoor
