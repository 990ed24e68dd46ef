/- Slices of bools and of packets (structs of seven ints) that read as lists; a packet in plain words. Nothing here speaks of the program. No condition. A channel state in plain words, and when it is ok. Nothing here speaks of the program's text but the limits of the document. No condition. impl's parts of StateOk. impl.StateOk answers stB. -/
import Derived.Test.YtbgpclicflafaaaUMem
import Derived.Test.YtbgpclicflafaaaUPk
import Derived.Deep.RegionHeld3
set_option linter.unusedVariables false
set_option linter.unusedSimpArgs false
/-! StM -/
namespace Go.Proofs.Ytbgpclicflafaaa
open Go.RowKit

/-- The slice value '.slice A n c' holds the bools xs. -/
def Bools (w : World) (A : Option Addr) (n : Nat) (xs : List Bool) : Prop :=
  xs.length = n ∧ (0 < n → ∃ b off, A = some ⟨b, off, none⟩ ∧ b < w.heap.size ∧ ∀ j x, xs[j]? = some x → w.cell? ⟨b, off + j, none⟩ = some (.bool x))
theorem Bools.nil (w : World) (A : Option Addr) : Bools w A 0 [] := ⟨rfl, fun h => absurd h (by omega)⟩
theorem Bools.keep {w w' : World} {A : Option Addr} {n : Nat} {xs : List Bool} (h : Bools w A n xs) (hs : w.heap.size ≤ w'.heap.size)
    (hk : ∀ b, b < w.heap.size → w'.heap[b]? = w.heap[b]?) : Bools w' A n xs :=
  ⟨h.1, fun hn => by
    obtain ⟨b, off, e, hb, hc⟩ := h.2 hn
    exact ⟨b, off, e, by omega, fun j x hx => (World.cell?_of_block (hk b hb)).trans (hc j x hx)⟩⟩
theorem Bools.below {w w' : World} {A : Option Addr} {n : Nat} {xs : List Bool} (h : Bools w A n xs) (hb : Below w.heap.size w w') : Bools w' A n xs :=
  h.keep hb.size hb.block
theorem Bools.drewN {w : World} {A : Option Addr} {n : Nat} {xs : List Bool} (h : Bools w A n xs) (k : Nat) : Bools (w.drewN k) A n xs := h
theorem Bools.drew {w : World} {A : Option Addr} {n : Nat} {xs : List Bool} (h : Bools w A n xs) : Bools w.drew A n xs := h
theorem Bools.alloc {w : World} {A : Option Addr} {n : Nat} {xs : List Bool} (h : Bools w A n xs) (o : Obj) : Bools (w.alloc o) A n xs :=
  h.below ((Below.refl _ _).alloc (Nat.le_refl _) o)
theorem Bools.at_ {w : World} {A : Option Addr} {n k : Nat} {xs : List Bool} (h : Bools w A n xs) (hk : k < n) :
    ∃ b off, A = some ⟨b, off, none⟩ ∧ b < w.heap.size ∧ w.cell? ⟨b, off + k, none⟩ = some (.bool (xs.getD k false)) := by
  obtain ⟨b, off, e, hb, hc⟩ := h.2 (by omega)
  have hl : k < xs.length := by have := h.1; omega
  refine ⟨b, off, e, hb, ?_⟩
  rw [List.getD_eq_getElem?_getD, List.getElem?_eq_getElem hl]
  exact hc k _ (List.getElem?_eq_getElem hl)
theorem Bools.keeps {S : Nat → Prop} {w w' : World} {A : Option Addr} {n : Nat} {xs : List Bool} (h : Bools w A n xs) (hk : Keeps S w w') (hs : ∀ b, blk A n b → ¬ S b) : Bools w' A n xs :=
  ⟨h.1, fun hn => by
    obtain ⟨b, off, e, hb, hc⟩ := h.2 hn
    exact ⟨b, off, e, Nat.lt_of_lt_of_le hb hk.size, fun j x hx => (hk.cell hb (hs b ⟨hn, _, e, rfl⟩)).trans (hc j x hx)⟩⟩
/-- A row of the call's own, from block lo on: the slice '.slice A n c' holds the bools xs, and may be written. -/
def BRow (w : World) (lo : Nat) (A : Option Addr) (n : Nat) (xs : List Bool) : Prop :=
  Bools w A n xs ∧ (0 < n → ∃ b off, A = some ⟨b, off, none⟩ ∧ lo ≤ b ∧ ∀ j, j < n → w.frozen? ⟨b, off + j, none⟩ = false)
theorem BRow.bools {w : World} {lo : Nat} {A : Option Addr} {n : Nat} {xs : List Bool} (h : BRow w lo A n xs) : Bools w A n xs := h.1
theorem BRow.nil (w : World) (lo : Nat) (A : Option Addr) : BRow w lo A 0 [] := ⟨Bools.nil w A, fun h => absurd h (by omega)⟩
theorem BRow.less {w : World} {lo lo' : Nat} {A : Option Addr} {n : Nat} {xs : List Bool} (h : BRow w lo A n xs) (hl : lo' ≤ lo) : BRow w lo' A n xs :=
  ⟨h.1, fun hn => by
    obtain ⟨b, off, e, hb, hf⟩ := h.2 hn
    exact ⟨b, off, e, by omega, hf⟩⟩
theorem BRow.keeps {S : Nat → Prop} {w w' : World} {lo : Nat} {A : Option Addr} {n : Nat} {xs : List Bool} (h : BRow w lo A n xs) (hk : Keeps S w w') (hs : ∀ b, blk A n b → ¬ S b) : BRow w' lo A n xs :=
  ⟨h.1.keeps hk hs, fun hn => by
    obtain ⟨b, off, e, hb, hf⟩ := h.2 hn
    obtain ⟨b', off', e', hb', _⟩ := h.1.2 hn
    rw [e] at e'
    injection e' with e'
    injection e' with e1 e2
    subst e1
    exact ⟨b, off, e, hb, fun j hj => (hk.frozen hb' (hs b ⟨hn, _, e, rfl⟩)).trans (hf j hj)⟩⟩
theorem BRow.at_ {w : World} {lo : Nat} {A : Option Addr} {n k : Nat} {xs : List Bool} (h : BRow w lo A n xs) (hk : k < n) :
    ∃ b off, A = some ⟨b, off, none⟩ ∧ lo ≤ b ∧ b < w.heap.size ∧ w.cell? ⟨b, off + k, none⟩ = some (.bool (xs.getD k false)) ∧ w.frozen? ⟨b, off + k, none⟩ = false := by
  obtain ⟨b, off, e, hb, hc⟩ := h.1.at_ hk
  obtain ⟨b', off', e', hl, hf⟩ := h.2 (by omega)
  rw [e] at e'
  injection e' with e'
  injection e' with e1 e2
  subst e1
  subst e2
  exact ⟨b, off, e, hl, hb, hc, hf k hk⟩
theorem Bools.lt {w : World} {A : Option Addr} {n : Nat} {xs : List Bool} (h : Bools w A n xs) {b : Nat} (hb : blk A n b) : b < w.heap.size := by
  obtain ⟨hn, a, rfl, rfl⟩ := hb
  obtain ⟨b, off, e, hl, _⟩ := h.2 hn
  injection e with e
  subst e
  exact hl
theorem BRow.lt {w : World} {lo : Nat} {A : Option Addr} {n : Nat} {xs : List Bool} (h : BRow w lo A n xs) {b : Nat} (hb : blk A n b) : b < w.heap.size := h.1.lt hb
theorem BRow.ge {w : World} {lo : Nat} {A : Option Addr} {n : Nat} {xs : List Bool} (h : BRow w lo A n xs) {b : Nat} (hb : blk A n b) : lo ≤ b := by
  obtain ⟨hn, a, rfl, rfl⟩ := hb
  obtain ⟨b, off, e, hl, _⟩ := h.2 hn
  injection e with e
  subst e
  exact hl
theorem BRow.alloc {w : World} {lo : Nat} {A : Option Addr} {n : Nat} {xs : List Bool} (h : BRow w lo A n xs) (o : Obj) : BRow (w.alloc o) lo A n xs :=
  h.keeps ((Keeps.refl noBlk w).alloc o) fun _ _ x => x
/-- One store into a row. -/
theorem Bools.set_ {w : World} {b off n k : Nat} {xs : List Bool} (h : Bools w (some ⟨b, off, none⟩) n xs) (hk : k < n) (x : Bool) :
    Bools (w.setCell ⟨b, off + k, none⟩ (.bool x)) (some ⟨b, off, none⟩) n (xs.set k x) := by
  obtain ⟨hl, h2⟩ := h
  refine ⟨by simpa using hl, fun hn => ?_⟩
  obtain ⟨b', off', e', hb, hc⟩ := h2 hn
  injection e' with e'
  injection e' with e1 e2
  subst e1
  subst e2
  refine ⟨b, off, rfl, by simpa [World.setCell] using hb, fun j y hy => ?_⟩
  have hjl : j < xs.length := by
    have := (List.getElem?_eq_some_iff.1 hy).1
    simpa using this
  by_cases hjk : j = k
  · subst hjk
    have : y = x := by
      rw [List.getElem?_set_self (by omega)] at hy
      injection hy with hy
      exact hy.symm
    subst this
    exact World.cell?_setCell_same _ _ _ (hc j _ (List.getElem?_eq_getElem hjl))
  · rw [List.getElem?_set_ne (by omega)] at hy
    rw [World.cell?_setCell_other _ _ _ _ (by intro e; injection e with _ e; omega)]
    exact hc j y hy
theorem BRow.set_ {w : World} {lo b off n k : Nat} {xs : List Bool} (h : BRow w lo (some ⟨b, off, none⟩) n xs) (hk : k < n) (x : Bool) :
    BRow (w.setCell ⟨b, off + k, none⟩ (.bool x)) lo (some ⟨b, off, none⟩) n (xs.set k x) :=
  ⟨h.1.set_ hk x, fun hn => by
    obtain ⟨b', off', e', hl, hf⟩ := h.2 hn
    exact ⟨b', off', e', hl, fun j hj => by rw [World.frozen?_setCell]; exact hf j hj⟩⟩
theorem BRow.drew {w : World} {lo : Nat} {A : Option Addr} {n : Nat} {xs : List Bool} (h : BRow w lo A n xs) : BRow w.drew lo A n xs := h
theorem BRow.drewN {w : World} {lo : Nat} {A : Option Addr} {n : Nat} {xs : List Bool} (h : BRow w lo A n xs) (k : Nat) : BRow (w.drewN k) lo A n xs := h
theorem BRow.qt {w w' : World} {lo : Nat} {A : Option Addr} {n : Nat} {xs : List Bool} (h : BRow w lo A n xs) (k : Qt w w') : BRow w' lo A n xs := by
  obtain ⟨q, rfl⟩ := k
  exact h
theorem Bools.qt {w w' : World} {A : Option Addr} {n : Nat} {xs : List Bool} (h : Bools w A n xs) (k : Qt w w') : Bools w' A n xs := by
  obtain ⟨q, rfl⟩ := k
  exact h
/-- A block just made is a row. -/
theorem BRow.made (w : World) (t : TypeId) (cs : Array Value) (n : Nat) (xs : List Bool) (hl : xs.length = n) (hc : ∀ (j : Nat) (x : Bool), xs[j]? = some x → cs[j]? = some (Value.bool x)) :
    BRow (w.alloc (.cells cs t)) w.heap.size (some ⟨w.heap.size, 0, none⟩) n xs :=
  ⟨⟨hl, fun _ => ⟨_, _, rfl, by simp, fun j x hx => by
      rw [Nat.zero_add, World.cell?_alloc_new]
      exact hc j x hx⟩⟩,
    fun _ => ⟨_, _, rfl, Nat.le_refl _, fun j _ => World.frozen?_alloc_new w cs t _⟩⟩
theorem BRow.made' (w : World) (lo g : Nat) (hg : g = w.heap.size) (hlo : lo ≤ g) (t : TypeId) (cs : Array Value) (n : Nat) (xs : List Bool) (hl : xs.length = n)
    (hc : ∀ (j : Nat) (x : Bool), xs[j]? = some x → cs[j]? = some (Value.bool x)) : BRow (w.alloc (.cells cs t)) lo (some ⟨g, 0, none⟩) n xs := by
  subst hg
  exact (BRow.made w t cs n xs hl hc).less hlo
theorem BRow.far {w : World} {lo : Nat} {A : Option Addr} {n : Nat} {xs : List Bool} (h : BRow w lo A n xs) {p : Addr} (hp : ¬ blk A n p.block) (u : Value) : BRow (w.setCell p u) lo A n xs :=
  h.keeps (S := fun b => b = p.block) ((Keeps.refl (fun b => b = p.block) w).setCell (p := p) (.inr rfl) u) fun b hb e => hp (by subst e; exact hb)
theorem Bools.far {w : World} {A : Option Addr} {n : Nat} {xs : List Bool} (h : Bools w A n xs) {p : Addr} (hp : ¬ blk A n p.block) (u : Value) : Bools (w.setCell p u) A n xs :=
  h.keeps (S := fun b => b = p.block) ((Keeps.refl (fun b => b = p.block) w).setCell (p := p) (.inr rfl) u) fun b hb e => hp (by subst e; exact hb)

/-- A packet in plain words. -/
structure Pk where
  s : Int
  k : Int
  f : Int
  t : Int
  m : Int
  u : Int
  v : Int
deriving DecidableEq
/-- Its seven cells. -/
def Pk.cs (p : Pk) : List Value := [.int .i64 p.s, .int .i64 p.k, .int .i64 p.f, .int .i64 p.t, .int .i64 p.m, .int .i64 p.u, .int .i64 p.v]
def pk0 : Pk := ⟨0, 0, 0, 0, 0, 0, 0⟩
def Pks (w : World) (A : Option Addr) (n : Nat) (ps : List Pk) : Prop :=
  ps.length = n ∧ (0 < n → ∃ b off, A = some ⟨b, off, none⟩ ∧ b < w.heap.size ∧ ∀ j p, ps[j]? = some p → ∀ i c, p.cs[i]? = some c → w.cell? ⟨b, off + (j * 7 + i), none⟩ = some c)
theorem Pks.nil (w : World) (A : Option Addr) : Pks w A 0 [] := ⟨rfl, fun h => absurd h (by omega)⟩
theorem Pks.keeps {S : Nat → Prop} {w w' : World} {A : Option Addr} {n : Nat} {ps : List Pk} (h : Pks w A n ps) (hk : Keeps S w w') (hs : ∀ b, blk A n b → ¬ S b) : Pks w' A n ps :=
  ⟨h.1, fun hn => by
    obtain ⟨b, off, e, hb, hc⟩ := h.2 hn
    exact ⟨b, off, e, Nat.lt_of_lt_of_le hb hk.size, fun j p hp i c hi => (hk.cell hb (hs b ⟨hn, _, e, rfl⟩)).trans (hc j p hp i c hi)⟩⟩
theorem Pks.alloc {w : World} {A : Option Addr} {n : Nat} {ps : List Pk} (h : Pks w A n ps) (o : Obj) : Pks (w.alloc o) A n ps :=
  h.keeps ((Keeps.refl noBlk w).alloc o) fun _ _ x => x
theorem Pks.drewN {w : World} {A : Option Addr} {n : Nat} {ps : List Pk} (h : Pks w A n ps) (k : Nat) : Pks (w.drewN k) A n ps := h
theorem Pks.qt {w w' : World} {A : Option Addr} {n : Nat} {ps : List Pk} (h : Pks w A n ps) (k : Qt w w') : Pks w' A n ps := by
  obtain ⟨q, rfl⟩ := k
  exact h
theorem Pks.lt {w : World} {A : Option Addr} {n : Nat} {ps : List Pk} (h : Pks w A n ps) {b : Nat} (hb : blk A n b) : b < w.heap.size := by
  obtain ⟨hn, a, rfl, rfl⟩ := hb
  obtain ⟨b, off, e, hl, _⟩ := h.2 hn
  injection e with e
  subst e
  exact hl
theorem Pks.far {w : World} {A : Option Addr} {n : Nat} {ps : List Pk} (h : Pks w A n ps) {p : Addr} (hp : ¬ blk A n p.block) (u : Value) : Pks (w.setCell p u) A n ps :=
  h.keeps (S := fun b => b = p.block) ((Keeps.refl (fun b => b = p.block) w).setCell (p := p) (.inr rfl) u) fun b hb e => hp (by subst e; exact hb)
/-- A packet of the slice: its seven cells. -/
theorem Pks.at_ {w : World} {A : Option Addr} {n k : Nat} {ps : List Pk} (h : Pks w A n ps) (hk : k < n) :
    ∃ b off, A = some ⟨b, off, none⟩ ∧ b < w.heap.size ∧
      w.cell? ⟨b, off + k * 7, none⟩ = some (.int .i64 (ps.getD k pk0).s) ∧ w.cell? ⟨b, off + k * 7 + 1, none⟩ = some (.int .i64 (ps.getD k pk0).k) ∧ w.cell? ⟨b, off + k * 7 + 2, none⟩ = some (.int .i64 (ps.getD k pk0).f) ∧
      w.cell? ⟨b, off + k * 7 + 3, none⟩ = some (.int .i64 (ps.getD k pk0).t) ∧ w.cell? ⟨b, off + k * 7 + 4, none⟩ = some (.int .i64 (ps.getD k pk0).m) ∧ w.cell? ⟨b, off + k * 7 + 5, none⟩ = some (.int .i64 (ps.getD k pk0).u) ∧
      w.cell? ⟨b, off + k * 7 + 6, none⟩ = some (.int .i64 (ps.getD k pk0).v) := by
  obtain ⟨b, off, e, hb, hc⟩ := h.2 (by omega)
  have hl : k < ps.length := by have := h.1; omega
  have hp : ps[k]? = some (ps.getD k pk0) := by
    rw [List.getD_eq_getElem?_getD, List.getElem?_eq_getElem hl]
    rfl
  have h7 := hc k _ hp
  exact ⟨b, off, e, hb, h7 0 _ rfl, h7 1 _ rfl, h7 2 _ rfl, h7 3 _ rfl, h7 4 _ rfl, h7 5 _ rfl, h7 6 _ rfl⟩
/-- The same, of the call's own. -/
def PRow (w : World) (lo : Nat) (A : Option Addr) (n : Nat) (ps : List Pk) : Prop :=
  Pks w A n ps ∧ (0 < n → ∃ b off, A = some ⟨b, off, none⟩ ∧ lo ≤ b ∧ ∀ j, j < n * 7 → w.frozen? ⟨b, off + j, none⟩ = false)
theorem PRow.pks {w : World} {lo : Nat} {A : Option Addr} {n : Nat} {ps : List Pk} (h : PRow w lo A n ps) : Pks w A n ps := h.1
theorem PRow.nil (w : World) (lo : Nat) (A : Option Addr) : PRow w lo A 0 [] := ⟨Pks.nil w A, fun h => absurd h (by omega)⟩
theorem PRow.less {w : World} {lo lo' : Nat} {A : Option Addr} {n : Nat} {ps : List Pk} (h : PRow w lo A n ps) (hl : lo' ≤ lo) : PRow w lo' A n ps :=
  ⟨h.1, fun hn => by
    obtain ⟨b, off, e, hb, hf⟩ := h.2 hn
    exact ⟨b, off, e, by omega, hf⟩⟩
theorem PRow.keeps {S : Nat → Prop} {w w' : World} {lo : Nat} {A : Option Addr} {n : Nat} {ps : List Pk} (h : PRow w lo A n ps) (hk : Keeps S w w') (hs : ∀ b, blk A n b → ¬ S b) : PRow w' lo A n ps :=
  ⟨h.1.keeps hk hs, fun hn => by
    obtain ⟨b, off, e, hb, hf⟩ := h.2 hn
    obtain ⟨b', off', e', hb', _⟩ := h.1.2 hn
    rw [e] at e'
    injection e' with e'
    injection e' with e1 e2
    subst e1
    exact ⟨b, off, e, hb, fun j hj => (hk.frozen hb' (hs b ⟨hn, _, e, rfl⟩)).trans (hf j hj)⟩⟩
theorem PRow.alloc {w : World} {lo : Nat} {A : Option Addr} {n : Nat} {ps : List Pk} (h : PRow w lo A n ps) (o : Obj) : PRow (w.alloc o) lo A n ps :=
  h.keeps ((Keeps.refl noBlk w).alloc o) fun _ _ x => x
theorem PRow.drewN {w : World} {lo : Nat} {A : Option Addr} {n : Nat} {ps : List Pk} (h : PRow w lo A n ps) (k : Nat) : PRow (w.drewN k) lo A n ps := h
theorem PRow.qt {w w' : World} {lo : Nat} {A : Option Addr} {n : Nat} {ps : List Pk} (h : PRow w lo A n ps) (k : Qt w w') : PRow w' lo A n ps := by
  obtain ⟨q, rfl⟩ := k
  exact h
theorem PRow.lt {w : World} {lo : Nat} {A : Option Addr} {n : Nat} {ps : List Pk} (h : PRow w lo A n ps) {b : Nat} (hb : blk A n b) : b < w.heap.size := h.1.lt hb
theorem PRow.ge {w : World} {lo : Nat} {A : Option Addr} {n : Nat} {ps : List Pk} (h : PRow w lo A n ps) {b : Nat} (hb : blk A n b) : lo ≤ b := by
  obtain ⟨hn, a, rfl, rfl⟩ := hb
  obtain ⟨b, off, e, hl, _⟩ := h.2 hn
  injection e with e
  subst e
  exact hl
theorem PRow.far {w : World} {lo : Nat} {A : Option Addr} {n : Nat} {ps : List Pk} (h : PRow w lo A n ps) {p : Addr} (hp : ¬ blk A n p.block) (u : Value) : PRow (w.setCell p u) lo A n ps :=
  h.keeps (S := fun b => b = p.block) ((Keeps.refl (fun b => b = p.block) w).setCell (p := p) (.inr rfl) u) fun b hb e => hp (by subst e; exact hb)
end Go.Proofs.Ytbgpclicflafaaa

/-! StP -/
namespace Go.Proofs.Ytbgpclicflafaaa
open Go.RowKit

def Pk.val (p : Pk) : Value := .agg #[.int .i64 p.s, .int .i64 p.k, .int .i64 p.f, .int .i64 p.t, .int .i64 p.m, .int .i64 p.u, .int .i64 p.v]
def Pk.ok (p : Pk) : Bool := pkB p.s p.k p.f p.t p.m p.u p.v
structure StL where
  way : Int
  ver : Int
  want : Int
  sent : List Pk
  live : List Bool
  back : List Bool
  got : List Int
/-- The packet at place i is ok, numbered and of no later version. -/
def pkAt (ver : Int) (i : Nat) (p : Pk) : Prop := p.ok = true ∧ p.s = (i : Int) + 1 ∧ p.v ≤ ver
instance (ver : Int) (i : Nat) (p : Pk) : Decidable (pkAt ver i p) := by unfold pkAt; infer_instance
def WayOk (way ver want : Int) : Prop := (1 ≤ ver ∧ ver ≤ 9) ∧ (0 ≤ way ∧ way ≤ 4) ∧ (way = 4 → want = ver + 1 ∧ want ≤ 9) ∧ (way ≠ 4 → want = 0)
instance (way ver want : Int) : Decidable (WayOk way ver want) := by unfold WayOk; infer_instance
def SentOk (ver : Int) (ps : List Pk) : Prop := ∀ i, i < ps.length → pkAt ver i (ps.getD i pk0)
instance (ver : Int) (ps : List Pk) : Decidable (SentOk ver ps) := by unfold SentOk; infer_instance
def FateOk (n : Nat) (live back : List Bool) : Prop := live.length = n ∧ back.length = n ∧ ∀ i, i < n → ¬ (live.getD i false = true ∧ back.getD i false = true)
instance (n : Nat) (live back : List Bool) : Decidable (FateOk n live back) := by unfold FateOk; infer_instance
def GotOk (got : List Int) : Prop := got.length = 8 ∧ ∀ i, i < 8 → in2 (got.getD i 0) 0 2 = true
instance (got : List Int) : Decidable (GotOk got) := by unfold GotOk; infer_instance
def StOk (x : StL) : Prop := WayOk x.way x.ver x.want ∧ SentOk x.ver x.sent ∧ FateOk x.sent.length x.live x.back ∧ GotOk x.got
instance (x : StL) : Decidable (StOk x) := by unfold StOk; infer_instance
def stB (x : StL) : Bool := decide (StOk x)
theorem SentOk.small {ver : Int} {ps : List Pk} (h : SentOk ver ps) : ps.length ≤ 8 := by
  rcases Nat.lt_or_ge 8 ps.length with hl | hl
  · obtain ⟨h1, h2, _⟩ := h 8 hl
    have := (pkB_parts h1).1
    omega
  · exact hl
theorem SentOk.take_step {ver : Int} {ps : List Pk} {k : Nat} (h : ∀ i, i < k → pkAt ver i (ps.getD i pk0)) (hk : pkAt ver k (ps.getD k pk0)) : ∀ i, i < k + 1 → pkAt ver i (ps.getD i pk0) := by
  intro i hi
  rcases Nat.lt_or_ge i k with hl | hl
  · exact h i hl
  · obtain rfl : i = k := by omega
    exact hk
end Go.Proofs.Ytbgpclicflafaaa

/-! SI -/
namespace Go.Proofs.Ytbgpclicflafaaa
open Go.RowKit

/-- A state lies in memory behind the value. -/
def StAt (w : World) (x : StL) (A1 A2 A3 A4 : Option Addr) : Prop :=
  (Pks w A1 x.sent.length x.sent ∧ Bools w A2 x.live.length x.live ∧ Bools w A3 x.back.length x.back ∧ Ints w A4 x.got.length x.got) ∧
  (x.sent.length ≤ maxLen ∧ x.live.length ≤ maxLen ∧ x.back.length ≤ maxLen ∧ x.got.length ≤ maxLen)
theorem StAt.keeps {S : Nat → Prop} {w w' : World} {x : StL} {A1 A2 A3 A4 : Option Addr} (h : StAt w x A1 A2 A3 A4) (hk : Keeps S w w')
    (hs : ∀ b, (blk A1 x.sent.length b ∨ blk A2 x.live.length b ∨ blk A3 x.back.length b ∨ blk A4 x.got.length b) → ¬ S b) : StAt w' x A1 A2 A3 A4 :=
  ⟨⟨h.1.1.keeps hk fun b hb => hs b (.inl hb), h.1.2.1.keeps hk fun b hb => hs b (.inr (.inl hb)), h.1.2.2.1.keeps hk fun b hb => hs b (.inr (.inr (.inl hb))), h.1.2.2.2.keeps hk fun b hb => hs b (.inr (.inr (.inr hb)))⟩, h.2⟩
theorem StAt.kept {w w' : World} {x : StL} {A1 A2 A3 A4 : Option Addr} (h : StAt w x A1 A2 A3 A4) (hk : Keeps noBlk w w') : StAt w' x A1 A2 A3 A4 := h.keeps hk fun _ _ h => h
theorem StAt.alloc {w : World} {x : StL} {A1 A2 A3 A4 : Option Addr} (h : StAt w x A1 A2 A3 A4) (o : Obj) : StAt (w.alloc o) x A1 A2 A3 A4 := h.kept ((Keeps.refl _ _).alloc o)
theorem StAt.drewN {w : World} {x : StL} {A1 A2 A3 A4 : Option Addr} (h : StAt w x A1 A2 A3 A4) (n : Nat) : StAt (w.drewN n) x A1 A2 A3 A4 := h.kept ((Keeps.refl _ _).drewN n)

end Go.Proofs.Ytbgpclicflafaaa

/-! SI2 -/
namespace Go.Proofs.Ytbgpclicflafaaa
open Go.RowKit

/-- The value of a state. -/
def stV (x : StL) (A1 A2 A3 A4 : Option Addr) (c1 c2 c3 c4 : Nat) : Value :=
  .agg #[.int .i64 x.way, .int .i64 x.ver, .int .i64 x.want, .slice A1 x.sent.length c1, .slice A2 x.live.length c2, .slice A3 x.back.length c3, .slice A4 x.got.length c4]

theorem stB_no1 {x : StL} (h : decide (WayOk x.way x.ver x.want) = false) : stB x = false := by
  simp only [decide_eq_false_iff_not] at h
  simp only [stB, decide_eq_false_iff_not]
  exact fun k => h k.1
theorem stB_no2 {x : StL} (h : decide (SentOk x.ver x.sent) = false) : stB x = false := by
  simp only [decide_eq_false_iff_not] at h
  simp only [stB, decide_eq_false_iff_not]
  exact fun k => h k.2.1
theorem stB_no3 {x : StL} (h : decide (FateOk x.sent.length x.live x.back) = false) : stB x = false := by
  simp only [decide_eq_false_iff_not] at h
  simp only [stB, decide_eq_false_iff_not]
  exact fun k => h k.2.2.1
theorem stB_4 {x : StL} (h1 : decide (WayOk x.way x.ver x.want) = true) (h2 : decide (SentOk x.ver x.sent) = true) (h3 : decide (FateOk x.sent.length x.live x.back) = true) : stB x = decide (GotOk x.got) := by
  simp only [decide_eq_true_eq] at h1 h2 h3
  simp only [stB, decide_eq_decide]
  exact ⟨fun h => h.2.2.2, fun h => ⟨h1, h2, h3, h⟩⟩

end Go.Proofs.Ytbgpclicflafaaa
