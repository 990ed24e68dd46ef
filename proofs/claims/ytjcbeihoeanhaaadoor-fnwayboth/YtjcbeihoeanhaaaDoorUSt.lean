/- Slices of bools and of packets (structs of seven ints) that read as lists; a packet in plain words. Nothing here speaks of the program. No condition. A channel state in plain words, and when it is ok. Nothing here speaks of the program's text but the limits of the document. No condition. impl's parts of StateOk. impl.StateOk answers stB. -/
import Derived.Test.YtjcbeihoeanhaaaDoorUPk
import Derived.Deep.RegionHeld3
set_option maxHeartbeats 1000000
set_option linter.unusedVariables false
set_option linter.unusedSimpArgs false
/-! StM -/
namespace Go.Proofs.YtjcbeihoeanhaaaDoor
open Go.RowKit

def Bools (w : World) (A : Option Addr) (n : Nat) (xs : List Bool) : Prop :=
 xs.length = n ∧ (0 < n → ∃ b off, A = some ⟨b, off, none⟩ ∧ b < w.heap.size ∧ ∀ j x, xs[j]? = some x → w.cell? ⟨b, off + j, none⟩ = some (.bool x))
theorem Bools.nil (w : World) (A : Option Addr) : Bools w A 0 [] := ⟨rfl, fun h => absurd h (by omega)⟩
theorem Bools.keep {w w' : World} {A : Option Addr} {n : Nat} {xs : List Bool} (h : Bools w A n xs) (hs : w.heap.size ≤ w'.heap.size)
  (hk : ∀ b, b < w.heap.size → w'.heap[b]? = w.heap[b]?) : Bools w' A n xs :=
 ⟨h.1, fun hn => by
  obtain ⟨b, off, e, hb, hc⟩ := h.2 hn
  exact ⟨b, off, e, by omega, fun j x hx => (World.cell?_of_block (hk b hb)).trans (hc j x hx)⟩⟩
theorem Bools.below {w w' : World} {A : Option Addr} {n : Nat} {xs : List Bool} (h : Bools w A n xs) (hb : Below w.heap.size w w') : Bools w' A n xs :=
 h.keep hb.size hb.block
theorem Bools.drewN {w : World} {A : Option Addr} {n : Nat} {xs : List Bool} (h : Bools w A n xs) (k : Nat) : Bools (w.drewN k) A n xs := h
theorem Bools.drew {w : World} {A : Option Addr} {n : Nat} {xs : List Bool} (h : Bools w A n xs) : Bools w.drew A n xs := h
theorem Bools.alloc {w : World} {A : Option Addr} {n : Nat} {xs : List Bool} (h : Bools w A n xs) (o : Obj) : Bools (w.alloc o) A n xs :=
 h.below ((Below.refl _ _).alloc (Nat.le_refl _) o)
theorem Bools.at_ {w : World} {A : Option Addr} {n k : Nat} {xs : List Bool} (h : Bools w A n xs) (hk : k < n) :
  ∃ b off, A = some ⟨b, off, none⟩ ∧ b < w.heap.size ∧ w.cell? ⟨b, off + k, none⟩ = some (.bool (xs.getD k false)) := by
 obtain ⟨b, off, e, hb, hc⟩ := h.2 (by omega)
 have hl : k < xs.length := by have := h.1; omega
 refine ⟨b, off, e, hb, ?_⟩; rw [List.getD_eq_getElem?_getD, List.getElem?_eq_getElem hl]; exact hc k _ (List.getElem?_eq_getElem hl)
theorem Bools.keeps {S : Nat → Prop} {w w' : World} {A : Option Addr} {n : Nat} {xs : List Bool} (h : Bools w A n xs) (hk : Keeps S w w') (hs : ∀ b, blk A n b → ¬ S b) : Bools w' A n xs :=
 ⟨h.1, fun hn => by
  obtain ⟨b, off, e, hb, hc⟩ := h.2 hn
  exact ⟨b, off, e, Nat.lt_of_lt_of_le hb hk.size, fun j x hx => (hk.cell hb (hs b ⟨hn, _, e, rfl⟩)).trans (hc j x hx)⟩⟩
def BRow (w : World) (lo : Nat) (A : Option Addr) (n : Nat) (xs : List Bool) : Prop :=
 Bools w A n xs ∧ (0 < n → ∃ b off, A = some ⟨b, off, none⟩ ∧ lo ≤ b ∧ ∀ j, j < n → w.frozen? ⟨b, off + j, none⟩ = false)
theorem BRow.bools {w : World} {lo : Nat} {A : Option Addr} {n : Nat} {xs : List Bool} (h : BRow w lo A n xs) : Bools w A n xs := h.1
theorem BRow.nil (w : World) (lo : Nat) (A : Option Addr) : BRow w lo A 0 [] := ⟨Bools.nil w A, fun h => absurd h (by omega)⟩
theorem BRow.less {w : World} {lo lo' : Nat} {A : Option Addr} {n : Nat} {xs : List Bool} (h : BRow w lo A n xs) (hl : lo' ≤ lo) : BRow w lo' A n xs :=
 ⟨h.1, fun hn => by
  obtain ⟨b, off, e, hb, hf⟩ := h.2 hn
  exact ⟨b, off, e, by omega, hf⟩⟩
theorem BRow.keeps {S : Nat → Prop} {w w' : World} {lo : Nat} {A : Option Addr} {n : Nat} {xs : List Bool} (h : BRow w lo A n xs) (hk : Keeps S w w') (hs : ∀ b, blk A n b → ¬ S b) : BRow w' lo A n xs :=
 ⟨h.1.keeps hk hs, fun hn => by
  obtain ⟨b, off, e, hb, hf⟩ := h.2 hn; obtain ⟨b', off', e', hb', _⟩ := h.1.2 hn; rw [e] at e'
  injection e' with e'
  injection e' with e1 e2
  subst e1
  exact ⟨b, off, e, hb, fun j hj => (hk.frozen hb' (hs b ⟨hn, _, e, rfl⟩)).trans (hf j hj)⟩⟩
theorem BRow.at_ {w : World} {lo : Nat} {A : Option Addr} {n k : Nat} {xs : List Bool} (h : BRow w lo A n xs) (hk : k < n) :
  ∃ b off, A = some ⟨b, off, none⟩ ∧ lo ≤ b ∧ b < w.heap.size ∧ w.cell? ⟨b, off + k, none⟩ = some (.bool (xs.getD k false)) ∧ w.frozen? ⟨b, off + k, none⟩ = false := by
 obtain ⟨b, off, e, hb, hc⟩ := h.1.at_ hk; obtain ⟨b', off', e', hl, hf⟩ := h.2 (by omega); rw [e] at e'
 injection e' with e'
 injection e' with e1 e2
 subst e1; subst e2; exact ⟨b, off, e, hl, hb, hc, hf k hk⟩
theorem Bools.lt {w : World} {A : Option Addr} {n : Nat} {xs : List Bool} (h : Bools w A n xs) {b : Nat} (hb : blk A n b) : b < w.heap.size := by
 obtain ⟨hn, a, rfl, rfl⟩ := hb; obtain ⟨b, off, e, hl, _⟩ := h.2 hn
 injection e with e
 subst e; exact hl
theorem BRow.lt {w : World} {lo : Nat} {A : Option Addr} {n : Nat} {xs : List Bool} (h : BRow w lo A n xs) {b : Nat} (hb : blk A n b) : b < w.heap.size := h.1.lt hb
theorem BRow.ge {w : World} {lo : Nat} {A : Option Addr} {n : Nat} {xs : List Bool} (h : BRow w lo A n xs) {b : Nat} (hb : blk A n b) : lo ≤ b := by
 obtain ⟨hn, a, rfl, rfl⟩ := hb; obtain ⟨b, off, e, hl, _⟩ := h.2 hn
 injection e with e
 subst e; exact hl
theorem BRow.alloc {w : World} {lo : Nat} {A : Option Addr} {n : Nat} {xs : List Bool} (h : BRow w lo A n xs) (o : Obj) : BRow (w.alloc o) lo A n xs :=
 h.keeps ((Keeps.refl noBlk w).alloc o) fun _ _ x => x
theorem Bools.set_ {w : World} {b off n k : Nat} {xs : List Bool} (h : Bools w (some ⟨b, off, none⟩) n xs) (hk : k < n) (x : Bool) :
  Bools (w.setCell ⟨b, off + k, none⟩ (.bool x)) (some ⟨b, off, none⟩) n (xs.set k x) := by
 obtain ⟨hl, h2⟩ := h; refine ⟨by simpa using hl, fun hn => ?_⟩; obtain ⟨b', off', e', hb, hc⟩ := h2 hn
 injection e' with e'
 injection e' with e1 e2
 subst e1; subst e2; refine ⟨b, off, rfl, by simpa [World.setCell] using hb, fun j y hy => ?_⟩
 have hjl : j < xs.length := by
  have := (List.getElem?_eq_some_iff.1 hy).1
  simpa using this
 by_cases hjk : j = k
 ·subst hjk
  have : y = x := by
   rw [List.getElem?_set_self (by omega)] at hy
   injection hy with hy
   exact hy.symm
  subst this; exact World.cell?_setCell_same _ _ _ (hc j _ (List.getElem?_eq_getElem hjl))
 ·rw [List.getElem?_set_ne (by omega)] at hy
  rw [World.cell?_setCell_other _ _ _ _ (by intro e; injection e with _ e; omega)]; exact hc j y hy
theorem BRow.set_ {w : World} {lo b off n k : Nat} {xs : List Bool} (h : BRow w lo (some ⟨b, off, none⟩) n xs) (hk : k < n) (x : Bool) :
  BRow (w.setCell ⟨b, off + k, none⟩ (.bool x)) lo (some ⟨b, off, none⟩) n (xs.set k x) :=
 ⟨h.1.set_ hk x, fun hn => by
  obtain ⟨b', off', e', hl, hf⟩ := h.2 hn
  exact ⟨b', off', e', hl, fun j hj => by rw [World.frozen?_setCell]; exact hf j hj⟩⟩
theorem BRow.drew {w : World} {lo : Nat} {A : Option Addr} {n : Nat} {xs : List Bool} (h : BRow w lo A n xs) : BRow w.drew lo A n xs := h
theorem BRow.drewN {w : World} {lo : Nat} {A : Option Addr} {n : Nat} {xs : List Bool} (h : BRow w lo A n xs) (k : Nat) : BRow (w.drewN k) lo A n xs := h
theorem BRow.qt {w w' : World} {lo : Nat} {A : Option Addr} {n : Nat} {xs : List Bool} (h : BRow w lo A n xs) (k : Qt w w') : BRow w' lo A n xs := by
 obtain ⟨q, rfl⟩ := k; exact h
theorem Bools.qt {w w' : World} {A : Option Addr} {n : Nat} {xs : List Bool} (h : Bools w A n xs) (k : Qt w w') : Bools w' A n xs := by
 obtain ⟨q, rfl⟩ := k; exact h
theorem BRow.made (w : World) (t : TypeId) (cs : Array Value) (n : Nat) (xs : List Bool) (hl : xs.length = n) (hc : ∀ (j : Nat) (x : Bool), xs[j]? = some x → cs[j]? = some (Value.bool x)) :
  BRow (w.alloc (.cells cs t)) w.heap.size (some ⟨w.heap.size, 0, none⟩) n xs :=
 ⟨⟨hl, fun _ => ⟨_, _, rfl, by simp, fun j x hx => by
   rw [Nat.zero_add, World.cell?_alloc_new]
   exact hc j x hx⟩⟩,
  fun _ => ⟨_, _, rfl, Nat.le_refl _, fun j _ => World.frozen?_alloc_new w cs t _⟩⟩
theorem BRow.made' (w : World) (lo g : Nat) (hg : g = w.heap.size) (hlo : lo ≤ g) (t : TypeId) (cs : Array Value) (n : Nat) (xs : List Bool) (hl : xs.length = n)
  (hc : ∀ (j : Nat) (x : Bool), xs[j]? = some x → cs[j]? = some (Value.bool x)) : BRow (w.alloc (.cells cs t)) lo (some ⟨g, 0, none⟩) n xs := by
 subst hg; exact (BRow.made w t cs n xs hl hc).less hlo
theorem BRow.far {w : World} {lo : Nat} {A : Option Addr} {n : Nat} {xs : List Bool} (h : BRow w lo A n xs) {p : Addr} (hp : ¬ blk A n p.block) (u : Value) : BRow (w.setCell p u) lo A n xs :=
 h.keeps (S := fun b => b = p.block) ((Keeps.refl (fun b => b = p.block) w).setCell (p := p) (.inr rfl) u) fun b hb e => hp (by subst e; exact hb)
theorem Bools.far {w : World} {A : Option Addr} {n : Nat} {xs : List Bool} (h : Bools w A n xs) {p : Addr} (hp : ¬ blk A n p.block) (u : Value) : Bools (w.setCell p u) A n xs :=
 h.keeps (S := fun b => b = p.block) ((Keeps.refl (fun b => b = p.block) w).setCell (p := p) (.inr rfl) u) fun b hb e => hp (by subst e; exact hb)

structure Pk where
 s : Int
 k : Int
 f : Int
 t : Int
 m : Int
 u : Int
 v : Int
deriving DecidableEq
@[simp, go_sem] abbrev pkC (p : Pk) : Array Value := #[.int .i64 p.s, .int .i64 p.k, .int .i64 p.f, .int .i64 p.t, .int .i64 p.m, .int .i64 p.u, .int .i64 p.v]
@[simp, go_sem] abbrev evC (a b c d : Int) (p : Pk) : Array Value := #[.int .i64 a, .int .i64 b, .int .i64 c, .int .i64 d, .int .i64 p.s, .int .i64 p.k, .int .i64 p.f, .int .i64 p.t, .int .i64 p.m, .int .i64 p.u, .int .i64 p.v]
@[simp, go_sem] abbrev zC13 : Array Value := #[.int .i64 0, .slice none 0 0, .slice none 0 0, .int .i64 0, .int .i64 0, .int .i64 0, .int .i64 0, .slice none 0 0, .slice none 0 0, .slice none 0 0, .slice none 0 0, .slice none 0 0, .slice none 0 0]
@[simp, go_sem] abbrev zC11 : Array Value := #[.int .i64 0, .int .i64 0, .int .i64 0, .int .i64 0, .int .i64 0, .int .i64 0, .int .i64 0, .int .i64 0, .int .i64 0, .int .i64 0, .int .i64 0]
@[simp, go_sem] abbrev zCS : Array Value := #[.int .i64 0, .int .i64 0, .int .i64 0, .slice none 0 0, .slice none 0 0, .slice none 0 0, .slice none 0 0]
@[simp, go_sem] abbrev zC7 : Array Value := #[.int .i64 0, .int .i64 0, .int .i64 0, .int .i64 0, .int .i64 0, .int .i64 0, .int .i64 0]
def Pk.cs (p : Pk) : List Value := [.int .i64 p.s, .int .i64 p.k, .int .i64 p.f, .int .i64 p.t, .int .i64 p.m, .int .i64 p.u, .int .i64 p.v]
def pk0 : Pk := ⟨0, 0, 0, 0, 0, 0, 0⟩
def Pks (w : World) (A : Option Addr) (n : Nat) (ps : List Pk) : Prop :=
 ps.length = n ∧ (0 < n → ∃ b off, A = some ⟨b, off, none⟩ ∧ b < w.heap.size ∧ ∀ j p, ps[j]? = some p → ∀ i c, p.cs[i]? = some c → w.cell? ⟨b, off + (j * 7 + i), none⟩ = some c)
theorem Pks.nil (w : World) (A : Option Addr) : Pks w A 0 [] := ⟨rfl, fun h => absurd h (by omega)⟩
theorem Pks.keeps {S : Nat → Prop} {w w' : World} {A : Option Addr} {n : Nat} {ps : List Pk} (h : Pks w A n ps) (hk : Keeps S w w') (hs : ∀ b, blk A n b → ¬ S b) : Pks w' A n ps :=
 ⟨h.1, fun hn => by
  obtain ⟨b, off, e, hb, hc⟩ := h.2 hn
  exact ⟨b, off, e, Nat.lt_of_lt_of_le hb hk.size, fun j p hp i c hi => (hk.cell hb (hs b ⟨hn, _, e, rfl⟩)).trans (hc j p hp i c hi)⟩⟩
theorem Pks.alloc {w : World} {A : Option Addr} {n : Nat} {ps : List Pk} (h : Pks w A n ps) (o : Obj) : Pks (w.alloc o) A n ps :=
 h.keeps ((Keeps.refl noBlk w).alloc o) fun _ _ x => x
theorem Pks.drewN {w : World} {A : Option Addr} {n : Nat} {ps : List Pk} (h : Pks w A n ps) (k : Nat) : Pks (w.drewN k) A n ps := h
theorem Pks.qt {w w' : World} {A : Option Addr} {n : Nat} {ps : List Pk} (h : Pks w A n ps) (k : Qt w w') : Pks w' A n ps := by
 obtain ⟨q, rfl⟩ := k; exact h
theorem Pks.lt {w : World} {A : Option Addr} {n : Nat} {ps : List Pk} (h : Pks w A n ps) {b : Nat} (hb : blk A n b) : b < w.heap.size := by
 obtain ⟨hn, a, rfl, rfl⟩ := hb; obtain ⟨b, off, e, hl, _⟩ := h.2 hn
 injection e with e
 subst e; exact hl
theorem Pks.far {w : World} {A : Option Addr} {n : Nat} {ps : List Pk} (h : Pks w A n ps) {p : Addr} (hp : ¬ blk A n p.block) (u : Value) : Pks (w.setCell p u) A n ps :=
 h.keeps (S := fun b => b = p.block) ((Keeps.refl (fun b => b = p.block) w).setCell (p := p) (.inr rfl) u) fun b hb e => hp (by subst e; exact hb)
theorem Pks.at_ {w : World} {A : Option Addr} {n k : Nat} {ps : List Pk} (h : Pks w A n ps) (hk : k < n) :
  ∃ b off, A = some ⟨b, off, none⟩ ∧ b < w.heap.size ∧
   w.cell? ⟨b, off + k * 7, none⟩ = some (.int .i64 (ps.getD k pk0).s) ∧ w.cell? ⟨b, off + k * 7 + 1, none⟩ = some (.int .i64 (ps.getD k pk0).k) ∧ w.cell? ⟨b, off + k * 7 + 2, none⟩ = some (.int .i64 (ps.getD k pk0).f) ∧
   w.cell? ⟨b, off + k * 7 + 3, none⟩ = some (.int .i64 (ps.getD k pk0).t) ∧ w.cell? ⟨b, off + k * 7 + 4, none⟩ = some (.int .i64 (ps.getD k pk0).m) ∧ w.cell? ⟨b, off + k * 7 + 5, none⟩ = some (.int .i64 (ps.getD k pk0).u) ∧
   w.cell? ⟨b, off + k * 7 + 6, none⟩ = some (.int .i64 (ps.getD k pk0).v) := by
 obtain ⟨b, off, e, hb, hc⟩ := h.2 (by omega)
 have hl : k < ps.length := by have := h.1; omega
 have hp : ps[k]? = some (ps.getD k pk0) := by
  rw [List.getD_eq_getElem?_getD, List.getElem?_eq_getElem hl]
  rfl
 have h7 := hc k _ hp; exact ⟨b, off, e, hb, h7 0 _ rfl, h7 1 _ rfl, h7 2 _ rfl, h7 3 _ rfl, h7 4 _ rfl, h7 5 _ rfl, h7 6 _ rfl⟩
def PRow (w : World) (lo : Nat) (A : Option Addr) (n : Nat) (ps : List Pk) : Prop :=
 Pks w A n ps ∧ (0 < n → ∃ b off, A = some ⟨b, off, none⟩ ∧ lo ≤ b ∧ ∀ j, j < n * 7 → w.frozen? ⟨b, off + j, none⟩ = false)
theorem PRow.nil (w : World) (lo : Nat) (A : Option Addr) : PRow w lo A 0 [] := ⟨Pks.nil w A, fun h => absurd h (by omega)⟩
theorem PRow.less {w : World} {lo lo' : Nat} {A : Option Addr} {n : Nat} {ps : List Pk} (h : PRow w lo A n ps) (hl : lo' ≤ lo) : PRow w lo' A n ps :=
 ⟨h.1, fun hn => by
  obtain ⟨b, off, e, hb, hf⟩ := h.2 hn
  exact ⟨b, off, e, by omega, hf⟩⟩
theorem PRow.keeps {S : Nat → Prop} {w w' : World} {lo : Nat} {A : Option Addr} {n : Nat} {ps : List Pk} (h : PRow w lo A n ps) (hk : Keeps S w w') (hs : ∀ b, blk A n b → ¬ S b) : PRow w' lo A n ps :=
 ⟨h.1.keeps hk hs, fun hn => by
  obtain ⟨b, off, e, hb, hf⟩ := h.2 hn; obtain ⟨b', off', e', hb', _⟩ := h.1.2 hn; rw [e] at e'
  injection e' with e'
  injection e' with e1 e2
  subst e1
  exact ⟨b, off, e, hb, fun j hj => (hk.frozen hb' (hs b ⟨hn, _, e, rfl⟩)).trans (hf j hj)⟩⟩
theorem PRow.alloc {w : World} {lo : Nat} {A : Option Addr} {n : Nat} {ps : List Pk} (h : PRow w lo A n ps) (o : Obj) : PRow (w.alloc o) lo A n ps :=
 h.keeps ((Keeps.refl noBlk w).alloc o) fun _ _ x => x
theorem PRow.drewN {w : World} {lo : Nat} {A : Option Addr} {n : Nat} {ps : List Pk} (h : PRow w lo A n ps) (k : Nat) : PRow (w.drewN k) lo A n ps := h
theorem PRow.qt {w w' : World} {lo : Nat} {A : Option Addr} {n : Nat} {ps : List Pk} (h : PRow w lo A n ps) (k : Qt w w') : PRow w' lo A n ps := by
 obtain ⟨q, rfl⟩ := k; exact h
theorem PRow.lt {w : World} {lo : Nat} {A : Option Addr} {n : Nat} {ps : List Pk} (h : PRow w lo A n ps) {b : Nat} (hb : blk A n b) : b < w.heap.size := h.1.lt hb
theorem PRow.ge {w : World} {lo : Nat} {A : Option Addr} {n : Nat} {ps : List Pk} (h : PRow w lo A n ps) {b : Nat} (hb : blk A n b) : lo ≤ b := by
 obtain ⟨hn, a, rfl, rfl⟩ := hb; obtain ⟨b, off, e, hl, _⟩ := h.2 hn
 injection e with e
 subst e; exact hl
theorem PRow.far {w : World} {lo : Nat} {A : Option Addr} {n : Nat} {ps : List Pk} (h : PRow w lo A n ps) {p : Addr} (hp : ¬ blk A n p.block) (u : Value) : PRow (w.setCell p u) lo A n ps :=
 h.keeps (S := fun b => b = p.block) ((Keeps.refl (fun b => b = p.block) w).setCell (p := p) (.inr rfl) u) fun b hb e => hp (by subst e; exact hb)

def Pk.val (p : Pk) : Value := .agg #[.int .i64 p.s, .int .i64 p.k, .int .i64 p.f, .int .i64 p.t, .int .i64 p.m, .int .i64 p.u, .int .i64 p.v]
def Pk.ok (p : Pk) : Bool := pkB p.s p.k p.f p.t p.m p.u p.v
structure StL where
 way : Int
 ver : Int
 want : Int
 sent : List Pk
 live : List Bool
 back : List Bool
 got : List Int
@[simp, go_sem] abbrev stC (x : StL) (A1 A2 A3 A4 : Option Addr) (c1 c2 c3 c4 : Nat) : Array Value := #[.int .i64 x.way, .int .i64 x.ver, .int .i64 x.want, .slice A1 x.sent.length c1, .slice A2 x.live.length c2, .slice A3 x.back.length c3, .slice A4 x.got.length c4]
def pkAt (ver : Int) (i : Nat) (p : Pk) : Prop := p.ok = true ∧ p.s = (i : Int) + 1 ∧ p.v ≤ ver
instance (ver : Int) (i : Nat) (p : Pk) : Decidable (pkAt ver i p) := by unfold pkAt; infer_instance
def WayOk (way ver want : Int) : Prop := (1 ≤ ver ∧ ver ≤ 9) ∧ (0 ≤ way ∧ way ≤ 4) ∧ (way = 4 → want = ver + 1 ∧ want ≤ 9) ∧ (way ≠ 4 → want = 0)
instance (way ver want : Int) : Decidable (WayOk way ver want) := by unfold WayOk; infer_instance
def SentOk (ver : Int) (ps : List Pk) : Prop := ∀ i, i < ps.length → pkAt ver i (ps.getD i pk0)
instance (ver : Int) (ps : List Pk) : Decidable (SentOk ver ps) := by unfold SentOk; infer_instance
def FateOk (n : Nat) (live back : List Bool) : Prop := live.length = n ∧ back.length = n ∧ ∀ i, i < n → ¬ (live.getD i false = true ∧ back.getD i false = true)
instance (n : Nat) (live back : List Bool) : Decidable (FateOk n live back) := by unfold FateOk; infer_instance
def GotOk (got : List Int) : Prop := got.length = 8 ∧ ∀ i, i < 8 → in2 (got.getD i 0) 0 2 = true
instance (got : List Int) : Decidable (GotOk got) := by unfold GotOk; infer_instance
def StOk (x : StL) : Prop := WayOk x.way x.ver x.want ∧ SentOk x.ver x.sent ∧ FateOk x.sent.length x.live x.back ∧ GotOk x.got
instance (x : StL) : Decidable (StOk x) := by unfold StOk; infer_instance
def stB (x : StL) : Bool := decide (StOk x)
theorem SentOk.small {ver : Int} {ps : List Pk} (h : SentOk ver ps) : ps.length ≤ 8 := by
 rcases Nat.lt_or_ge 8 ps.length with hl | hl
 ·obtain ⟨h1, h2, _⟩ := h 8 hl
  have := (pkB_parts h1).1
  omega
 ·exact hl
theorem SentOk.take_step {ver : Int} {ps : List Pk} {k : Nat} (h : ∀ i, i < k → pkAt ver i (ps.getD i pk0)) (hk : pkAt ver k (ps.getD k pk0)) : ∀ i, i < k + 1 → pkAt ver i (ps.getD i pk0) := by
 intro i hi
 rcases Nat.lt_or_ge i k with hl | hl
 ·exact h i hl
 ·obtain rfl : i = k := by omega
  exact hk

theorem sentOk_any (A : Option Addr) (n c : Nat) (ps : List Pk) (ver : Int) (w : World) (hp : Pks w A n ps) (hn : n ≤ maxLen) (ht : Tabs w) :
  Calls Tryd.prog 53 #[.slice A n c, .int .i64 ver] w fun e w' => e = .returned (.bool (decide (SentOk ver ps))) ∧ Keeps noBlk w w' := by
 unfold maxLen at hn; have HP := hH hp; have HT := hH ht; clear hp ht
 go_enter Tryd.func53, Tryd.ntmps53
 go_wp2
 go_loopw [9] (fun i wr => ∃ k : Nat, k ≤ n ∧ i = .int .i64 k ∧ (∀ j, j < k → pkAt ver j (ps.getD j pk0)) ∧ Keeps noBlk w wr) (fun i _ => n - (intOf i).toNat)
 case atStart => exact ⟨0, Nat.zero_le _, rfl, fun j hj => absurd hj (by omega), Keeps.refl _ _⟩
 case round =>
  obtain ⟨k, hk, rfl, hok, hkp⟩ := hrel; have HO := hH hok; have HK := hH hkp
  by_cases hlt : k < n
  ·obtain ⟨b, off, rfl, hb, c0, c1, c2, c3, c4, c5, c6⟩ := (HP.out.keeps hkp (fun _ _ h => h)).at_ hlt
   clear hok hkp; generalize hpp : ps.getD k pk0 = p at c0 c1 c2 c3 c4 c5 c6; have HPP := hH hpp; clear hpp; obtain ⟨s, kd, f, t, m, u, v⟩ := p; dsimp only at c0 c1 c2 c3 c4 c5 c6
   have HBAD : Hid (¬ pkAt ver k ⟨s, kd, f, t, m, u, v⟩ → decide (SentOk ver ps) = false) := by
    refine hH fun h => ?_
    simp only [decide_eq_false_iff_not]; intro hs; have := hs k (by rw [HP.out.1]; exact hlt); rw [HPP.out] at this; exact h this
   rcases Bool.eq_false_or_eq_true (pkB s kd f t m u v) with ho | ho
   ·have hs := (pkB_parts ho).1
    have HOK := hH ho; have HIM := hH (fun W hW => (show Calls Tryd.prog 32 #[.agg #[.int .i64 s, .int .i64 kd, .int .i64 f, .int .i64 t, .int .i64 m, .int .i64 u, .int .i64 v]] W (fun e w' => e = .returned (.bool true) ∧ Keeps noBlk W w') from by rw [← ho]; exact implPk_any s kd f t m u v W hW)); clear ho; go_wp2_with fail; refine (HIM.out _ (HT.out.keeps (HK.out.alloc _))).mono ?_; rintro e w1 ⟨rfl, hk1⟩; have hbx := (Box.new wr _ rfl 29 #[.int .i64 s, .int .i64 kd, .int .i64 f, .int .i64 t, .int .i64 m, .int .i64 u, .int .i64 v]).keeps hk1 (fun h => h); obtain ⟨x0, x1, x2, x3, x4, x5, x6⟩ := hbx.cells7; have HK1 := hH ((HK.out.alloc (.cells #[.int .i64 s, .int .i64 kd, .int .i64 f, .int .i64 t, .int .i64 m, .int .i64 u, .int .i64 v] 29)).trans hk1); clear hbx hk1
    by_cases hseq : s = (k : Int) + 1
    ·have hsd : (s != (k : Int) + 1) = false := by simpa using hseq
     have HSQ := hH hseq; clear hseq
     by_cases hv : ver < v
     ·have HB := hH (HBAD.out (fun h => by have := h.2.2; simp only at this; omega))
      go_wp2; go_ret; exact ⟨by simp [HB.out], HK1.out⟩
     ·go_wp2
      go_roundw
      case rel => exact ⟨k + 1, by omega, by go_num, SentOk.take_step HO.out (by rw [HPP.out]; exact ⟨HOK.out, HSQ.out, by simp only; omega⟩), HK1.out⟩
      case measure => simp [intOf]; omega
    ·have hsd : (s != (k : Int) + 1) = true := by simpa using hseq
     have HB := hH (HBAD.out (fun h => by have := h.2.1; simp only at this; omega)); clear hseq; go_wp2; go_ret; exact ⟨by simp [HB.out], HK1.out⟩
   ·have HIM := hH (fun W hW => (show Calls Tryd.prog 32 #[.agg #[.int .i64 s, .int .i64 kd, .int .i64 f, .int .i64 t, .int .i64 m, .int .i64 u, .int .i64 v]] W (fun e w' => e = .returned (.bool false) ∧ Keeps noBlk W w') from by rw [← ho]; exact implPk_any s kd f t m u v W hW))
    have HB := hH (HBAD.out (fun h => by have h1 := h.1; unfold Pk.ok at h1; simp only at h1; rw [ho] at h1; cases h1)); clear ho; go_wp2_with fail; refine (HIM.out _ (HT.out.keeps (HK.out.alloc _))).mono ?_; rintro e w1 ⟨rfl, hk1⟩; have HK1 := hH ((HK.out.alloc (.cells #[.int .i64 s, .int .i64 kd, .int .i64 f, .int .i64 t, .int .i64 m, .int .i64 u, .int .i64 v] 29)).trans hk1); clear hk1; go_wp2; go_ret; exact ⟨by simp [HB.out], HK1.out⟩
  ·have HS : Hid (SentOk ver ps) := hH (fun i hi => HO.out i (by have := HP.out.1; omega))
   clear hok hkp; go_wp2; go_ret; exact ⟨by simp [HS.out], HK.out⟩

theorem gotOk_any (A : Option Addr) (n c : Nat) (xs : List Int) (w : World) (ha : Ints w A n xs) (hn : n ≤ maxLen) :
  Calls Tryd.prog 55 #[.slice A n c] w fun e w' => e = .returned (.bool (decide (GotOk xs))) ∧ Qt w w' := by
 unfold maxLen at hn; have HA := hH ha; clear ha
 by_cases hn8 : n = 8
 ·subst hn8
  have hl := hH HA.out.1
  go_enter Tryd.func55, Tryd.ntmps55
  go_wp2
  go_loopw [10] (fun i wr => ∃ k : Nat, k ≤ 8 ∧ i = .int .i64 k ∧ (∀ j, j < k → in2 (xs.getD j 0) 0 2 = true) ∧ Qt w wr) (fun i _ => 8 - (intOf i).toNat)
  case atStart => exact ⟨0, Nat.zero_le _, rfl, fun j hj => absurd hj (by omega), Qt.refl _⟩
  case round =>
   obtain ⟨k, hk, rfl, hok, q, rfl⟩ := hrel; have HO := hH hok; clear hok
   by_cases hlt : k < 8
   ·obtain ⟨b, off, rfl, hb, c0⟩ := (HA.out.drewN q).at_ hlt
    have HBAD : Hid (¬ in2 (xs.getD k 0) 0 2 = true → decide (GotOk xs) = false) := by
     refine hH fun h => ?_
     simp only [decide_eq_false_iff_not]; intro hs; exact h (hs.2 k hlt)
    have HGOOD : Hid (in2 (xs.getD k 0) 0 2 = true → ∀ j, j < k + 1 → in2 (xs.getD j 0) 0 2 = true) := by
     refine hH fun h j hj => ?_
     rcases Nat.lt_or_ge j k with hl | hl
     ·exact HO.out j hl
     ·obtain rfl : j = k := by omega
      exact h
    generalize xs.getD k 0 = x at c0 HBAD HGOOD
    by_cases h0 : x = 0
    ·subst h0
     go_wp2
     go_roundw
     case rel => exact ⟨k + 1, by omega, by go_num, HGOOD.out (in2_yes (by omega) (by omega)), Qt.of _ _⟩
     case measure => simp [intOf]; omega
    ·by_cases h1 : x = 1
     ·subst h1
      go_wp2
      go_roundw
      case rel => exact ⟨k + 1, by omega, by go_num, HGOOD.out (in2_yes (by omega) (by omega)), Qt.of _ _⟩
      case measure => simp [intOf]; omega
     ·by_cases h2 : x = 2
      ·subst h2
       go_wp2
       go_roundw
       case rel => exact ⟨k + 1, by omega, by go_num, HGOOD.out (in2_yes (by omega) (by omega)), Qt.of _ _⟩
       case measure => simp [intOf]; omega
      ·have d0 : (x != 0) = true := by simpa using h0
       have d1 : (x != 1) = true := by simpa using h1
       have d2 : (x != 2) = true := by simpa using h2
       have HB := hH (HBAD.out (fun h => by have := in2_parts h; omega)); clear h0 h1 h2; go_wp2; go_ret; exact ⟨by simp [HB.out], Qt.of _ _⟩
   ·have HS : Hid (GotOk xs) := hH ⟨hl.out, fun i hi => HO.out i (by omega)⟩
    go_wp2; go_ret; exact ⟨by simp [HS.out], Qt.of _ _⟩
 ·have hne : ((n : Int) != 8) = true := by simp; omega
  have HB : Hid (decide (GotOk xs) = false) := hH (by
   simp only [decide_eq_false_iff_not]; intro h
   exact hn8 (HA.out.1 ▸ h.1))
  go_enter Tryd.func55, Tryd.ntmps55
  go_wp2; go_ret; exact ⟨by simp [HB.out], Qt.refl _⟩

def StAt (w : World) (x : StL) (A1 A2 A3 A4 : Option Addr) : Prop :=
 (Pks w A1 x.sent.length x.sent ∧ Bools w A2 x.live.length x.live ∧ Bools w A3 x.back.length x.back ∧ Ints w A4 x.got.length x.got) ∧
 (x.sent.length ≤ maxLen ∧ x.live.length ≤ maxLen ∧ x.back.length ≤ maxLen ∧ x.got.length ≤ maxLen)
theorem StAt.keeps {S : Nat → Prop} {w w' : World} {x : StL} {A1 A2 A3 A4 : Option Addr} (h : StAt w x A1 A2 A3 A4) (hk : Keeps S w w')
  (hs : ∀ b, (blk A1 x.sent.length b ∨ blk A2 x.live.length b ∨ blk A3 x.back.length b ∨ blk A4 x.got.length b) → ¬ S b) : StAt w' x A1 A2 A3 A4 :=
 ⟨⟨h.1.1.keeps hk fun b hb => hs b (.inl hb), h.1.2.1.keeps hk fun b hb => hs b (.inr (.inl hb)), h.1.2.2.1.keeps hk fun b hb => hs b (.inr (.inr (.inl hb))), h.1.2.2.2.keeps hk fun b hb => hs b (.inr (.inr (.inr hb)))⟩, h.2⟩
theorem StAt.kept {w w' : World} {x : StL} {A1 A2 A3 A4 : Option Addr} (h : StAt w x A1 A2 A3 A4) (hk : Keeps noBlk w w') : StAt w' x A1 A2 A3 A4 := h.keeps hk fun _ _ h => h
theorem StAt.alloc {w : World} {x : StL} {A1 A2 A3 A4 : Option Addr} (h : StAt w x A1 A2 A3 A4) (o : Obj) : StAt (w.alloc o) x A1 A2 A3 A4 := h.kept ((Keeps.refl _ _).alloc o)
theorem StAt.drewN {w : World} {x : StL} {A1 A2 A3 A4 : Option Addr} (h : StAt w x A1 A2 A3 A4) (n : Nat) : StAt (w.drewN n) x A1 A2 A3 A4 := h.kept ((Keeps.refl _ _).drewN n)

theorem fatesOk_any (way ver want : Int) (A1 A2 A3 : Option Addr) (G : Value) (n1 n2 n3 c1 c2 c3 : Nat) (ls bs : List Bool) (w : World) (h2 : Bools w A2 n2 ls) (h3 : Bools w A3 n3 bs) (m1 : n1 ≤ maxLen) (m2 : n2 ≤ maxLen) (m3 : n3 ≤ maxLen) :
  Calls Tryd.prog 54 #[.agg #[.int .i64 way, .int .i64 ver, .int .i64 want, .slice A1 n1 c1, .slice A2 n2 c2, .slice A3 n3 c3, G]] w fun e w' => e = .returned (.bool (decide (FateOk n1 ls bs))) ∧ Keeps noBlk w w' := by
 unfold maxLen at m1 m2 m3; have H2 := hH h2; have H3 := hH h3; clear h2 h3
 by_cases e2 : n2 = n1
 ·by_cases e3 : n3 = n1
  ·subst e2
   subst e3
   go_enter Tryd.func54, Tryd.ntmps54
   go_wp2
   go_loopw [23] (fun i wr => ∃ k : Nat, k ≤ n3 ∧ i = .int .i64 k ∧ (∀ j, j < k → ¬ (ls.getD j false = true ∧ bs.getD j false = true)) ∧ Qt (w.alloc (.cells #[.int .i64 way, .int .i64 ver, .int .i64 want, .slice A1 n3 c1, .slice A2 n3 c2, .slice A3 n3 c3, G] 27)) wr) (fun i _ => n3 - (intOf i).toNat)
   case atStart => exact ⟨0, Nat.zero_le _, rfl, fun j hj => absurd hj (by omega), Qt.refl _⟩
   case round =>
    obtain ⟨k, hk, rfl, hok, q, rfl⟩ := hrel; have HO := hH hok; clear hok
    by_cases hlt : k < n3
    ·obtain ⟨b, off, rfl, hb, d2⟩ := ((H2.out.alloc (.cells #[.int .i64 way, .int .i64 ver, .int .i64 want, .slice A1 n3 c1, .slice A2 n3 c2, .slice A3 n3 c3, G] 27)).drewN q).at_ hlt
     obtain ⟨b', off', rfl, hb', d3⟩ := ((H3.out.alloc (.cells #[.int .i64 way, .int .i64 ver, .int .i64 want, .slice A1 n3 c1, .slice (some ⟨b, off, none⟩) n3 c2, .slice A3 n3 c3, G] 27)).drewN q).at_ hlt
     have HBAD : Hid ((ls.getD k false = true ∧ bs.getD k false = true) → decide (FateOk n3 ls bs) = false) := by
      refine hH fun h => ?_
      simp only [decide_eq_false_iff_not]; intro hs; exact hs.2.2 k hlt h
     have HGOOD : Hid (¬ (ls.getD k false = true ∧ bs.getD k false = true) → ∀ j, j < k + 1 → ¬ (ls.getD j false = true ∧ bs.getD j false = true)) := by
      refine hH fun h j hj => ?_
      rcases Nat.lt_or_ge j k with hl | hl
      ·exact HO.out j hl
      ·obtain rfl : j = k := by omega
       exact h
     generalize ls.getD k false = x at d2 HBAD HGOOD; generalize bs.getD k false = y at d3 HBAD HGOOD
     cases x with
     | false =>
      go_wp2
      go_roundw
      case rel => exact ⟨k + 1, by omega, by go_num, HGOOD.out (by simp), Qt.of _ _⟩
      case measure => simp [intOf]; omega
     | true =>
      cases y with
      | false =>
       go_wp2
       go_roundw
       case rel => exact ⟨k + 1, by omega, by go_num, HGOOD.out (by simp), Qt.of _ _⟩
       case measure => simp [intOf]; omega
      | true =>
       have HB := hH (HBAD.out ⟨rfl, rfl⟩); go_wp2; go_ret; exact ⟨by simp [HB.out], ((Keeps.refl _ _).alloc _).drewN _⟩
    ·have HS : Hid (FateOk n3 ls bs) := hH ⟨H2.out.1, H3.out.1, fun i hi => HO.out i (by omega)⟩
     go_wp2; go_ret; exact ⟨by simp [HS.out], ((Keeps.refl _ _).alloc _).drewN _⟩
  ·have hne : ((n3 : Int) != (n1 : Int)) = true := by simp; omega
   have HB : Hid (decide (FateOk n1 ls bs) = false) := hH (by
    simp only [decide_eq_false_iff_not]; intro h
    exact e3 (H3.out.1 ▸ h.2.1))
   subst e2
   go_enter Tryd.func54, Tryd.ntmps54
   go_wp2; go_ret; exact ⟨by simp [HB.out], ((Keeps.refl _ _).alloc _)⟩
 ·have hne : ((n2 : Int) != (n1 : Int)) = true := by simp; omega
  have HB : Hid (decide (FateOk n1 ls bs) = false) := hH (by
   simp only [decide_eq_false_iff_not]; intro h
   exact e2 (H2.out.1 ▸ h.1))
  go_enter Tryd.func54, Tryd.ntmps54
  go_wp2; go_ret; exact ⟨by simp [HB.out], ((Keeps.refl _ _).alloc _)⟩

theorem wayOk_any (way ver want : Int) (V1 V2 V3 V4 : Value) (w : World) :
  Calls Tryd.prog 52 #[.agg #[.int .i64 way, .int .i64 ver, .int .i64 want, V1, V2, V3, V4]] w fun e w' => e = .returned (.bool (decide (WayOk way ver want))) ∧ Keeps noBlk w w' := by
 have HF : Hid (¬ WayOk way ver want → decide (WayOk way ver want) = false) := hH fun h => by simpa using h
 have HT : Hid (WayOk way ver want → decide (WayOk way ver want) = true) := hH fun h => by simpa using h
 generalize decide (WayOk way ver want) = o at HF HT
 by_cases v1 : ver < 1
 ·have HB := hH (HF.out (fun h => by have := h.1; omega))
  go_enter Tryd.func52, Tryd.ntmps52
  go_wp2; go_ret; exact ⟨by simp [HB.out], (Keeps.refl _ _).alloc _⟩
 ·by_cases v2 : 9 < ver
  ·have HB := hH (HF.out (fun h => by have := h.1; omega))
   go_enter Tryd.func52, Tryd.ntmps52
   go_wp2; go_ret; exact ⟨by simp [HB.out], (Keeps.refl _ _).alloc _⟩
  ·have HV : Hid (1 ≤ ver ∧ ver ≤ 9) := hH (by omega)
   by_cases w0 : way = 0
   ·subst w0
    by_cases hw : want = 0
    ·subst hw
     have HG := hH (HT.out ⟨HV.out, by omega, fun h => by omega, fun _ => rfl⟩)
     go_enter Tryd.func52, Tryd.ntmps52
     go_wp2; go_ret; exact ⟨by simp [HG.out], (Keeps.refl _ _).alloc _⟩
    ·have hwd : (want == 0) = false := by simpa using hw
     have HB := hH (HF.out (fun h => hw (h.2.2.2 (by omega)))); clear hw
     go_enter Tryd.func52, Tryd.ntmps52
     go_wp2; go_ret; exact ⟨by simp [HB.out], (Keeps.refl _ _).alloc _⟩
   by_cases w1 : way = 1
   ·subst w1
    by_cases hw : want = 0
    ·subst hw
     have HG := hH (HT.out ⟨HV.out, by omega, fun h => by omega, fun _ => rfl⟩)
     go_enter Tryd.func52, Tryd.ntmps52
     go_wp2; go_ret; exact ⟨by simp [HG.out], (Keeps.refl _ _).alloc _⟩
    ·have hwd : (want == 0) = false := by simpa using hw
     have HB := hH (HF.out (fun h => hw (h.2.2.2 (by omega)))); clear hw
     go_enter Tryd.func52, Tryd.ntmps52
     go_wp2; go_ret; exact ⟨by simp [HB.out], (Keeps.refl _ _).alloc _⟩
   by_cases w2 : way = 2
   ·subst w2
    by_cases hw : want = 0
    ·subst hw
     have HG := hH (HT.out ⟨HV.out, by omega, fun h => by omega, fun _ => rfl⟩)
     go_enter Tryd.func52, Tryd.ntmps52
     go_wp2; go_ret; exact ⟨by simp [HG.out], (Keeps.refl _ _).alloc _⟩
    ·have hwd : (want == 0) = false := by simpa using hw
     have HB := hH (HF.out (fun h => hw (h.2.2.2 (by omega)))); clear hw
     go_enter Tryd.func52, Tryd.ntmps52
     go_wp2; go_ret; exact ⟨by simp [HB.out], (Keeps.refl _ _).alloc _⟩
   by_cases w3 : way = 3
   ·subst w3
    by_cases hw : want = 0
    ·subst hw
     have HG := hH (HT.out ⟨HV.out, by omega, fun h => by omega, fun _ => rfl⟩)
     go_enter Tryd.func52, Tryd.ntmps52
     go_wp2; go_ret; exact ⟨by simp [HG.out], (Keeps.refl _ _).alloc _⟩
    ·have hwd : (want == 0) = false := by simpa using hw
     have HB := hH (HF.out (fun h => hw (h.2.2.2 (by omega)))); clear hw
     go_enter Tryd.func52, Tryd.ntmps52
     go_wp2; go_ret; exact ⟨by simp [HB.out], (Keeps.refl _ _).alloc _⟩
   by_cases w4 : way = 4
   ·subst w4
    clear w0 w1 w2 w3
    by_cases hw : want = ver + 1
    ·by_cases h9 : want ≤ 9
     ·have hwd : (want == ver + 1) = true := by simpa using hw
      have HG := hH (HT.out ⟨HV.out, by omega, fun _ => ⟨hw, h9⟩, fun h => absurd rfl h⟩); clear hw
      go_enter Tryd.func52, Tryd.ntmps52
      go_wp2; go_ret; exact ⟨by simp [HG.out], (Keeps.refl _ _).alloc _⟩
     ·have hwd : (want == ver + 1) = true := by simpa using hw
      have HB := hH (HF.out (fun h => h9 (h.2.2.1 rfl).2)); clear hw
      go_enter Tryd.func52, Tryd.ntmps52
      go_wp2; go_ret; exact ⟨by simp [HB.out], (Keeps.refl _ _).alloc _⟩
    ·have hwd : (want == ver + 1) = false := by simpa using hw
     have HB := hH (HF.out (fun h => hw (h.2.2.1 rfl).1)); clear hw
     go_enter Tryd.func52, Tryd.ntmps52
     go_wp2; go_ret; exact ⟨by simp [HB.out], (Keeps.refl _ _).alloc _⟩
   ·have HB := hH (HF.out (fun h => by have := h.2.1; omega))
    have d0 : (way == 0) = false := by simpa using w0
    have d1 : (way == 1) = false := by simpa using w1
    have d2 : (way == 2) = false := by simpa using w2
    have d3 : (way == 3) = false := by simpa using w3
    have d4 : (way == 4) = false := by simpa using w4
    clear w0 w1 w2 w3 w4
    go_enter Tryd.func52, Tryd.ntmps52
    go_wp2; go_ret; exact ⟨by simp [HB.out], (Keeps.refl _ _).alloc _⟩

def stV (x : StL) (A1 A2 A3 A4 : Option Addr) (c1 c2 c3 c4 : Nat) : Value :=
 .agg #[.int .i64 x.way, .int .i64 x.ver, .int .i64 x.want, .slice A1 x.sent.length c1, .slice A2 x.live.length c2, .slice A3 x.back.length c3, .slice A4 x.got.length c4]

theorem stB_no1 {x : StL} (h : decide (WayOk x.way x.ver x.want) = false) : stB x = false := by
 simp only [decide_eq_false_iff_not] at h; simp only [stB, decide_eq_false_iff_not]
 exact fun k => h k.1
theorem stB_no2 {x : StL} (h : decide (SentOk x.ver x.sent) = false) : stB x = false := by
 simp only [decide_eq_false_iff_not] at h; simp only [stB, decide_eq_false_iff_not]
 exact fun k => h k.2.1
theorem stB_no3 {x : StL} (h : decide (FateOk x.sent.length x.live x.back) = false) : stB x = false := by
 simp only [decide_eq_false_iff_not] at h; simp only [stB, decide_eq_false_iff_not]
 exact fun k => h k.2.2.1
theorem stB_4 {x : StL} (h1 : decide (WayOk x.way x.ver x.want) = true) (h2 : decide (SentOk x.ver x.sent) = true) (h3 : decide (FateOk x.sent.length x.live x.back) = true) : stB x = decide (GotOk x.got) := by
 simp only [decide_eq_true_eq] at h1 h2 h3; simp only [stB, decide_eq_decide]; exact ⟨fun h => h.2.2.2, fun h => ⟨h1, h2, h3, h⟩⟩

theorem implSt_any (x : StL) (A1 A2 A3 A4 : Option Addr) (c1 c2 c3 c4 : Nat) (w : World) (hx : StAt w x A1 A2 A3 A4) (ht : Tabs w) :
  Calls Tryd.prog 31 #[stV x A1 A2 A3 A4 c1 c2 c3 c4] w fun e w' => e = .returned (.bool (stB x)) ∧ Keeps noBlk w w' := by
 have HX := hH hx; have HT := hH ht; clear hx ht; have HW := hH (fun V1 V2 V3 V4 W => wayOk_any x.way x.ver x.want V1 V2 V3 V4 W); have HN1 := hH (@stB_no1 x); have HN2 := hH (@stB_no2 x); have HN3 := hH (@stB_no3 x); have HN4 := hH (@stB_4 x); have HS := hH (fun W hW hT => sentOk_any A1 x.sent.length c1 x.sent x.ver W hW HX.out.2.1 hT); have HFt := hH (fun G W h2 h3 => fatesOk_any x.way x.ver x.want A1 A2 A3 G x.sent.length x.live.length x.back.length c1 c2 c3 x.live x.back W h2 h3 HX.out.2.1 HX.out.2.2.1 HX.out.2.2.2.1); have HG := hH (fun W hW => gotOk_any A4 x.got.length c4 x.got W hW HX.out.2.2.2.2); generalize decide (WayOk x.way x.ver x.want) = o1 at HW HN1 HN4; generalize decide (SentOk x.ver x.sent) = o2 at HS HN2 HN4; generalize decide (FateOk x.sent.length x.live x.back) = o3 at HFt HN3 HN4; generalize decide (GotOk x.got) = o4 at HG HN4; generalize stB x = o at HN1 HN2 HN3 HN4; have hb0 := hH (Box.new w _ rfl 27 (stC x A1 A2 A3 A4 c1 c2 c3 c4)); unfold stV
 go_enter Tryd.func31, Tryd.ntmps31
 go_wp2_with fail; refine (HW.out _ _ _ _ _).mono ?_; rintro e w1 ⟨rfl, hk1⟩; have HB1 := hb0.out.keeps hk1 (fun h => h); have HK1 := hH (((Keeps.refl noBlk w).alloc (.cells (stC x A1 A2 A3 A4 c1 c2 c3 c4) 27)).trans hk1); clear hk1; obtain ⟨a0, a1, a2, a3, a4, a5, a6⟩ := HB1.cells7; have HB1 := hH HB1
 cases o1 with
 | false =>
  have HE := hH (HN1.out rfl); go_wp2; go_ret; exact ⟨by simp [HE.out], HK1.out⟩
 | true =>
  go_wp2_with fail; refine (HS.out _ (HX.out.kept HK1.out).1.1 (HT.out.keeps HK1.out)).mono ?_; rintro e w2 ⟨rfl, hk2⟩; have HB2 := HB1.out.keeps hk2 (fun h => h); have HK2 := hH (HK1.out.trans hk2); clear hk2 a0 a1 a2 a3 a4 a5 a6; obtain ⟨a0, a1, a2, a3, a4, a5, a6⟩ := HB2.cells7; have HB2 := hH HB2
  cases o2 with
  | false =>
   have HE := hH (HN2.out rfl); go_wp2; go_ret; exact ⟨by simp [HE.out], HK2.out⟩
  | true =>
   go_wp2_with fail; refine (HFt.out _ _ (HX.out.kept HK2.out).1.2.1 (HX.out.kept HK2.out).1.2.2.1).mono ?_; rintro e w3 ⟨rfl, hk3⟩; have HB3 := HB2.out.keeps hk3 (fun h => h); have HK3 := hH (HK2.out.trans hk3); clear hk3 a0 a1 a2 a3 a4 a5 a6; have a6 := HB3.cell 6; simp at a6; clear HB3
   cases o3 with
   | false =>
    have HE := hH (HN3.out rfl); go_wp2; go_ret; exact ⟨by simp [HE.out], HK3.out⟩
   | true =>
    have HE := hH (HN4.out (by simp) (by simp) (by simp)); go_wp2_with fail; refine (HG.out _ (HX.out.kept HK3.out).1.2.2.2).mono ?_; rintro e w4 ⟨rfl, hk4⟩; have HK4 := hH (HK3.out.qt hk4); clear hk4; go_wp2; go_ret; exact ⟨by simp [HE.out], HK4.out⟩
end Go.Proofs.YtjcbeihoeanhaaaDoor
