/- My own words for memory: a slice of ints that reads as a list (nil let in), worlds that differ by draws alone. Nothing here speaks of the program. No condition. eqIntS of the laws: two slices of ints hold the same ints. markIntS and heldIntS of the laws: a row is marked with k, k+1, ..; a marked row is told. Banks in memory; eqBank, markBank, heldBank of the laws; BankNew of the program and of the model. Banks as lists and as values in memory. szIntS, toIntS of the laws. Regions that draw their order, whose operations read old memory alone and whose calls hand back one value and leave old memory as it was: one walk of the lexical order serves. Nothing here speaks of the program. No condition. -/
import Derived.WalkKit
import Derived.Below
import Derived.Lib.Hide
import Derived.Deep.Draws
import Derived.Deep.QuietTactic
import Derived.BigQuiet
import Derived.IntWalk
import Derived.Laws.Rows
import Derived.Test.YtjcbeihoeanhaaaDoorProg
import Derived.Tactics
import Derived.Tactics2
import Derived.KernelRfl
import Derived.Outline
import Derived.Laws.MakeOwn
import Derived.Deep.OwnRows
set_option linter.unusedVariables false
set_option linter.unusedSimpArgs false
/-! Mem -/
namespace Go.Proofs.YtjcbeihoeanhaaaDoor
open Go.RowKit

def Qt (w w' : World) : Prop := ∃ q, w' = w.drewN q
theorem Qt.refl (w : World) : Qt w w := ⟨0, rfl⟩
theorem Qt.of (w : World) (n : Nat) : Qt w (w.drewN n) := ⟨n, rfl⟩
theorem Qt.drewN {w w' : World} (h : Qt w w') (n : Nat) : Qt w (w'.drewN n) := by
 obtain ⟨q, rfl⟩ := h; exact ⟨q + n, by rw [World.drewN_drewN]⟩
theorem Qt.drew {w w' : World} (h : Qt w w') : Qt w w'.drew := h.drewN 1
theorem Qt.trans {a b c : World} (h : Qt a b) (k : Qt b c) : Qt a c := by
 obtain ⟨q, rfl⟩ := k; exact h.drewN q

def Ints (w : World) (A : Option Addr) (n : Nat) (xs : List Int) : Prop :=
 xs.length = n ∧ (0 < n → ∃ b off, A = some ⟨b, off, none⟩ ∧ b < w.heap.size ∧ ∀ j x, xs[j]? = some x → w.cell? ⟨b, off + j, none⟩ = some (.int .i64 x))

theorem Ints.nil (w : World) (A : Option Addr) : Ints w A 0 [] := ⟨rfl, fun h => absurd h (by omega)⟩

theorem Ints.keep {w w' : World} {A : Option Addr} {n : Nat} {xs : List Int} (h : Ints w A n xs) (hs : w.heap.size ≤ w'.heap.size)
  (hk : ∀ b, b < w.heap.size → w'.heap[b]? = w.heap[b]?) : Ints w' A n xs :=
 ⟨h.1, fun hn => by
  obtain ⟨b, off, e, hb, hc⟩ := h.2 hn
  exact ⟨b, off, e, by omega, fun j x hx => (World.cell?_of_block (hk b hb)).trans (hc j x hx)⟩⟩

theorem Ints.below {w w' : World} {A : Option Addr} {n : Nat} {xs : List Int} (h : Ints w A n xs) (hb : Below w.heap.size w w') : Ints w' A n xs :=
 h.keep hb.size hb.block

theorem Ints.drewN {w : World} {A : Option Addr} {n : Nat} {xs : List Int} (h : Ints w A n xs) (k : Nat) : Ints (w.drewN k) A n xs := h
theorem Ints.drew {w : World} {A : Option Addr} {n : Nat} {xs : List Int} (h : Ints w A n xs) : Ints w.drew A n xs := h
theorem Ints.alloc {w : World} {A : Option Addr} {n : Nat} {xs : List Int} (h : Ints w A n xs) (o : Obj) : Ints (w.alloc o) A n xs :=
 h.below ((Below.refl _ _).alloc (Nat.le_refl _) o)

theorem Ints.at_ {w : World} {A : Option Addr} {n k : Nat} {xs : List Int} (h : Ints w A n xs) (hk : k < n) :
  ∃ b off, A = some ⟨b, off, none⟩ ∧ b < w.heap.size ∧ w.cell? ⟨b, off + k, none⟩ = some (.int .i64 (xs.getD k 0)) := by
 obtain ⟨b, off, e, hb, hc⟩ := h.2 (by omega)
 have hl : k < xs.length := by have := h.1; omega
 refine ⟨b, off, e, hb, ?_⟩; rw [List.getD_eq_getElem?_getD, List.getElem?_eq_getElem hl]; exact hc k _ (List.getElem?_eq_getElem hl)

theorem hH {p : Prop} (h : p) : Hid p := h
theorem nq {a b : Nat} (h : ¬ a = b) : ¬ a = b := h
def blk (A : Option Addr) (n : Nat) (b : Nat) : Prop := 0 < n ∧ ∃ a, A = some a ∧ a.block = b

structure Keeps (S : Nat → Prop) (w w' : World) : Prop where
 os : w'.os = w.os
 tape : w'.tape = w.tape
 output : w'.output = w.output
 size : w.heap.size ≤ w'.heap.size
 block : ∀ b, b < w.heap.size → ¬ S b → w'.heap[b]? = w.heap[b]?

def noBlk (_ : Nat) : Prop := False

theorem Keeps.refl (S : Nat → Prop) (w : World) : Keeps S w w := ⟨rfl, rfl, rfl, Nat.le_refl _, fun _ _ _ => rfl⟩
theorem Keeps.trans {S : Nat → Prop} {a b c : World} (h : Keeps S a b) (k : Keeps S b c) : Keeps S a c :=
 ⟨k.os.trans h.os, k.tape.trans h.tape, k.output.trans h.output, Nat.le_trans h.size k.size,
  fun i hi hs => (k.block i (Nat.lt_of_lt_of_le hi h.size) hs).trans (h.block i hi hs)⟩
theorem Keeps.more {S T : Nat → Prop} {w w' : World} (h : Keeps S w w') (hT : ∀ b, b < w.heap.size → S b → T b) : Keeps T w w' :=
 ⟨h.os, h.tape, h.output, h.size, fun i hi hs => h.block i hi (fun hS => hs (hT i hi hS))⟩
theorem Keeps.then {S T : Nat → Prop} {a b c : World} (h : Keeps S a b) (k : Keeps T b c) (hT : ∀ i, i < a.heap.size → T i → S i) : Keeps S a c :=
 ⟨k.os.trans h.os, k.tape.trans h.tape, k.output.trans h.output, Nat.le_trans h.size k.size,
  fun i hi hs => (k.block i (Nat.lt_of_lt_of_le hi h.size) (fun ht => hs (hT i hi ht))).trans (h.block i hi hs)⟩
theorem Keeps.drewN {S : Nat → Prop} {a w : World} (h : Keeps S a w) (n : Nat) : Keeps S a (w.drewN n) := ⟨h.os, h.tape, h.output, h.size, h.block⟩
theorem Keeps.drew {S : Nat → Prop} {a w : World} (h : Keeps S a w) : Keeps S a w.drew := ⟨h.os, h.tape, h.output, h.size, h.block⟩
theorem Keeps.qt {S : Nat → Prop} {a w w' : World} (h : Keeps S a w) (k : Qt w w') : Keeps S a w' := by
 obtain ⟨q, rfl⟩ := k; exact h.drewN q
theorem Qt.keeps {w w' : World} (h : Qt w w') (S : Nat → Prop) : Keeps S w w' := (Keeps.refl S w).qt h
theorem Keeps.alloc {S : Nat → Prop} {a w : World} (h : Keeps S a w) (o : Obj) : Keeps S a (w.alloc o) :=
 ⟨h.os, h.tape, h.output, Nat.le_trans h.size (by simp), fun i hi hs => (Below.heap_alloc w o i (Nat.lt_of_lt_of_le hi h.size)).trans (h.block i hi hs)⟩
theorem Keeps.setCell {S : Nat → Prop} {a w : World} (h : Keeps S a w) {p : Addr} (hp : a.heap.size ≤ p.block ∨ S p.block) (u : Value) : Keeps S a (w.setCell p u) :=
 ⟨h.os, h.tape, h.output, by simpa [World.setCell] using h.size, fun i hi hs => (Below.heap_setCell w p u i (by
  rintro rfl
  rcases hp with hp | hp
  ·omega
  ·exact hs hp)).trans (h.block i hi hs)⟩
theorem Below.keeps {w w' : World} (h : Below w.heap.size w w') (S : Nat → Prop) : Keeps S w w' := ⟨h.os, h.tape, h.output, h.size, fun i hi _ => h.block i hi⟩
theorem Keeps.below {w w' : World} (h : Keeps noBlk w w') : Below w.heap.size w w' := ⟨h.os, h.tape, h.output, h.size, fun i hi => h.block i hi (fun x => x)⟩
theorem Keeps.of_grown {w w' : World} {row : Option Nat} (h : w.grownBy w' row) : Keeps (fun b => row = some b) w w' :=
 ⟨h.os, h.tape, h.output, h.size, fun i hi hs => h.block i hi (fun e => hs e.symm)⟩
theorem Keeps.cell {S : Nat → Prop} {w w' : World} (h : Keeps S w w') {b o : Nat} (hb : b < w.heap.size) (hs : ¬ S b) : w'.cell? ⟨b, o, none⟩ = w.cell? ⟨b, o, none⟩ :=
 World.cell?_of_block (h.block b hb hs)
theorem Keeps.frozen {S : Nat → Prop} {w w' : World} (h : Keeps S w w') {b o : Nat} (hb : b < w.heap.size) (hs : ¬ S b) : w'.frozen? ⟨b, o, none⟩ = w.frozen? ⟨b, o, none⟩ :=
 World.frozen?_of_block (h.block b hb hs)

theorem Ints.keeps {S : Nat → Prop} {w w' : World} {A : Option Addr} {n : Nat} {xs : List Int} (h : Ints w A n xs) (hk : Keeps S w w') (hs : ∀ b, blk A n b → ¬ S b) : Ints w' A n xs :=
 ⟨h.1, fun hn => by
  obtain ⟨b, off, e, hb, hc⟩ := h.2 hn
  exact ⟨b, off, e, Nat.lt_of_lt_of_le hb hk.size, fun j x hx => (hk.cell hb (hs b ⟨hn, _, e, rfl⟩)).trans (hc j x hx)⟩⟩

def Row (w : World) (lo : Nat) (A : Option Addr) (n : Nat) (xs : List Int) : Prop :=
 Ints w A n xs ∧ (0 < n → ∃ b off, A = some ⟨b, off, none⟩ ∧ lo ≤ b ∧ ∀ j, j < n → w.frozen? ⟨b, off + j, none⟩ = false)

theorem Row.ints {w : World} {lo : Nat} {A : Option Addr} {n : Nat} {xs : List Int} (h : Row w lo A n xs) : Ints w A n xs := h.1
theorem Row.nil (w : World) (lo : Nat) (A : Option Addr) : Row w lo A 0 [] := ⟨Ints.nil w A, fun h => absurd h (by omega)⟩
theorem Row.less {w : World} {lo lo' : Nat} {A : Option Addr} {n : Nat} {xs : List Int} (h : Row w lo A n xs) (hl : lo' ≤ lo) : Row w lo' A n xs :=
 ⟨h.1, fun hn => by
  obtain ⟨b, off, e, hb, hf⟩ := h.2 hn
  exact ⟨b, off, e, by omega, hf⟩⟩
theorem Row.keeps {S : Nat → Prop} {w w' : World} {lo : Nat} {A : Option Addr} {n : Nat} {xs : List Int} (h : Row w lo A n xs) (hk : Keeps S w w') (hs : ∀ b, blk A n b → ¬ S b) : Row w' lo A n xs :=
 ⟨h.1.keeps hk hs, fun hn => by
  obtain ⟨b, off, e, hb, hf⟩ := h.2 hn; obtain ⟨b', off', e', hb', _⟩ := h.1.2 hn; rw [e] at e'
  injection e' with e'
  injection e' with e1 e2
  subst e1
  exact ⟨b, off, e, hb, fun j hj => (hk.frozen hb' (hs b ⟨hn, _, e, rfl⟩)).trans (hf j hj)⟩⟩
theorem Row.at_ {w : World} {lo : Nat} {A : Option Addr} {n k : Nat} {xs : List Int} (h : Row w lo A n xs) (hk : k < n) :
  ∃ b off, A = some ⟨b, off, none⟩ ∧ lo ≤ b ∧ b < w.heap.size ∧ w.cell? ⟨b, off + k, none⟩ = some (.int .i64 (xs.getD k 0)) ∧ w.frozen? ⟨b, off + k, none⟩ = false := by
 obtain ⟨b, off, e, hb, hc⟩ := h.1.at_ hk; obtain ⟨b', off', e', hl, hf⟩ := h.2 (by omega); rw [e] at e'
 injection e' with e'
 injection e' with e1 e2
 subst e1; subst e2; exact ⟨b, off, e, hl, hb, hc, hf k hk⟩

theorem Ints.lt {w : World} {A : Option Addr} {n : Nat} {xs : List Int} (h : Ints w A n xs) {b : Nat} (hb : blk A n b) : b < w.heap.size := by
 obtain ⟨hn, a, rfl, rfl⟩ := hb; obtain ⟨b, off, e, hl, _⟩ := h.2 hn
 injection e with e
 subst e; exact hl
theorem Row.lt {w : World} {lo : Nat} {A : Option Addr} {n : Nat} {xs : List Int} (h : Row w lo A n xs) {b : Nat} (hb : blk A n b) : b < w.heap.size := h.1.lt hb
theorem Row.ge {w : World} {lo : Nat} {A : Option Addr} {n : Nat} {xs : List Int} (h : Row w lo A n xs) {b : Nat} (hb : blk A n b) : lo ≤ b := by
 obtain ⟨hn, a, rfl, rfl⟩ := hb; obtain ⟨b, off, e, hl, _⟩ := h.2 hn
 injection e with e
 subst e; exact hl
theorem Row.alloc {w : World} {lo : Nat} {A : Option Addr} {n : Nat} {xs : List Int} (h : Row w lo A n xs) (o : Obj) : Row (w.alloc o) lo A n xs :=
 h.keeps ((Keeps.refl noBlk w).alloc o) fun _ _ x => x

theorem Ints.set_ {w : World} {b off n k : Nat} {xs : List Int} (h : Ints w (some ⟨b, off, none⟩) n xs) (hk : k < n) (x : Int) :
  Ints (w.setCell ⟨b, off + k, none⟩ (.int .i64 x)) (some ⟨b, off, none⟩) n (xs.set k x) := by
 obtain ⟨hl, h2⟩ := h; refine ⟨by simpa using hl, fun hn => ?_⟩; obtain ⟨b', off', e', hb, hc⟩ := h2 hn
 injection e' with e'
 injection e' with e1 e2
 subst e1; subst e2; refine ⟨b, off, rfl, by simpa [World.setCell] using hb, fun j y hy => ?_⟩
 have hjl : j < xs.length := by
  have := (List.getElem?_eq_some_iff.1 hy).1
  simpa using this
 by_cases hjk : j = k
 ·subst hjk
  have : y = x := by
   rw [List.getElem?_set_self (by omega)] at hy
   injection hy with hy
   exact hy.symm
  subst this; exact World.cell?_setCell_same _ _ _ (hc j _ (List.getElem?_eq_getElem hjl))
 ·rw [List.getElem?_set_ne (by omega)] at hy
  rw [World.cell?_setCell_other _ _ _ _ (by intro e; injection e with _ e; omega)]; exact hc j y hy
theorem Row.set_ {w : World} {lo b off n k : Nat} {xs : List Int} (h : Row w lo (some ⟨b, off, none⟩) n xs) (hk : k < n) (x : Int) :
  Row (w.setCell ⟨b, off + k, none⟩ (.int .i64 x)) lo (some ⟨b, off, none⟩) n (xs.set k x) :=
 ⟨h.1.set_ hk x, fun hn => by
  obtain ⟨b', off', e', hl, hf⟩ := h.2 hn
  exact ⟨b', off', e', hl, fun j hj => by rw [World.frozen?_setCell]; exact hf j hj⟩⟩
theorem Row.drew {w : World} {lo : Nat} {A : Option Addr} {n : Nat} {xs : List Int} (h : Row w lo A n xs) : Row w.drew lo A n xs := h
theorem Row.drewN {w : World} {lo : Nat} {A : Option Addr} {n : Nat} {xs : List Int} (h : Row w lo A n xs) (k : Nat) : Row (w.drewN k) lo A n xs := h
theorem Row.qt {w w' : World} {lo : Nat} {A : Option Addr} {n : Nat} {xs : List Int} (h : Row w lo A n xs) (k : Qt w w') : Row w' lo A n xs := by
 obtain ⟨q, rfl⟩ := k; exact h
theorem Ints.qt {w w' : World} {A : Option Addr} {n : Nat} {xs : List Int} (h : Ints w A n xs) (k : Qt w w') : Ints w' A n xs := by
 obtain ⟨q, rfl⟩ := k; exact h
theorem Row.made (w : World) (t : TypeId) (cs : Array Value) (n : Nat) (xs : List Int) (hl : xs.length = n) (hc : ∀ (j : Nat) (x : Int), xs[j]? = some x → cs[j]? = some (Value.int .i64 x)) :
  Row (w.alloc (.cells cs t)) w.heap.size (some ⟨w.heap.size, 0, none⟩) n xs :=
 ⟨⟨hl, fun _ => ⟨_, _, rfl, by simp, fun j x hx => by
   rw [Nat.zero_add, World.cell?_alloc_new]
   exact hc j x hx⟩⟩,
  fun _ => ⟨_, _, rfl, Nat.le_refl _, fun j _ => World.frozen?_alloc_new w cs t _⟩⟩

theorem Row.made' (w : World) (lo g : Nat) (hg : g = w.heap.size) (hlo : lo ≤ g) (t : TypeId) (cs : Array Value) (n : Nat) (xs : List Int) (hl : xs.length = n)
  (hc : ∀ (j : Nat) (x : Int), xs[j]? = some x → cs[j]? = some (Value.int .i64 x)) : Row (w.alloc (.cells cs t)) lo (some ⟨g, 0, none⟩) n xs := by
 subst hg; exact (Row.made w t cs n xs hl hc).less hlo
theorem blk_some {a : Addr} {n b : Nat} (h : blk (some a) n b) : a.block = b := by
 obtain ⟨_, x, e, hx⟩ := h
 injection e with e
 subst e; exact hx
theorem blk_mk {a : Addr} {n : Nat} (h : 0 < n) : blk (some a) n a.block := ⟨h, a, rfl, rfl⟩

def Box (w : World) (g : Nat) (t : TypeId) (cs : Array Value) : Prop := w.heap[g]? = some (.cells cs t (0, 0))
theorem Box.lt {w : World} {g : Nat} {t : TypeId} {cs : Array Value} (h : Box w g t cs) : g < w.heap.size := by
 rcases Nat.lt_or_ge g w.heap.size with hlt | hge
 ·exact hlt
 ·unfold Box at h
  rw [Array.getElem?_eq_none hge] at h
  cases h
theorem Box.cell {w : World} {g : Nat} {t : TypeId} {cs : Array Value} (h : Box w g t cs) (i : Nat) : w.cell? ⟨g, i, none⟩ = cs[i]? := cell_of_row w g i cs t (0, 0) h
theorem Box.frozen {w : World} {g : Nat} {t : TypeId} {cs : Array Value} (h : Box w g t cs) (i : Nat) : w.frozen? ⟨g, i, none⟩ = false := by
 unfold Box at h; simp [World.frozen?, h]
theorem sx : (∀ (α : Type) (l : List α) (i : Nat) (a : α), l.toArray.setIfInBounds i a = (l.set i a).toArray) ∧ (∀ (α : Type) (b a : α) (l : List α), (b :: l).set 0 a = a :: l) ∧ (∀ (α : Type) (b a : α) (n : Nat) (l : List α), (b :: l).set (n + 1) a = b :: l.set n a) :=
 ⟨fun _ l i a => by simp, fun _ _ _ _ => rfl, fun _ _ _ _ _ => rfl⟩
theorem Box.cells2 {w : World} {g : Nat} {t : TypeId} {v0 v1 : Value} (h : Box w g t #[v0, v1]) : w.cell? ⟨g, 0, none⟩ = some v0 ∧ w.cell? ⟨g, 1, none⟩ = some v1 := ⟨h.cell 0, h.cell 1⟩
theorem Box.fz3 {w : World} {g : Nat} {t : TypeId} {cs : Array Value} (h : Box w g t cs) : w.frozen? ⟨g, 0, none⟩ = false ∧ w.frozen? ⟨g, 1, none⟩ = false ∧ w.frozen? ⟨g, 2, none⟩ = false := ⟨h.frozen 0, h.frozen 1, h.frozen 2⟩
theorem Box.cells7 {w : World} {g : Nat} {t : TypeId} {v0 v1 v2 v3 v4 v5 v6 : Value} (h : Box w g t #[v0, v1, v2, v3, v4, v5, v6]) : w.cell? ⟨g, 0, none⟩ = some v0 ∧ w.cell? ⟨g, 1, none⟩ = some v1 ∧ w.cell? ⟨g, 2, none⟩ = some v2 ∧ w.cell? ⟨g, 3, none⟩ = some v3 ∧ w.cell? ⟨g, 4, none⟩ = some v4 ∧ w.cell? ⟨g, 5, none⟩ = some v5 ∧ w.cell? ⟨g, 6, none⟩ = some v6 := ⟨h.cell 0, h.cell 1, h.cell 2, h.cell 3, h.cell 4, h.cell 5, h.cell 6⟩
theorem Box.fz7 {w : World} {g : Nat} {t : TypeId} {cs : Array Value} (h : Box w g t cs) : w.frozen? ⟨g, 0, none⟩ = false ∧ w.frozen? ⟨g, 1, none⟩ = false ∧ w.frozen? ⟨g, 2, none⟩ = false ∧ w.frozen? ⟨g, 3, none⟩ = false ∧ w.frozen? ⟨g, 4, none⟩ = false ∧ w.frozen? ⟨g, 5, none⟩ = false ∧ w.frozen? ⟨g, 6, none⟩ = false := ⟨h.frozen 0, h.frozen 1, h.frozen 2, h.frozen 3, h.frozen 4, h.frozen 5, h.frozen 6⟩
theorem Box.cells11 {w : World} {g : Nat} {t : TypeId} {v0 v1 v2 v3 v4 v5 v6 v7 v8 v9 v10 : Value} (h : Box w g t #[v0, v1, v2, v3, v4, v5, v6, v7, v8, v9, v10]) : w.cell? ⟨g, 0, none⟩ = some v0 ∧ w.cell? ⟨g, 1, none⟩ = some v1 ∧ w.cell? ⟨g, 2, none⟩ = some v2 ∧ w.cell? ⟨g, 3, none⟩ = some v3 ∧ w.cell? ⟨g, 4, none⟩ = some v4 ∧ w.cell? ⟨g, 5, none⟩ = some v5 ∧ w.cell? ⟨g, 6, none⟩ = some v6 ∧ w.cell? ⟨g, 7, none⟩ = some v7 ∧ w.cell? ⟨g, 8, none⟩ = some v8 ∧ w.cell? ⟨g, 9, none⟩ = some v9 ∧ w.cell? ⟨g, 10, none⟩ = some v10 := ⟨h.cell 0, h.cell 1, h.cell 2, h.cell 3, h.cell 4, h.cell 5, h.cell 6, h.cell 7, h.cell 8, h.cell 9, h.cell 10⟩
theorem Box.fz11 {w : World} {g : Nat} {t : TypeId} {cs : Array Value} (h : Box w g t cs) : w.frozen? ⟨g, 0, none⟩ = false ∧ w.frozen? ⟨g, 1, none⟩ = false ∧ w.frozen? ⟨g, 2, none⟩ = false ∧ w.frozen? ⟨g, 3, none⟩ = false ∧ w.frozen? ⟨g, 4, none⟩ = false ∧ w.frozen? ⟨g, 5, none⟩ = false ∧ w.frozen? ⟨g, 6, none⟩ = false ∧ w.frozen? ⟨g, 7, none⟩ = false ∧ w.frozen? ⟨g, 8, none⟩ = false ∧ w.frozen? ⟨g, 9, none⟩ = false ∧ w.frozen? ⟨g, 10, none⟩ = false := ⟨h.frozen 0, h.frozen 1, h.frozen 2, h.frozen 3, h.frozen 4, h.frozen 5, h.frozen 6, h.frozen 7, h.frozen 8, h.frozen 9, h.frozen 10⟩
theorem Box.cells13 {w : World} {g : Nat} {t : TypeId} {v0 v1 v2 v3 v4 v5 v6 v7 v8 v9 v10 v11 v12 : Value} (h : Box w g t #[v0, v1, v2, v3, v4, v5, v6, v7, v8, v9, v10, v11, v12]) : w.cell? ⟨g, 0, none⟩ = some v0 ∧ w.cell? ⟨g, 1, none⟩ = some v1 ∧ w.cell? ⟨g, 2, none⟩ = some v2 ∧ w.cell? ⟨g, 3, none⟩ = some v3 ∧ w.cell? ⟨g, 4, none⟩ = some v4 ∧ w.cell? ⟨g, 5, none⟩ = some v5 ∧ w.cell? ⟨g, 6, none⟩ = some v6 ∧ w.cell? ⟨g, 7, none⟩ = some v7 ∧ w.cell? ⟨g, 8, none⟩ = some v8 ∧ w.cell? ⟨g, 9, none⟩ = some v9 ∧ w.cell? ⟨g, 10, none⟩ = some v10 ∧ w.cell? ⟨g, 11, none⟩ = some v11 ∧ w.cell? ⟨g, 12, none⟩ = some v12 := ⟨h.cell 0, h.cell 1, h.cell 2, h.cell 3, h.cell 4, h.cell 5, h.cell 6, h.cell 7, h.cell 8, h.cell 9, h.cell 10, h.cell 11, h.cell 12⟩
theorem Box.fz13 {w : World} {g : Nat} {t : TypeId} {cs : Array Value} (h : Box w g t cs) : w.frozen? ⟨g, 0, none⟩ = false ∧ w.frozen? ⟨g, 1, none⟩ = false ∧ w.frozen? ⟨g, 2, none⟩ = false ∧ w.frozen? ⟨g, 3, none⟩ = false ∧ w.frozen? ⟨g, 4, none⟩ = false ∧ w.frozen? ⟨g, 5, none⟩ = false ∧ w.frozen? ⟨g, 6, none⟩ = false ∧ w.frozen? ⟨g, 7, none⟩ = false ∧ w.frozen? ⟨g, 8, none⟩ = false ∧ w.frozen? ⟨g, 9, none⟩ = false ∧ w.frozen? ⟨g, 10, none⟩ = false ∧ w.frozen? ⟨g, 11, none⟩ = false ∧ w.frozen? ⟨g, 12, none⟩ = false := ⟨h.frozen 0, h.frozen 1, h.frozen 2, h.frozen 3, h.frozen 4, h.frozen 5, h.frozen 6, h.frozen 7, h.frozen 8, h.frozen 9, h.frozen 10, h.frozen 11, h.frozen 12⟩
theorem Box.new (w : World) (g : Nat) (hg : g = w.heap.size) (t : TypeId) (cs : Array Value) : Box (w.alloc (.cells cs t)) g t cs := by
 subst hg; exact heap_alloc_new w _
theorem Box.keeps {S : Nat → Prop} {w w' : World} {g : Nat} {t : TypeId} {cs : Array Value} (h : Box w g t cs) (hk : Keeps S w w') (hs : ¬ S g) : Box w' g t cs := (hk.block g h.lt hs).trans h
theorem Box.alloc {w : World} {g : Nat} {t : TypeId} {cs : Array Value} (h : Box w g t cs) (o : Obj) : Box (w.alloc o) g t cs := h.keeps ((Keeps.refl noBlk w).alloc o) fun x => x
theorem Box.drew {w : World} {g : Nat} {t : TypeId} {cs : Array Value} (h : Box w g t cs) : Box w.drew g t cs := h
theorem Box.drewN {w : World} {g : Nat} {t : TypeId} {cs : Array Value} (h : Box w g t cs) (n : Nat) : Box (w.drewN n) g t cs := h
theorem Box.set_ {w : World} {g : Nat} {t : TypeId} {cs : Array Value} (h : Box w g t cs) (i : Nat) (u : Value) : Box (w.setCell ⟨g, i, none⟩ u) g t (cs.setIfInBounds i u) := by
 unfold Box at h ⊢; simp [World.setCell, Array.getElem?_modify, h]
theorem Box.far {w : World} {g : Nat} {t : TypeId} {cs : Array Value} (h : Box w g t cs) {p : Addr} (hp : g ≠ p.block) (u : Value) : Box (w.setCell p u) g t cs := (Below.heap_setCell w p u g hp).trans h
theorem Row.far {w : World} {lo : Nat} {A : Option Addr} {n : Nat} {xs : List Int} (h : Row w lo A n xs) {p : Addr} (hp : ¬ blk A n p.block) (u : Value) : Row (w.setCell p u) lo A n xs :=
 h.keeps (S := fun b => b = p.block) ((Keeps.refl (fun b => b = p.block) w).setCell (p := p) (.inr rfl) u) fun b hb e => hp (by subst e; exact hb)
theorem Ints.far {w : World} {A : Option Addr} {n : Nat} {xs : List Int} (h : Ints w A n xs) {p : Addr} (hp : ¬ blk A n p.block) (u : Value) : Ints (w.setCell p u) A n xs :=
 h.keeps (S := fun b => b = p.block) ((Keeps.refl (fun b => b = p.block) w).setCell (p := p) (.inr rfl) u) fun b hb e => hp (by subst e; exact hb)

def one (g b : Nat) : Prop := b = g
def two (g h b : Nat) : Prop := b = g ∨ b = h
theorem Keeps.set1 {g : Nat} {a w : World} (k : Keeps (one g) a w) (o : Nat) (u : Value) : Keeps (one g) a (w.setCell ⟨g, o, none⟩ u) := k.setCell (p := ⟨g, o, none⟩) (.inr rfl) u
theorem Keeps.setA {g h : Nat} {a w : World} (k : Keeps (two g h) a w) (o : Nat) (u : Value) : Keeps (two g h) a (w.setCell ⟨g, o, none⟩ u) := k.setCell (p := ⟨g, o, none⟩) (.inr (.inl rfl)) u
theorem Keeps.setB {g h : Nat} {a w : World} (k : Keeps (two g h) a w) (o : Nat) (u : Value) : Keeps (two g h) a (w.setCell ⟨h, o, none⟩ u) := k.setCell (p := ⟨h, o, none⟩) (.inr (.inr rfl)) u
theorem Keeps.new {g : Nat} {a w : World} (k : Keeps noBlk a w) (hg : a.heap.size ≤ g) (o : Nat) (u : Value) : Keeps noBlk a (w.setCell ⟨g, o, none⟩ u) := k.setCell (p := ⟨g, o, none⟩) (.inl hg) u
theorem Keeps.put3 {S : Nat → Prop} {a w : World} (h : Keeps S a w) (b : Nat) (hb : a.heap.size ≤ b ∨ S b) {o0 o1 o2 : Nat} {u0 u1 u2 : Value} : Keeps S a (((w.setCell ⟨b, o0, none⟩ u0).setCell ⟨b, o1, none⟩ u1).setCell ⟨b, o2, none⟩ u2) := (((h.setCell (p := ⟨b, o0, none⟩) hb u0).setCell (p := ⟨b, o1, none⟩) hb u1).setCell (p := ⟨b, o2, none⟩) hb u2)
theorem Keeps.put7 {S : Nat → Prop} {a w : World} (h : Keeps S a w) (b : Nat) (hb : a.heap.size ≤ b ∨ S b) {o0 o1 o2 o3 o4 o5 o6 : Nat} {u0 u1 u2 u3 u4 u5 u6 : Value} : Keeps S a (((((((w.setCell ⟨b, o0, none⟩ u0).setCell ⟨b, o1, none⟩ u1).setCell ⟨b, o2, none⟩ u2).setCell ⟨b, o3, none⟩ u3).setCell ⟨b, o4, none⟩ u4).setCell ⟨b, o5, none⟩ u5).setCell ⟨b, o6, none⟩ u6) := (((((((h.setCell (p := ⟨b, o0, none⟩) hb u0).setCell (p := ⟨b, o1, none⟩) hb u1).setCell (p := ⟨b, o2, none⟩) hb u2).setCell (p := ⟨b, o3, none⟩) hb u3).setCell (p := ⟨b, o4, none⟩) hb u4).setCell (p := ⟨b, o5, none⟩) hb u5).setCell (p := ⟨b, o6, none⟩) hb u6)
theorem Keeps.new7 {g : Nat} {a w : World} (k : Keeps noBlk a w) (hg : a.heap.size ≤ g) {o0 o1 o2 o3 o4 o5 o6 : Nat} {u0 u1 u2 u3 u4 u5 u6 : Value} : Keeps noBlk a (((((((w.setCell ⟨g, o0, none⟩ u0).setCell ⟨g, o1, none⟩ u1).setCell ⟨g, o2, none⟩ u2).setCell ⟨g, o3, none⟩ u3).setCell ⟨g, o4, none⟩ u4).setCell ⟨g, o5, none⟩ u5).setCell ⟨g, o6, none⟩ u6) := k.put7 g (.inl hg)
theorem Keeps.put13 {S : Nat → Prop} {a w : World} (h : Keeps S a w) (b : Nat) (hb : a.heap.size ≤ b ∨ S b) {o0 o1 o2 o3 o4 o5 o6 o7 o8 o9 o10 o11 o12 : Nat} {u0 u1 u2 u3 u4 u5 u6 u7 u8 u9 u10 u11 u12 : Value} : Keeps S a (((((((((((((w.setCell ⟨b, o0, none⟩ u0).setCell ⟨b, o1, none⟩ u1).setCell ⟨b, o2, none⟩ u2).setCell ⟨b, o3, none⟩ u3).setCell ⟨b, o4, none⟩ u4).setCell ⟨b, o5, none⟩ u5).setCell ⟨b, o6, none⟩ u6).setCell ⟨b, o7, none⟩ u7).setCell ⟨b, o8, none⟩ u8).setCell ⟨b, o9, none⟩ u9).setCell ⟨b, o10, none⟩ u10).setCell ⟨b, o11, none⟩ u11).setCell ⟨b, o12, none⟩ u12) := (((((((((((((h.setCell (p := ⟨b, o0, none⟩) hb u0).setCell (p := ⟨b, o1, none⟩) hb u1).setCell (p := ⟨b, o2, none⟩) hb u2).setCell (p := ⟨b, o3, none⟩) hb u3).setCell (p := ⟨b, o4, none⟩) hb u4).setCell (p := ⟨b, o5, none⟩) hb u5).setCell (p := ⟨b, o6, none⟩) hb u6).setCell (p := ⟨b, o7, none⟩) hb u7).setCell (p := ⟨b, o8, none⟩) hb u8).setCell (p := ⟨b, o9, none⟩) hb u9).setCell (p := ⟨b, o10, none⟩) hb u10).setCell (p := ⟨b, o11, none⟩) hb u11).setCell (p := ⟨b, o12, none⟩) hb u12)
theorem Keeps.new13 {g : Nat} {a w : World} (k : Keeps noBlk a w) (hg : a.heap.size ≤ g) {o0 o1 o2 o3 o4 o5 o6 o7 o8 o9 o10 o11 o12 : Nat} {u0 u1 u2 u3 u4 u5 u6 u7 u8 u9 u10 u11 u12 : Value} : Keeps noBlk a (((((((((((((w.setCell ⟨g, o0, none⟩ u0).setCell ⟨g, o1, none⟩ u1).setCell ⟨g, o2, none⟩ u2).setCell ⟨g, o3, none⟩ u3).setCell ⟨g, o4, none⟩ u4).setCell ⟨g, o5, none⟩ u5).setCell ⟨g, o6, none⟩ u6).setCell ⟨g, o7, none⟩ u7).setCell ⟨g, o8, none⟩ u8).setCell ⟨g, o9, none⟩ u9).setCell ⟨g, o10, none⟩ u10).setCell ⟨g, o11, none⟩ u11).setCell ⟨g, o12, none⟩ u12) := k.put13 g (.inl hg)
theorem take_eq_step {xs ys : List Int} {k : Nat} (h : xs.take k = ys.take k) (hx : k < xs.length) (hy : k < ys.length) (he : xs.getD k 0 = ys.getD k 0) :
  xs.take (k + 1) = ys.take (k + 1) := by
 rw [List.take_succ_eq_append_getElem hx, List.take_succ_eq_append_getElem hy, h]; simp [List.getD_eq_getElem?_getD, List.getElem?_eq_getElem hx, List.getElem?_eq_getElem hy] at he; rw [he]


theorem info_int : (Tryd.prog.info? 3).map (fun i => (i.zero, i.size, i.bytes)) = some (some (.int .i64 0), 1, 8) := by kernel_rfl

structure BankL where
 own : List Int
 notes : List Int
 locked : Int

def BankAt (w : World) (lo : Nat) (v : Value) (b : BankL) : Prop :=
 ∃ A1 n1 c1 A2 n2 c2, v = .agg #[.slice A1 n1 c1, .slice A2 n2 c2, .int .i64 b.locked] ∧ Row w lo A1 n1 b.own ∧ Row w lo A2 n2 b.notes ∧
  (∀ i, blk A1 n1 i → ¬ blk A2 n2 i) ∧ n1 ≤ c1 ∧ n2 ≤ c2 ∧ c1 ≤ maxLen ∧ c2 ≤ maxLen

def RetBank (w : World) (b : BankL) (e : Ending) (w' : World) : Prop := ∃ v, e = .returned v ∧ BankAt w' w.heap.size v b ∧ Keeps noBlk w w'

def newL : BankL := ⟨[10, 10, 10], [0, 0, 0], 0⟩

theorem ints3 (a b c : Int) : ∀ (j : Nat) (x : Int), [a, b, c][j]? = some x → #[Value.int .i64 a, Value.int .i64 b, Value.int .i64 c][j]? = some (Value.int .i64 x) := by
 intro j x h
 match j, h with
 | 0, h => simp at h; subst h; rfl
 | 1, h => simp at h; subst h; rfl
 | 2, h => simp at h; subst h; rfl

theorem made_ints (n : Nat) : ∀ (j : Nat) (x : Int), (List.replicate n (0 : Int))[j]? = some x → (madeCells #[Value.int .i64 0] n)[j]? = some (Value.int .i64 x) := by
 intro j x h; rw [List.getElem?_replicate] at h
 split at h
 ·injection h with h
  subst h; simp [madeCells, *, Nat.mod_one]
 ·cases h

structure GW (w : World) where
 val : World
 keep : Keeps noBlk w val
instance (w : World) : Nonempty (GW w) := ⟨⟨w, Keeps.refl _ _⟩⟩
theorem GW.cell {w : World} {b o : Nat} {v : Value} (h : w.cell? ⟨b, o, none⟩ = some v) (u : GW w) : u.val.cell? ⟨b, o, none⟩ = some v :=
 (u.keep.cell (World.block_lt_of_cell? w _ h) (fun h => h)).trans h
theorem kc26 {w W : World} {g : Nat} {p0 p1 p2 p3 p4 p5 p6 p7 p8 p9 p10 p11 p12 p13 p14 p15 p16 p17 p18 p19 p20 p21 p22 p23 p24 p25 : Nat} {v0 v1 v2 v3 v4 v5 v6 v7 v8 v9 v10 v11 v12 v13 v14 v15 v16 v17 v18 v19 v20 v21 v22 v23 v24 v25 : Value} (hk : Keeps noBlk w W) (hl : g < w.heap.size) (h0 : w.cell? ⟨g, p0, none⟩ = some v0) (h1 : w.cell? ⟨g, p1, none⟩ = some v1) (h2 : w.cell? ⟨g, p2, none⟩ = some v2) (h3 : w.cell? ⟨g, p3, none⟩ = some v3) (h4 : w.cell? ⟨g, p4, none⟩ = some v4) (h5 : w.cell? ⟨g, p5, none⟩ = some v5) (h6 : w.cell? ⟨g, p6, none⟩ = some v6) (h7 : w.cell? ⟨g, p7, none⟩ = some v7) (h8 : w.cell? ⟨g, p8, none⟩ = some v8) (h9 : w.cell? ⟨g, p9, none⟩ = some v9) (h10 : w.cell? ⟨g, p10, none⟩ = some v10) (h11 : w.cell? ⟨g, p11, none⟩ = some v11) (h12 : w.cell? ⟨g, p12, none⟩ = some v12) (h13 : w.cell? ⟨g, p13, none⟩ = some v13) (h14 : w.cell? ⟨g, p14, none⟩ = some v14) (h15 : w.cell? ⟨g, p15, none⟩ = some v15) (h16 : w.cell? ⟨g, p16, none⟩ = some v16) (h17 : w.cell? ⟨g, p17, none⟩ = some v17) (h18 : w.cell? ⟨g, p18, none⟩ = some v18) (h19 : w.cell? ⟨g, p19, none⟩ = some v19) (h20 : w.cell? ⟨g, p20, none⟩ = some v20) (h21 : w.cell? ⟨g, p21, none⟩ = some v21) (h22 : w.cell? ⟨g, p22, none⟩ = some v22) (h23 : w.cell? ⟨g, p23, none⟩ = some v23) (h24 : w.cell? ⟨g, p24, none⟩ = some v24) (h25 : w.cell? ⟨g, p25, none⟩ = some v25) : W.cell? ⟨g, p0, none⟩ = some v0 ∧ W.cell? ⟨g, p1, none⟩ = some v1 ∧ W.cell? ⟨g, p2, none⟩ = some v2 ∧ W.cell? ⟨g, p3, none⟩ = some v3 ∧ W.cell? ⟨g, p4, none⟩ = some v4 ∧ W.cell? ⟨g, p5, none⟩ = some v5 ∧ W.cell? ⟨g, p6, none⟩ = some v6 ∧ W.cell? ⟨g, p7, none⟩ = some v7 ∧ W.cell? ⟨g, p8, none⟩ = some v8 ∧ W.cell? ⟨g, p9, none⟩ = some v9 ∧ W.cell? ⟨g, p10, none⟩ = some v10 ∧ W.cell? ⟨g, p11, none⟩ = some v11 ∧ W.cell? ⟨g, p12, none⟩ = some v12 ∧ W.cell? ⟨g, p13, none⟩ = some v13 ∧ W.cell? ⟨g, p14, none⟩ = some v14 ∧ W.cell? ⟨g, p15, none⟩ = some v15 ∧ W.cell? ⟨g, p16, none⟩ = some v16 ∧ W.cell? ⟨g, p17, none⟩ = some v17 ∧ W.cell? ⟨g, p18, none⟩ = some v18 ∧ W.cell? ⟨g, p19, none⟩ = some v19 ∧ W.cell? ⟨g, p20, none⟩ = some v20 ∧ W.cell? ⟨g, p21, none⟩ = some v21 ∧ W.cell? ⟨g, p22, none⟩ = some v22 ∧ W.cell? ⟨g, p23, none⟩ = some v23 ∧ W.cell? ⟨g, p24, none⟩ = some v24 ∧ W.cell? ⟨g, p25, none⟩ = some v25 :=
 ⟨(hk.cell hl (fun h => h)).trans h0, (hk.cell hl (fun h => h)).trans h1, (hk.cell hl (fun h => h)).trans h2, (hk.cell hl (fun h => h)).trans h3, (hk.cell hl (fun h => h)).trans h4, (hk.cell hl (fun h => h)).trans h5, (hk.cell hl (fun h => h)).trans h6, (hk.cell hl (fun h => h)).trans h7, (hk.cell hl (fun h => h)).trans h8, (hk.cell hl (fun h => h)).trans h9, (hk.cell hl (fun h => h)).trans h10, (hk.cell hl (fun h => h)).trans h11, (hk.cell hl (fun h => h)).trans h12, (hk.cell hl (fun h => h)).trans h13, (hk.cell hl (fun h => h)).trans h14, (hk.cell hl (fun h => h)).trans h15, (hk.cell hl (fun h => h)).trans h16, (hk.cell hl (fun h => h)).trans h17, (hk.cell hl (fun h => h)).trans h18, (hk.cell hl (fun h => h)).trans h19, (hk.cell hl (fun h => h)).trans h20, (hk.cell hl (fun h => h)).trans h21, (hk.cell hl (fun h => h)).trans h22, (hk.cell hl (fun h => h)).trans h23, (hk.cell hl (fun h => h)).trans h24, (hk.cell hl (fun h => h)).trans h25⟩
theorem gw26 {w : World} {b0 b1 b2 b3 b4 b5 b6 b7 b8 b9 b10 b11 b12 b13 b14 b15 b16 b17 b18 b19 b20 b21 b22 b23 b24 b25 p0 p1 p2 p3 p4 p5 p6 p7 p8 p9 p10 p11 p12 p13 p14 p15 p16 p17 p18 p19 p20 p21 p22 p23 p24 p25 : Nat} {v0 v1 v2 v3 v4 v5 v6 v7 v8 v9 v10 v11 v12 v13 v14 v15 v16 v17 v18 v19 v20 v21 v22 v23 v24 v25 : Value} (h0 : w.cell? ⟨b0, p0, none⟩ = some v0) (h1 : w.cell? ⟨b1, p1, none⟩ = some v1) (h2 : w.cell? ⟨b2, p2, none⟩ = some v2) (h3 : w.cell? ⟨b3, p3, none⟩ = some v3) (h4 : w.cell? ⟨b4, p4, none⟩ = some v4) (h5 : w.cell? ⟨b5, p5, none⟩ = some v5) (h6 : w.cell? ⟨b6, p6, none⟩ = some v6) (h7 : w.cell? ⟨b7, p7, none⟩ = some v7) (h8 : w.cell? ⟨b8, p8, none⟩ = some v8) (h9 : w.cell? ⟨b9, p9, none⟩ = some v9) (h10 : w.cell? ⟨b10, p10, none⟩ = some v10) (h11 : w.cell? ⟨b11, p11, none⟩ = some v11) (h12 : w.cell? ⟨b12, p12, none⟩ = some v12) (h13 : w.cell? ⟨b13, p13, none⟩ = some v13) (h14 : w.cell? ⟨b14, p14, none⟩ = some v14) (h15 : w.cell? ⟨b15, p15, none⟩ = some v15) (h16 : w.cell? ⟨b16, p16, none⟩ = some v16) (h17 : w.cell? ⟨b17, p17, none⟩ = some v17) (h18 : w.cell? ⟨b18, p18, none⟩ = some v18) (h19 : w.cell? ⟨b19, p19, none⟩ = some v19) (h20 : w.cell? ⟨b20, p20, none⟩ = some v20) (h21 : w.cell? ⟨b21, p21, none⟩ = some v21) (h22 : w.cell? ⟨b22, p22, none⟩ = some v22) (h23 : w.cell? ⟨b23, p23, none⟩ = some v23) (h24 : w.cell? ⟨b24, p24, none⟩ = some v24) (h25 : w.cell? ⟨b25, p25, none⟩ = some v25) : (∀ U : GW w, U.val.cell? ⟨b0, p0, none⟩ = some v0) ∧ (∀ U : GW w, U.val.cell? ⟨b1, p1, none⟩ = some v1) ∧ (∀ U : GW w, U.val.cell? ⟨b2, p2, none⟩ = some v2) ∧ (∀ U : GW w, U.val.cell? ⟨b3, p3, none⟩ = some v3) ∧ (∀ U : GW w, U.val.cell? ⟨b4, p4, none⟩ = some v4) ∧ (∀ U : GW w, U.val.cell? ⟨b5, p5, none⟩ = some v5) ∧ (∀ U : GW w, U.val.cell? ⟨b6, p6, none⟩ = some v6) ∧ (∀ U : GW w, U.val.cell? ⟨b7, p7, none⟩ = some v7) ∧ (∀ U : GW w, U.val.cell? ⟨b8, p8, none⟩ = some v8) ∧ (∀ U : GW w, U.val.cell? ⟨b9, p9, none⟩ = some v9) ∧ (∀ U : GW w, U.val.cell? ⟨b10, p10, none⟩ = some v10) ∧ (∀ U : GW w, U.val.cell? ⟨b11, p11, none⟩ = some v11) ∧ (∀ U : GW w, U.val.cell? ⟨b12, p12, none⟩ = some v12) ∧ (∀ U : GW w, U.val.cell? ⟨b13, p13, none⟩ = some v13) ∧ (∀ U : GW w, U.val.cell? ⟨b14, p14, none⟩ = some v14) ∧ (∀ U : GW w, U.val.cell? ⟨b15, p15, none⟩ = some v15) ∧ (∀ U : GW w, U.val.cell? ⟨b16, p16, none⟩ = some v16) ∧ (∀ U : GW w, U.val.cell? ⟨b17, p17, none⟩ = some v17) ∧ (∀ U : GW w, U.val.cell? ⟨b18, p18, none⟩ = some v18) ∧ (∀ U : GW w, U.val.cell? ⟨b19, p19, none⟩ = some v19) ∧ (∀ U : GW w, U.val.cell? ⟨b20, p20, none⟩ = some v20) ∧ (∀ U : GW w, U.val.cell? ⟨b21, p21, none⟩ = some v21) ∧ (∀ U : GW w, U.val.cell? ⟨b22, p22, none⟩ = some v22) ∧ (∀ U : GW w, U.val.cell? ⟨b23, p23, none⟩ = some v23) ∧ (∀ U : GW w, U.val.cell? ⟨b24, p24, none⟩ = some v24) ∧ (∀ U : GW w, U.val.cell? ⟨b25, p25, none⟩ = some v25) :=
 ⟨fun U => GW.cell h0 U, fun U => GW.cell h1 U, fun U => GW.cell h2 U, fun U => GW.cell h3 U, fun U => GW.cell h4 U, fun U => GW.cell h5 U, fun U => GW.cell h6 U, fun U => GW.cell h7 U, fun U => GW.cell h8 U, fun U => GW.cell h9 U, fun U => GW.cell h10 U, fun U => GW.cell h11 U, fun U => GW.cell h12 U, fun U => GW.cell h13 U, fun U => GW.cell h14 U, fun U => GW.cell h15 U, fun U => GW.cell h16 U, fun U => GW.cell h17 U, fun U => GW.cell h18 U, fun U => GW.cell h19 U, fun U => GW.cell h20 U, fun U => GW.cell h21 U, fun U => GW.cell h22 U, fun U => GW.cell h23 U, fun U => GW.cell h24 U, fun U => GW.cell h25 U⟩
theorem kc13 {w W : World} {g : Nat} {p0 p1 p2 p3 p4 p5 p6 p7 p8 p9 p10 p11 p12 : Nat} {v0 v1 v2 v3 v4 v5 v6 v7 v8 v9 v10 v11 v12 : Value} (hk : Keeps noBlk w W) (hl : g < w.heap.size) (h0 : w.cell? ⟨g, p0, none⟩ = some v0) (h1 : w.cell? ⟨g, p1, none⟩ = some v1) (h2 : w.cell? ⟨g, p2, none⟩ = some v2) (h3 : w.cell? ⟨g, p3, none⟩ = some v3) (h4 : w.cell? ⟨g, p4, none⟩ = some v4) (h5 : w.cell? ⟨g, p5, none⟩ = some v5) (h6 : w.cell? ⟨g, p6, none⟩ = some v6) (h7 : w.cell? ⟨g, p7, none⟩ = some v7) (h8 : w.cell? ⟨g, p8, none⟩ = some v8) (h9 : w.cell? ⟨g, p9, none⟩ = some v9) (h10 : w.cell? ⟨g, p10, none⟩ = some v10) (h11 : w.cell? ⟨g, p11, none⟩ = some v11) (h12 : w.cell? ⟨g, p12, none⟩ = some v12) : W.cell? ⟨g, p0, none⟩ = some v0 ∧ W.cell? ⟨g, p1, none⟩ = some v1 ∧ W.cell? ⟨g, p2, none⟩ = some v2 ∧ W.cell? ⟨g, p3, none⟩ = some v3 ∧ W.cell? ⟨g, p4, none⟩ = some v4 ∧ W.cell? ⟨g, p5, none⟩ = some v5 ∧ W.cell? ⟨g, p6, none⟩ = some v6 ∧ W.cell? ⟨g, p7, none⟩ = some v7 ∧ W.cell? ⟨g, p8, none⟩ = some v8 ∧ W.cell? ⟨g, p9, none⟩ = some v9 ∧ W.cell? ⟨g, p10, none⟩ = some v10 ∧ W.cell? ⟨g, p11, none⟩ = some v11 ∧ W.cell? ⟨g, p12, none⟩ = some v12 :=
 ⟨(hk.cell hl (fun h => h)).trans h0, (hk.cell hl (fun h => h)).trans h1, (hk.cell hl (fun h => h)).trans h2, (hk.cell hl (fun h => h)).trans h3, (hk.cell hl (fun h => h)).trans h4, (hk.cell hl (fun h => h)).trans h5, (hk.cell hl (fun h => h)).trans h6, (hk.cell hl (fun h => h)).trans h7, (hk.cell hl (fun h => h)).trans h8, (hk.cell hl (fun h => h)).trans h9, (hk.cell hl (fun h => h)).trans h10, (hk.cell hl (fun h => h)).trans h11, (hk.cell hl (fun h => h)).trans h12⟩
theorem gw13 {w : World} {b0 b1 b2 b3 b4 b5 b6 b7 b8 b9 b10 b11 b12 p0 p1 p2 p3 p4 p5 p6 p7 p8 p9 p10 p11 p12 : Nat} {v0 v1 v2 v3 v4 v5 v6 v7 v8 v9 v10 v11 v12 : Value} (h0 : w.cell? ⟨b0, p0, none⟩ = some v0) (h1 : w.cell? ⟨b1, p1, none⟩ = some v1) (h2 : w.cell? ⟨b2, p2, none⟩ = some v2) (h3 : w.cell? ⟨b3, p3, none⟩ = some v3) (h4 : w.cell? ⟨b4, p4, none⟩ = some v4) (h5 : w.cell? ⟨b5, p5, none⟩ = some v5) (h6 : w.cell? ⟨b6, p6, none⟩ = some v6) (h7 : w.cell? ⟨b7, p7, none⟩ = some v7) (h8 : w.cell? ⟨b8, p8, none⟩ = some v8) (h9 : w.cell? ⟨b9, p9, none⟩ = some v9) (h10 : w.cell? ⟨b10, p10, none⟩ = some v10) (h11 : w.cell? ⟨b11, p11, none⟩ = some v11) (h12 : w.cell? ⟨b12, p12, none⟩ = some v12) : (∀ U : GW w, U.val.cell? ⟨b0, p0, none⟩ = some v0) ∧ (∀ U : GW w, U.val.cell? ⟨b1, p1, none⟩ = some v1) ∧ (∀ U : GW w, U.val.cell? ⟨b2, p2, none⟩ = some v2) ∧ (∀ U : GW w, U.val.cell? ⟨b3, p3, none⟩ = some v3) ∧ (∀ U : GW w, U.val.cell? ⟨b4, p4, none⟩ = some v4) ∧ (∀ U : GW w, U.val.cell? ⟨b5, p5, none⟩ = some v5) ∧ (∀ U : GW w, U.val.cell? ⟨b6, p6, none⟩ = some v6) ∧ (∀ U : GW w, U.val.cell? ⟨b7, p7, none⟩ = some v7) ∧ (∀ U : GW w, U.val.cell? ⟨b8, p8, none⟩ = some v8) ∧ (∀ U : GW w, U.val.cell? ⟨b9, p9, none⟩ = some v9) ∧ (∀ U : GW w, U.val.cell? ⟨b10, p10, none⟩ = some v10) ∧ (∀ U : GW w, U.val.cell? ⟨b11, p11, none⟩ = some v11) ∧ (∀ U : GW w, U.val.cell? ⟨b12, p12, none⟩ = some v12) :=
 ⟨fun U => GW.cell h0 U, fun U => GW.cell h1 U, fun U => GW.cell h2 U, fun U => GW.cell h3 U, fun U => GW.cell h4 U, fun U => GW.cell h5 U, fun U => GW.cell h6 U, fun U => GW.cell h7 U, fun U => GW.cell h8 U, fun U => GW.cell h9 U, fun U => GW.cell h10 U, fun U => GW.cell h11 U, fun U => GW.cell h12 U⟩
theorem wp_region_grow {P : Program} {id : Nat} {Q : Exit → Act → World → Prop} {a : Act} {w : World} {l : List Oper} (hm : P.follows .mixedOrders = true) (hB : Region.lexB .any l.toArray = true)
  (h : wpQuiet P l.toArray (fun w' => ∃ u : GW w, w' = u.val) (fun a' => ∀ w', (∃ u : GW w, w' = u.val) → Q .normal a' w') l a) : (Code.region id l.toArray true).wp P Q a w :=
 wp_region_quiet (C := fun w' => ∃ u : GW w, w' = u.val) hm hB ⟨⟨_, (Keeps.refl _ _).drew⟩, rfl⟩ (by simpa using h)
theorem Calls.grow {P : Program} {f : FuncId} {args : Array Value} {w : World} {v : Value} (u : GW w) (h : Calls P f args u.val fun e w' => e = .returned v ∧ Keeps noBlk u.val w') :
  Calls P f args u.val fun e w'' => e = .returned v ∧ ∃ u' : GW w, w'' = u'.val :=
 h.mono fun _ _ ⟨he, hk⟩ => ⟨he, ⟨_, u.keep.trans hk⟩, rfl⟩
end Go.Proofs.YtjcbeihoeanhaaaDoor
