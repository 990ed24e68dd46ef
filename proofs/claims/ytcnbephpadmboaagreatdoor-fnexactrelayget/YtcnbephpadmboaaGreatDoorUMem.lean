/- My own words for memory: a slice of ints that reads as a list (nil let in), worlds that differ by draws alone. Nothing here speaks of the program. No condition. eqIntS of the laws: two slices of ints hold the same ints. markIntS and heldIntS of the laws: a row is marked with k, k+1, ..; a marked row is told. Banks in memory; eqBank, markBank, heldBank of the laws; BankNew of the program and of the model. Banks as lists and as values in memory. szIntS, toIntS of the laws. Regions that draw their order, whose operations read old memory alone and whose calls hand back one value and leave old memory as it was: one walk of the lexical order serves. Nothing here speaks of the program. No condition. -/
import Derived.WalkKit
import Derived.Below
import Derived.Lib.Hide
import Derived.Deep.Draws
import Derived.Deep.QuietTactic
import Derived.BigQuiet
import Derived.IntWalk
import Derived.Laws.Rows
import Derived.Test.YtcnbephpadmboaaGreatDoorProg
import Derived.Tactics
import Derived.Tactics2
import Derived.KernelRfl
import Derived.Outline
import Derived.Laws.MakeOwn
import Derived.Deep.OwnRows
set_option linter.unusedVariables false
set_option linter.unusedSimpArgs false
/-! Mem -/
namespace Go.Proofs.YtcnbephpadmboaaGreatDoor
open Go.RowKit

/-- The worlds differ by draws alone. -/
def Qt (w w' : World) : Prop := ∃ q, w' = w.drewN q
theorem Qt.refl (w : World) : Qt w w := ⟨0, rfl⟩
theorem Qt.of (w : World) (n : Nat) : Qt w (w.drewN n) := ⟨n, rfl⟩
theorem Qt.drewN {w w' : World} (h : Qt w w') (n : Nat) : Qt w (w'.drewN n) := by
  obtain ⟨q, rfl⟩ := h
  exact ⟨q + n, by rw [World.drewN_drewN]⟩
theorem Qt.drew {w w' : World} (h : Qt w w') : Qt w w'.drew := h.drewN 1
theorem Qt.trans {a b c : World} (h : Qt a b) (k : Qt b c) : Qt a c := by
  obtain ⟨q, rfl⟩ := k
  exact h.drewN q

/-- The slice value '.slice A n c' holds the ints xs. -/
def Ints (w : World) (A : Option Addr) (n : Nat) (xs : List Int) : Prop :=
  xs.length = n ∧ (0 < n → ∃ b off, A = some ⟨b, off, none⟩ ∧ b < w.heap.size ∧ ∀ j x, xs[j]? = some x → w.cell? ⟨b, off + j, none⟩ = some (.int .i64 x))

theorem Ints.nil (w : World) (A : Option Addr) : Ints w A 0 [] := ⟨rfl, fun h => absurd h (by omega)⟩

theorem Ints.keep {w w' : World} {A : Option Addr} {n : Nat} {xs : List Int} (h : Ints w A n xs) (hs : w.heap.size ≤ w'.heap.size)
    (hk : ∀ b, b < w.heap.size → w'.heap[b]? = w.heap[b]?) : Ints w' A n xs :=
  ⟨h.1, fun hn => by
    obtain ⟨b, off, e, hb, hc⟩ := h.2 hn
    exact ⟨b, off, e, by omega, fun j x hx => (World.cell?_of_block (hk b hb)).trans (hc j x hx)⟩⟩

theorem Ints.below {w w' : World} {A : Option Addr} {n : Nat} {xs : List Int} (h : Ints w A n xs) (hb : Below w.heap.size w w') : Ints w' A n xs :=
  h.keep hb.size hb.block

theorem Ints.drewN {w : World} {A : Option Addr} {n : Nat} {xs : List Int} (h : Ints w A n xs) (k : Nat) : Ints (w.drewN k) A n xs := h
theorem Ints.drew {w : World} {A : Option Addr} {n : Nat} {xs : List Int} (h : Ints w A n xs) : Ints w.drew A n xs := h
theorem Ints.alloc {w : World} {A : Option Addr} {n : Nat} {xs : List Int} (h : Ints w A n xs) (o : Obj) : Ints (w.alloc o) A n xs :=
  h.below ((Below.refl _ _).alloc (Nat.le_refl _) o)

theorem Ints.at_ {w : World} {A : Option Addr} {n k : Nat} {xs : List Int} (h : Ints w A n xs) (hk : k < n) :
    ∃ b off, A = some ⟨b, off, none⟩ ∧ b < w.heap.size ∧ w.cell? ⟨b, off + k, none⟩ = some (.int .i64 (xs.getD k 0)) := by
  obtain ⟨b, off, e, hb, hc⟩ := h.2 (by omega)
  have hl : k < xs.length := by have := h.1; omega
  refine ⟨b, off, e, hb, ?_⟩
  rw [List.getD_eq_getElem?_getD, List.getElem?_eq_getElem hl]
  exact hc k _ (List.getElem?_eq_getElem hl)

/-- The block of a slice's memory. -/
def blk (A : Option Addr) (n : Nat) (b : Nat) : Prop := 0 < n ∧ ∃ a, A = some a ∧ a.block = b

/-- Of the blocks that were there only those in S may have turned. -/
structure Keeps (S : Nat → Prop) (w w' : World) : Prop where
  os : w'.os = w.os
  tape : w'.tape = w.tape
  output : w'.output = w.output
  size : w.heap.size ≤ w'.heap.size
  block : ∀ b, b < w.heap.size → ¬ S b → w'.heap[b]? = w.heap[b]?

def noBlk (_ : Nat) : Prop := False

theorem Keeps.refl (S : Nat → Prop) (w : World) : Keeps S w w := ⟨rfl, rfl, rfl, Nat.le_refl _, fun _ _ _ => rfl⟩
theorem Keeps.trans {S : Nat → Prop} {a b c : World} (h : Keeps S a b) (k : Keeps S b c) : Keeps S a c :=
  ⟨k.os.trans h.os, k.tape.trans h.tape, k.output.trans h.output, Nat.le_trans h.size k.size,
    fun i hi hs => (k.block i (Nat.lt_of_lt_of_le hi h.size) hs).trans (h.block i hi hs)⟩
theorem Keeps.more {S T : Nat → Prop} {w w' : World} (h : Keeps S w w') (hT : ∀ b, b < w.heap.size → S b → T b) : Keeps T w w' :=
  ⟨h.os, h.tape, h.output, h.size, fun i hi hs => h.block i hi (fun hS => hs (hT i hi hS))⟩
/-- Two steps, the second of which may turn what is new as well. -/
theorem Keeps.then {S T : Nat → Prop} {a b c : World} (h : Keeps S a b) (k : Keeps T b c) (hT : ∀ i, i < a.heap.size → T i → S i) : Keeps S a c :=
  ⟨k.os.trans h.os, k.tape.trans h.tape, k.output.trans h.output, Nat.le_trans h.size k.size,
    fun i hi hs => (k.block i (Nat.lt_of_lt_of_le hi h.size) (fun ht => hs (hT i hi ht))).trans (h.block i hi hs)⟩
theorem Keeps.drewN {S : Nat → Prop} {a w : World} (h : Keeps S a w) (n : Nat) : Keeps S a (w.drewN n) := ⟨h.os, h.tape, h.output, h.size, h.block⟩
theorem Keeps.drew {S : Nat → Prop} {a w : World} (h : Keeps S a w) : Keeps S a w.drew := ⟨h.os, h.tape, h.output, h.size, h.block⟩
theorem Keeps.qt {S : Nat → Prop} {a w w' : World} (h : Keeps S a w) (k : Qt w w') : Keeps S a w' := by
  obtain ⟨q, rfl⟩ := k
  exact h.drewN q
theorem Qt.keeps {w w' : World} (h : Qt w w') (S : Nat → Prop) : Keeps S w w' := (Keeps.refl S w).qt h
theorem Keeps.alloc {S : Nat → Prop} {a w : World} (h : Keeps S a w) (o : Obj) : Keeps S a (w.alloc o) :=
  ⟨h.os, h.tape, h.output, Nat.le_trans h.size (by simp), fun i hi hs => (Below.heap_alloc w o i (Nat.lt_of_lt_of_le hi h.size)).trans (h.block i hi hs)⟩
theorem Keeps.setCell {S : Nat → Prop} {a w : World} (h : Keeps S a w) {p : Addr} (hp : a.heap.size ≤ p.block ∨ S p.block) (u : Value) : Keeps S a (w.setCell p u) :=
  ⟨h.os, h.tape, h.output, by simpa [World.setCell] using h.size, fun i hi hs => (Below.heap_setCell w p u i (by
    rintro rfl
    rcases hp with hp | hp
    · omega
    · exact hs hp)).trans (h.block i hi hs)⟩
theorem Below.keeps {w w' : World} (h : Below w.heap.size w w') (S : Nat → Prop) : Keeps S w w' := ⟨h.os, h.tape, h.output, h.size, fun i hi _ => h.block i hi⟩
theorem Keeps.below {w w' : World} (h : Keeps noBlk w w') : Below w.heap.size w w' := ⟨h.os, h.tape, h.output, h.size, fun i hi => h.block i hi (fun x => x)⟩
theorem Keeps.of_grown {w w' : World} {row : Option Nat} (h : w.grownBy w' row) : Keeps (fun b => row = some b) w w' :=
  ⟨h.os, h.tape, h.output, h.size, fun i hi hs => h.block i hi (fun e => hs e.symm)⟩
theorem Keeps.cell {S : Nat → Prop} {w w' : World} (h : Keeps S w w') {b o : Nat} (hb : b < w.heap.size) (hs : ¬ S b) : w'.cell? ⟨b, o, none⟩ = w.cell? ⟨b, o, none⟩ :=
  World.cell?_of_block (h.block b hb hs)
theorem Keeps.frozen {S : Nat → Prop} {w w' : World} (h : Keeps S w w') {b o : Nat} (hb : b < w.heap.size) (hs : ¬ S b) : w'.frozen? ⟨b, o, none⟩ = w.frozen? ⟨b, o, none⟩ :=
  World.frozen?_of_block (h.block b hb hs)

theorem Ints.keeps {S : Nat → Prop} {w w' : World} {A : Option Addr} {n : Nat} {xs : List Int} (h : Ints w A n xs) (hk : Keeps S w w') (hs : ∀ b, blk A n b → ¬ S b) : Ints w' A n xs :=
  ⟨h.1, fun hn => by
    obtain ⟨b, off, e, hb, hc⟩ := h.2 hn
    exact ⟨b, off, e, Nat.lt_of_lt_of_le hb hk.size, fun j x hx => (hk.cell hb (hs b ⟨hn, _, e, rfl⟩)).trans (hc j x hx)⟩⟩

/-- A row of the call's own, from block lo on: the slice '.slice A n c' holds the ints xs, and may be written. -/
def Row (w : World) (lo : Nat) (A : Option Addr) (n : Nat) (xs : List Int) : Prop :=
  Ints w A n xs ∧ (0 < n → ∃ b off, A = some ⟨b, off, none⟩ ∧ lo ≤ b ∧ ∀ j, j < n → w.frozen? ⟨b, off + j, none⟩ = false)

theorem Row.ints {w : World} {lo : Nat} {A : Option Addr} {n : Nat} {xs : List Int} (h : Row w lo A n xs) : Ints w A n xs := h.1
theorem Row.nil (w : World) (lo : Nat) (A : Option Addr) : Row w lo A 0 [] := ⟨Ints.nil w A, fun h => absurd h (by omega)⟩
theorem Row.less {w : World} {lo lo' : Nat} {A : Option Addr} {n : Nat} {xs : List Int} (h : Row w lo A n xs) (hl : lo' ≤ lo) : Row w lo' A n xs :=
  ⟨h.1, fun hn => by
    obtain ⟨b, off, e, hb, hf⟩ := h.2 hn
    exact ⟨b, off, e, by omega, hf⟩⟩
theorem Row.keeps {S : Nat → Prop} {w w' : World} {lo : Nat} {A : Option Addr} {n : Nat} {xs : List Int} (h : Row w lo A n xs) (hk : Keeps S w w') (hs : ∀ b, blk A n b → ¬ S b) : Row w' lo A n xs :=
  ⟨h.1.keeps hk hs, fun hn => by
    obtain ⟨b, off, e, hb, hf⟩ := h.2 hn
    obtain ⟨b', off', e', hb', _⟩ := h.1.2 hn
    rw [e] at e'
    injection e' with e'
    injection e' with e1 e2
    subst e1
    exact ⟨b, off, e, hb, fun j hj => (hk.frozen hb' (hs b ⟨hn, _, e, rfl⟩)).trans (hf j hj)⟩⟩
theorem Row.at_ {w : World} {lo : Nat} {A : Option Addr} {n k : Nat} {xs : List Int} (h : Row w lo A n xs) (hk : k < n) :
    ∃ b off, A = some ⟨b, off, none⟩ ∧ lo ≤ b ∧ b < w.heap.size ∧ w.cell? ⟨b, off + k, none⟩ = some (.int .i64 (xs.getD k 0)) ∧ w.frozen? ⟨b, off + k, none⟩ = false := by
  obtain ⟨b, off, e, hb, hc⟩ := h.1.at_ hk
  obtain ⟨b', off', e', hl, hf⟩ := h.2 (by omega)
  rw [e] at e'
  injection e' with e'
  injection e' with e1 e2
  subst e1
  subst e2
  exact ⟨b, off, e, hl, hb, hc, hf k hk⟩

theorem Ints.lt {w : World} {A : Option Addr} {n : Nat} {xs : List Int} (h : Ints w A n xs) {b : Nat} (hb : blk A n b) : b < w.heap.size := by
  obtain ⟨hn, a, rfl, rfl⟩ := hb
  obtain ⟨b, off, e, hl, _⟩ := h.2 hn
  injection e with e
  subst e
  exact hl
theorem Row.lt {w : World} {lo : Nat} {A : Option Addr} {n : Nat} {xs : List Int} (h : Row w lo A n xs) {b : Nat} (hb : blk A n b) : b < w.heap.size := h.1.lt hb
theorem Row.ge {w : World} {lo : Nat} {A : Option Addr} {n : Nat} {xs : List Int} (h : Row w lo A n xs) {b : Nat} (hb : blk A n b) : lo ≤ b := by
  obtain ⟨hn, a, rfl, rfl⟩ := hb
  obtain ⟨b, off, e, hl, _⟩ := h.2 hn
  injection e with e
  subst e
  exact hl
theorem Row.alloc {w : World} {lo : Nat} {A : Option Addr} {n : Nat} {xs : List Int} (h : Row w lo A n xs) (o : Obj) : Row (w.alloc o) lo A n xs :=
  h.keeps ((Keeps.refl noBlk w).alloc o) fun _ _ x => x

/-- One store into a row. -/
theorem Ints.set_ {w : World} {b off n k : Nat} {xs : List Int} (h : Ints w (some ⟨b, off, none⟩) n xs) (hk : k < n) (x : Int) :
    Ints (w.setCell ⟨b, off + k, none⟩ (.int .i64 x)) (some ⟨b, off, none⟩) n (xs.set k x) := by
  obtain ⟨hl, h2⟩ := h
  refine ⟨by simpa using hl, fun hn => ?_⟩
  obtain ⟨b', off', e', hb, hc⟩ := h2 hn
  injection e' with e'
  injection e' with e1 e2
  subst e1
  subst e2
  refine ⟨b, off, rfl, by simpa [World.setCell] using hb, fun j y hy => ?_⟩
  have hjl : j < xs.length := by
    have := (List.getElem?_eq_some_iff.1 hy).1
    simpa using this
  by_cases hjk : j = k
  · subst hjk
    have : y = x := by
      rw [List.getElem?_set_self (by omega)] at hy
      injection hy with hy
      exact hy.symm
    subst this
    exact World.cell?_setCell_same _ _ _ (hc j _ (List.getElem?_eq_getElem hjl))
  · rw [List.getElem?_set_ne (by omega)] at hy
    rw [World.cell?_setCell_other _ _ _ _ (by intro e; injection e with _ e; omega)]
    exact hc j y hy
theorem Row.set_ {w : World} {lo b off n k : Nat} {xs : List Int} (h : Row w lo (some ⟨b, off, none⟩) n xs) (hk : k < n) (x : Int) :
    Row (w.setCell ⟨b, off + k, none⟩ (.int .i64 x)) lo (some ⟨b, off, none⟩) n (xs.set k x) :=
  ⟨h.1.set_ hk x, fun hn => by
    obtain ⟨b', off', e', hl, hf⟩ := h.2 hn
    exact ⟨b', off', e', hl, fun j hj => by rw [World.frozen?_setCell]; exact hf j hj⟩⟩
theorem Row.drew {w : World} {lo : Nat} {A : Option Addr} {n : Nat} {xs : List Int} (h : Row w lo A n xs) : Row w.drew lo A n xs := h
theorem Row.drewN {w : World} {lo : Nat} {A : Option Addr} {n : Nat} {xs : List Int} (h : Row w lo A n xs) (k : Nat) : Row (w.drewN k) lo A n xs := h
theorem Row.qt {w w' : World} {lo : Nat} {A : Option Addr} {n : Nat} {xs : List Int} (h : Row w lo A n xs) (k : Qt w w') : Row w' lo A n xs := by
  obtain ⟨q, rfl⟩ := k
  exact h
theorem Ints.qt {w w' : World} {A : Option Addr} {n : Nat} {xs : List Int} (h : Ints w A n xs) (k : Qt w w') : Ints w' A n xs := by
  obtain ⟨q, rfl⟩ := k
  exact h
/-- A block just made is a row. -/
theorem Row.made (w : World) (t : TypeId) (cs : Array Value) (n : Nat) (xs : List Int) (hl : xs.length = n) (hc : ∀ (j : Nat) (x : Int), xs[j]? = some x → cs[j]? = some (Value.int .i64 x)) :
    Row (w.alloc (.cells cs t)) w.heap.size (some ⟨w.heap.size, 0, none⟩) n xs :=
  ⟨⟨hl, fun _ => ⟨_, _, rfl, by simp, fun j x hx => by
      rw [Nat.zero_add, World.cell?_alloc_new]
      exact hc j x hx⟩⟩,
    fun _ => ⟨_, _, rfl, Nat.le_refl _, fun j _ => World.frozen?_alloc_new w cs t _⟩⟩

theorem Row.made' (w : World) (lo g : Nat) (hg : g = w.heap.size) (hlo : lo ≤ g) (t : TypeId) (cs : Array Value) (n : Nat) (xs : List Int) (hl : xs.length = n)
    (hc : ∀ (j : Nat) (x : Int), xs[j]? = some x → cs[j]? = some (Value.int .i64 x)) : Row (w.alloc (.cells cs t)) lo (some ⟨g, 0, none⟩) n xs := by
  subst hg
  exact (Row.made w t cs n xs hl hc).less hlo
theorem blk_some {a : Addr} {n b : Nat} (h : blk (some a) n b) : a.block = b := by
  obtain ⟨_, x, e, hx⟩ := h
  injection e with e
  subst e
  exact hx
theorem blk_mk {a : Addr} {n : Nat} (h : 0 < n) : blk (some a) n a.block := ⟨h, a, rfl, rfl⟩

/-- A block that is known whole: a variable, a struct behind a pointer. -/
def Box (w : World) (g : Nat) (t : TypeId) (cs : Array Value) : Prop := w.heap[g]? = some (.cells cs t (0, 0))
theorem Box.lt {w : World} {g : Nat} {t : TypeId} {cs : Array Value} (h : Box w g t cs) : g < w.heap.size := by
  rcases Nat.lt_or_ge g w.heap.size with hlt | hge
  · exact hlt
  · unfold Box at h
    rw [Array.getElem?_eq_none hge] at h
    cases h
theorem Box.cell {w : World} {g : Nat} {t : TypeId} {cs : Array Value} (h : Box w g t cs) (i : Nat) : w.cell? ⟨g, i, none⟩ = cs[i]? := cell_of_row w g i cs t (0, 0) h
theorem Box.frozen {w : World} {g : Nat} {t : TypeId} {cs : Array Value} (h : Box w g t cs) (i : Nat) : w.frozen? ⟨g, i, none⟩ = false := by
  unfold Box at h
  simp [World.frozen?, h]
theorem Box.new (w : World) (g : Nat) (hg : g = w.heap.size) (t : TypeId) (cs : Array Value) : Box (w.alloc (.cells cs t)) g t cs := by
  subst hg
  exact heap_alloc_new w _
theorem Box.keeps {S : Nat → Prop} {w w' : World} {g : Nat} {t : TypeId} {cs : Array Value} (h : Box w g t cs) (hk : Keeps S w w') (hs : ¬ S g) : Box w' g t cs := (hk.block g h.lt hs).trans h
theorem Box.alloc {w : World} {g : Nat} {t : TypeId} {cs : Array Value} (h : Box w g t cs) (o : Obj) : Box (w.alloc o) g t cs := h.keeps ((Keeps.refl noBlk w).alloc o) fun x => x
theorem Box.drew {w : World} {g : Nat} {t : TypeId} {cs : Array Value} (h : Box w g t cs) : Box w.drew g t cs := h
theorem Box.drewN {w : World} {g : Nat} {t : TypeId} {cs : Array Value} (h : Box w g t cs) (n : Nat) : Box (w.drewN n) g t cs := h
theorem Box.set_ {w : World} {g : Nat} {t : TypeId} {cs : Array Value} (h : Box w g t cs) (i : Nat) (u : Value) : Box (w.setCell ⟨g, i, none⟩ u) g t (cs.setIfInBounds i u) := by
  unfold Box at h ⊢
  simp [World.setCell, Array.getElem?_modify, h]
theorem Box.far {w : World} {g : Nat} {t : TypeId} {cs : Array Value} (h : Box w g t cs) {p : Addr} (hp : g ≠ p.block) (u : Value) : Box (w.setCell p u) g t cs := (Below.heap_setCell w p u g hp).trans h
theorem Row.far {w : World} {lo : Nat} {A : Option Addr} {n : Nat} {xs : List Int} (h : Row w lo A n xs) {p : Addr} (hp : ¬ blk A n p.block) (u : Value) : Row (w.setCell p u) lo A n xs :=
  h.keeps (S := fun b => b = p.block) ((Keeps.refl (fun b => b = p.block) w).setCell (p := p) (.inr rfl) u) fun b hb e => hp (by subst e; exact hb)
theorem Ints.far {w : World} {A : Option Addr} {n : Nat} {xs : List Int} (h : Ints w A n xs) {p : Addr} (hp : ¬ blk A n p.block) (u : Value) : Ints (w.setCell p u) A n xs :=
  h.keeps (S := fun b => b = p.block) ((Keeps.refl (fun b => b = p.block) w).setCell (p := p) (.inr rfl) u) fun b hb e => hp (by subst e; exact hb)

/-- One block, two blocks. -/
def one (g b : Nat) : Prop := b = g
def two (g h b : Nat) : Prop := b = g ∨ b = h
theorem Keeps.set1 {g : Nat} {a w : World} (k : Keeps (one g) a w) (o : Nat) (u : Value) : Keeps (one g) a (w.setCell ⟨g, o, none⟩ u) := k.setCell (p := ⟨g, o, none⟩) (.inr rfl) u
theorem Keeps.setA {g h : Nat} {a w : World} (k : Keeps (two g h) a w) (o : Nat) (u : Value) : Keeps (two g h) a (w.setCell ⟨g, o, none⟩ u) := k.setCell (p := ⟨g, o, none⟩) (.inr (.inl rfl)) u
theorem Keeps.setB {g h : Nat} {a w : World} (k : Keeps (two g h) a w) (o : Nat) (u : Value) : Keeps (two g h) a (w.setCell ⟨h, o, none⟩ u) := k.setCell (p := ⟨h, o, none⟩) (.inr (.inr rfl)) u
theorem Keeps.new {g : Nat} {a w : World} (k : Keeps noBlk a w) (hg : a.heap.size ≤ g) (o : Nat) (u : Value) : Keeps noBlk a (w.setCell ⟨g, o, none⟩ u) := k.setCell (p := ⟨g, o, none⟩) (.inl hg) u

end Go.Proofs.YtcnbephpadmboaaGreatDoor

/-! Eq -/
namespace Go.Proofs.YtcnbephpadmboaaGreatDoor
open Go.RowKit

theorem take_eq_step {xs ys : List Int} {k : Nat} (h : xs.take k = ys.take k) (hx : k < xs.length) (hy : k < ys.length) (he : xs.getD k 0 = ys.getD k 0) :
    xs.take (k + 1) = ys.take (k + 1) := by
  rw [List.take_succ_eq_append_getElem hx, List.take_succ_eq_append_getElem hy, h]
  simp [List.getD_eq_getElem?_getD, List.getElem?_eq_getElem hx, List.getElem?_eq_getElem hy] at he
  rw [he]

set_option maxHeartbeats 400000 in
theorem eqIntS_any (A B : Option Addr) (n m c d : Nat) (xs ys : List Int) (w : World) (ha : Ints w A n xs) (hb : Ints w B m ys) (hn : n ≤ maxLen) (hm : m ≤ maxLen) :
    Calls Tryz.prog 47 #[.slice A n c, .slice B m d] w fun e w' => e = .returned (.bool (decide (xs = ys))) ∧ Qt w w' := by
  unfold maxLen at hn hm
  have hxl := Lib.hid ha.1
  have hyl := Lib.hid hb.1
  by_cases hnm : n = m
  · subst hnm
    go_enter Tryz.func47, Tryz.ntmps47
    go_wp2
    go_loopw [5] (fun i wr => ∃ k : Nat, k ≤ n ∧ i = .int .i64 k ∧ xs.take k = ys.take k ∧ Qt w wr) (fun i _ => n - (intOf i).toNat)
    case atStart => exact ⟨0, Nat.zero_le _, rfl, rfl, Qt.refl _⟩
    case round =>
      obtain ⟨k, hk, rfl, htk, q, rfl⟩ := hrel
      have Htk := Lib.hid htk
      clear htk
      by_cases hlt : k < n
      · obtain ⟨b1, o1, rfl, _, hc1⟩ := ha.at_ hlt
        obtain ⟨b2, o2, rfl, _, hc2⟩ := hb.at_ hlt
        clear ha hb
        go_wp2
        go_quiet (fail)
        go_wp2
        · go_ret
          refine ⟨?_, (Qt.of _ _).drewN _⟩
          have hne : (xs[k]?.getD 0 != ys[k]?.getD 0) = true := by assumption
          have hx : ¬ xs = ys := fun h => by rw [h] at hne; simp at hne
          simp [hx]
        · have hne : (xs[k]?.getD 0 != ys[k]?.getD 0) = false := by assumption
          go_roundw
          case rel => exact ⟨k + 1, by omega, by go_num, take_eq_step Htk.out (by rw [hxl.out]; exact hlt) (by rw [hyl.out]; exact hlt) (by simpa [List.getD_eq_getElem?_getD] using hne), Qt.of _ _⟩
          case measure => simp [intOf]; omega
      · go_wp2
        go_ret
        refine ⟨?_, Qt.of _ _⟩
        have := Htk.out
        rw [List.take_of_length_le (by rw [hxl.out]; omega), List.take_of_length_le (by rw [hyl.out]; omega)] at this
        simp [this]
  · have hne : ((n : Int) != (m : Int)) = true := by simp; omega
    go_enter Tryz.func47, Tryz.ntmps47
    go_wp2
    go_ret
    refine ⟨?_, Qt.refl _⟩
    have hx : ¬ xs = ys := fun h => hnm (by rw [← hxl.out, ← hyl.out, h])
    simp [hx]
end Go.Proofs.YtcnbephpadmboaaGreatDoor

/-! Mark -/
namespace Go.Proofs.YtcnbephpadmboaaGreatDoor
open Go.RowKit

/-- k, k+1, .., n of them. -/
def iota (k : Int) (n : Nat) : List Int := (List.range n).map fun (i : Nat) => k + (i : Int)
theorem iota_length (k : Int) (n : Nat) : (iota k n).length = n := by simp [iota]
theorem iota_getD (k : Int) (n i : Nat) (h : i < n) : (iota k n).getD i 0 = k + i := by simp [iota, List.getD_eq_getElem?_getD, h]

/-- The first i of a row are marked. -/
def marked (k : Int) (i : Nat) (xs : List Int) : List Int := iota k i ++ xs.drop i
theorem marked_zero (k : Int) (xs : List Int) : marked k 0 xs = xs := by simp [marked, iota]
theorem marked_step (k : Int) (i : Nat) (xs : List Int) (h : i < xs.length) : (marked k i xs).set i (k + i) = marked k (i + 1) xs := by
  apply List.ext_getElem?
  intro j
  simp only [marked, iota]
  rw [List.getElem?_set]
  by_cases hj : i = j
  · subst hj
    rw [if_pos rfl, if_pos (by simp; omega), List.getElem?_append_left (by simp)]
    simp
  · rw [if_neg hj]
    by_cases hlt : j < i
    · rw [List.getElem?_append_left (by simpa using hlt), List.getElem?_append_left (by simp; omega)]
      simp [hlt, Nat.lt_succ_of_lt hlt]
    · rw [List.getElem?_append_right (by simp; omega), List.getElem?_append_right (by simp; omega)]
      simp only [List.length_map, List.length_range, List.getElem?_drop]
      congr 1
      omega
theorem marked_all (k : Int) (n : Nat) (xs : List Int) (h : xs.length = n) : marked k n xs = iota k n := by
  simp [marked, List.drop_of_length_le (Nat.le_of_eq h)]

def RetMark (w : World) (lo : Nat) (A : Option Addr) (n : Nat) (k : Int) (e : Ending) (w' : World) : Prop :=
  e = .returned (.int .i64 (k + n)) ∧ Row w' lo A n (iota k n) ∧ Keeps (blk A n) w w'

set_option maxHeartbeats 400000 in
theorem markIntS_any (A : Option Addr) (n c lo : Nat) (k : Int) (xs : List Int) (w : World) (ha : Row w lo A n xs) (hk0 : 0 ≤ k) (hk : k + n ≤ 1000000000) :
    Calls Tryz.prog 52 #[.slice A n c, .int .i64 k] w (RetMark w lo A n k) := by
  have hxl := Lib.hid ha.1.1
  have HA := Lib.hid ha
  clear ha
  go_enter Tryz.func52, Tryz.ntmps52
  go_wp2
  go_loopw [1, 5] (fun kk i wr => ∃ j : Nat, j ≤ n ∧ i = .int .i64 j ∧ kk = .int .i64 (k + j) ∧ Row wr lo A n (marked k j xs) ∧ Keeps (blk A n) w wr) (fun _ i _ => n - (intOf i).toNat)
  case atStart => exact ⟨0, Nat.zero_le _, rfl, by simp, by rw [marked_zero]; exact HA.out, Keeps.refl _ _⟩
  case round =>
    obtain ⟨j, hj, rfl, rfl, hr, hkp⟩ := hrel
    by_cases hlt : j < n
    · obtain ⟨b1, o1, rfl, _, _, hc1, hf1⟩ := hr.at_ hlt
      have Hr := Lib.hid hr
      have Hkp := Lib.hid hkp
      clear hr hkp
      go_wp2
      go_roundw
      case rel => exact ⟨j + 1, by omega, by go_num, by go_num, by rw [← marked_step k j xs (by rw [hxl.out]; exact hlt)]; exact Hr.out.set_ hlt _, Hkp.out.setCell (p := ⟨b1, o1 + j, none⟩) (.inr ⟨by omega, ⟨b1, o1, none⟩, rfl, rfl⟩) _⟩
      case measure => simp [intOf]; omega
    · obtain rfl : n = j := by omega
      go_wp2
      go_ret
      exact ⟨rfl, by rw [← marked_all k n xs hxl.out]; exact hr, hkp⟩

set_option maxHeartbeats 400000 in
theorem heldIntS_any (A : Option Addr) (n c : Nat) (k : Int) (w : World) (ha : Ints w A n (iota k n)) (hk0 : 0 ≤ k) (hk : k + n ≤ 1000000000) :
    Calls Tryz.prog 58 #[.slice A n c, .int .i64 k] w fun e w' => e = .returned (.int .i64 (k + n)) ∧ w = w' := by
  go_enter Tryz.func58, Tryz.ntmps58
  go_wp2
  go_loopw [1, 5] (fun kk i wr => ∃ j : Nat, j ≤ n ∧ i = .int .i64 j ∧ kk = .int .i64 (k + j) ∧ wr = w) (fun _ i _ => n - (intOf i).toNat)
  case atStart => exact ⟨0, Nat.zero_le _, rfl, by simp, rfl⟩
  case round =>
    obtain ⟨j, hj, rfl, rfl, rfl⟩ := hrel
    by_cases hlt : j < n
    · obtain ⟨b1, o1, rfl, _, hc1⟩ := ha.at_ hlt
      rw [iota_getD k n j hlt] at hc1
      clear ha
      have hne : (k + (j : Int) != k + (j : Int)) = false := by simp
      go_wp2
      go_roundw
      case rel => exact ⟨j + 1, by omega, by go_num, by go_num, trivial⟩
      case measure => simp [intOf]; omega
    · obtain rfl : n = j := by omega
      go_wp2
      go_ret
      exact ⟨rfl, rfl⟩
end Go.Proofs.YtcnbephpadmboaaGreatDoor

/-! Bank -/
namespace Go.Proofs.YtcnbephpadmboaaGreatDoor
open Go.RowKit

theorem eqIntS_yes (A B : Option Addr) (n c d : Nat) (xs : List Int) (w : World) (ha : Ints w A n xs) (hb : Ints w B n xs) (hn : n ≤ maxLen) :
    Calls Tryz.prog 47 #[.slice A n c, .slice B n d] w fun e w' => e = .returned (.bool true) ∧ Qt w w' :=
  (eqIntS_any A B n n c d xs xs w ha hb hn hn).mono fun e w' ⟨he, hq⟩ => ⟨by simpa using he, hq⟩

set_option maxHeartbeats 400000 in
theorem eqBank_yes (A1 A2 B1 B2 : Option Addr) (n1 n2 c1 c2 d1 d2 : Nat) (L : Int) (xs ys : List Int) (w : World)
    (ha1 : Ints w A1 n1 xs) (hb1 : Ints w B1 n1 xs) (ha2 : Ints w A2 n2 ys) (hb2 : Ints w B2 n2 ys) (h1 : n1 ≤ maxLen) (h2 : n2 ≤ maxLen) :
    Calls Tryz.prog 45 #[.agg #[.slice A1 n1 c1, .slice A2 n2 c2, .int .i64 L], .agg #[.slice B1 n1 d1, .slice B2 n2 d2, .int .i64 L]] w
      fun e w' => e = .returned (.bool true) ∧ Keeps noBlk w w' := by
  have hL : (L != L) = false := by simp
  go_enter Tryz.func45, Tryz.ntmps45
  go_wp2_with fail
  refine (eqIntS_yes A1 B1 n1 _ _ xs _ ((ha1.alloc _).alloc _) ((hb1.alloc _).alloc _) h1).mono ?_
  rintro e w' ⟨rfl, q, rfl⟩
  go_wp2_with fail
  refine (eqIntS_yes A2 B2 n2 _ _ ys _ (((ha2.alloc _).alloc _).drewN _) (((hb2.alloc _).alloc _).drewN _) h2).mono ?_
  rintro e w' ⟨rfl, q2, rfl⟩
  go_wp2
  go_ret
  exact ⟨rfl, (((Keeps.refl _ _).alloc _).alloc _).drewN _⟩

def RetMark2 (w : World) (lo : Nat) (A1 A2 : Option Addr) (n1 n2 : Nat) (k : Int) (e : Ending) (w' : World) : Prop :=
  e = .returned (.int .i64 (k + n1 + n2)) ∧ Row w' lo A1 n1 (iota k n1) ∧ Row w' lo A2 n2 (iota (k + n1) n2) ∧ Keeps (fun b => blk A1 n1 b ∨ blk A2 n2 b) w w'

set_option maxHeartbeats 400000 in
theorem markBank_any (A1 A2 : Option Addr) (n1 n2 c1 c2 lo : Nat) (L k : Int) (xs ys : List Int) (w : World)
    (ha1 : Row w lo A1 n1 xs) (ha2 : Row w lo A2 n2 ys) (hd : ∀ b, blk A1 n1 b → ¬ blk A2 n2 b) (hk0 : 0 ≤ k) (hk : k + n1 + n2 ≤ 1000000000) :
    Calls Tryz.prog 50 #[.agg #[.slice A1 n1 c1, .slice A2 n2 c2, .int .i64 L], .int .i64 k] w (RetMark2 w lo A1 A2 n1 n2 k) := by
  have HD := Lib.hid hd
  have H1 := Lib.hid ha1
  have H2 := Lib.hid ha2
  clear hd ha1 ha2
  go_enter Tryz.func50, Tryz.ntmps50
  go_wp2_with fail
  refine (markIntS_any A1 n1 _ lo k xs _ (H1.out.alloc _) hk0 (by omega)).mono ?_
  rintro e w1 ⟨rfl, hr1, hk1⟩
  have hbx : ∀ o, w1.cell? ⟨w.heap.size, o, none⟩ = (w.alloc (.cells #[.slice A1 n1 c1, .slice A2 n2 c2, .int .i64 L] 36)).cell? ⟨w.heap.size, o, none⟩ :=
    fun o => hk1.cell (by simp) fun h => Nat.lt_irrefl _ (H1.out.lt h)
  have hb1 := hbx 1
  clear hbx
  rw [World.cell?_alloc_new] at hb1
  simp at hb1
  have Hr1 := Lib.hid hr1
  have Hk1 := Lib.hid hk1
  clear hr1 hk1
  go_wp2_with fail
  refine (markIntS_any A2 n2 _ lo _ ys _ ((H2.out.alloc _).keeps Hk1.out fun b h2 h1 => HD.out b h1 h2) (by omega) (by omega)).mono ?_
  rintro e w2 ⟨rfl, hr2, hk2⟩
  go_wp2
  go_ret
  refine ⟨rfl, Hr1.out.keeps hk2 fun b h1 h2 => HD.out b h1 h2, hr2, ?_⟩
  exact ((((Keeps.refl _ w).alloc _).then Hk1.out fun i hi h => .inl h).then hk2 fun i hi h => .inr h)

set_option maxHeartbeats 400000 in
theorem heldBank_any (A1 A2 : Option Addr) (n1 n2 c1 c2 : Nat) (L k : Int) (w : World)
    (ha1 : Ints w A1 n1 (iota k n1)) (ha2 : Ints w A2 n2 (iota (k + n1) n2)) (hk0 : 0 ≤ k) (hk : k + n1 + n2 ≤ 1000000000) :
    Calls Tryz.prog 55 #[.agg #[.slice A1 n1 c1, .slice A2 n2 c2, .int .i64 L], .int .i64 k] w fun e w' => e = .returned (.int .i64 (k + n1 + n2)) ∧ Keeps noBlk w w' := by
  go_enter Tryz.func55, Tryz.ntmps55
  go_wp2_with fail
  refine (heldIntS_any A1 n1 _ k _ (ha1.alloc _) hk0 (by omega)).mono ?_
  rintro e w' ⟨rfl, rfl⟩
  have h1 : ¬ k + (n1 : Int) < 0 := by omega
  have h2 : ¬ k + (n1 : Int) + (n2 : Int) < 0 := by omega
  go_wp2_with fail
  refine (heldIntS_any A2 n2 _ _ _ (ha2.alloc _) (by omega) (by omega)).mono ?_
  rintro e w' ⟨rfl, rfl⟩
  go_wp2
  go_ret
  exact ⟨rfl, (Keeps.refl _ _).alloc _⟩
end Go.Proofs.YtcnbephpadmboaaGreatDoor

/-! Bnk -/
namespace Go.Proofs.YtcnbephpadmboaaGreatDoor
open Go.RowKit

theorem info_int : (Tryz.prog.info? 3).map (fun i => (i.zero, i.size, i.bytes)) = some (some (.int .i64 0), 1, 8) := by kernel_rfl

/-- What a bank holds. -/
structure BankL where
  own : List Int
  notes : List Int
  locked : Int

/-- The value v is the bank b in memory of the call's own, from block lo on; its two rows lie in blocks of their own. -/
def BankAt (w : World) (lo : Nat) (v : Value) (b : BankL) : Prop :=
  ∃ A1 n1 c1 A2 n2 c2, v = .agg #[.slice A1 n1 c1, .slice A2 n2 c2, .int .i64 b.locked] ∧ Row w lo A1 n1 b.own ∧ Row w lo A2 n2 b.notes ∧
    (∀ i, blk A1 n1 i → ¬ blk A2 n2 i) ∧ n1 ≤ c1 ∧ n2 ≤ c2 ∧ c1 ≤ maxLen ∧ c2 ≤ maxLen

def RetBank (w : World) (b : BankL) (e : Ending) (w' : World) : Prop := ∃ v, e = .returned v ∧ BankAt w' w.heap.size v b ∧ Keeps noBlk w w'

theorem made_ints (n : Nat) : ∀ (j : Nat) (x : Int), (List.replicate n (0 : Int))[j]? = some x → (madeCells #[Value.int .i64 0] n)[j]? = some (Value.int .i64 x) := by
  intro j x h
  rw [List.getElem?_replicate] at h
  split at h
  · injection h with h
    subst h
    simp [madeCells, *, Nat.mod_one]
  · cases h

end Go.Proofs.YtcnbephpadmboaaGreatDoor

/-! ToI -/
namespace Go.Proofs.YtcnbephpadmboaaGreatDoor
open Go.RowKit

set_option maxHeartbeats 400000 in
theorem szIntS_yes (A : Option Addr) (n c : Nat) (left : Int) (w : World) (hn : (n : Int) ≤ left) (hl : left ≤ 1048576) :
    Calls Tryz.prog 27 #[.slice A n c, .int .i64 left] w fun e w' => e = .returned (.int .i64 (left - n)) ∧ w = w' := by
  have h0 : ¬ left - (n : Int) < 0 := by omega
  go_enter Tryz.func27, Tryz.ntmps27
  go_wp2
  go_ret
  exact ⟨rfl, rfl⟩
set_option maxHeartbeats 400000 in
theorem szIntS_no (A : Option Addr) (n c : Nat) (left : Int) (w : World) (hn : left < (n : Int)) (h0 : 0 ≤ left) (hm : n ≤ maxLen) :
    Calls Tryz.prog 27 #[.slice A n c, .int .i64 left] w fun e w' => e = .returned (.int .i64 (-1)) ∧ w = w' := by
  unfold maxLen at hm
  have h1 : left - (n : Int) < 0 := by omega
  go_enter Tryz.func27, Tryz.ntmps27
  go_wp2
  go_ret
  exact ⟨rfl, rfl⟩

/-- The first k of a row of noughts are as xs. -/
def filled (xs : List Int) (k : Nat) : List Int := xs.take k ++ List.replicate (xs.length - k) 0
theorem filled_zero (xs : List Int) : filled xs 0 = List.replicate xs.length 0 := by simp [filled]
theorem filled_all (xs : List Int) (k : Nat) (h : k = xs.length) : filled xs k = xs := by subst h; simp [filled]
theorem filled_step (xs : List Int) (k : Nat) (h : k < xs.length) : (filled xs k).set k (xs.getD k 0) = filled xs (k + 1) := by
  unfold filled
  apply List.ext_getElem?
  intro j
  rw [List.getElem?_set]
  by_cases hj : k = j
  · subst hj
    rw [if_pos rfl, if_pos (by simp; omega), List.getElem?_append_left (by simp; omega), List.getElem?_take_of_lt (by omega), List.getD_eq_getElem?_getD, List.getElem?_eq_getElem h]
    rfl
  · rw [if_neg hj]
    by_cases hlt : j < k
    · rw [List.getElem?_append_left (by simp; omega), List.getElem?_append_left (by simp; omega), List.getElem?_take_of_lt hlt, List.getElem?_take_of_lt (by omega)]
    · rw [List.getElem?_append_right (by simp; omega), List.getElem?_append_right (by simp; omega)]
      simp only [List.length_take, List.getElem?_replicate]
      have e1 : min k xs.length = k := by omega
      have e2 : min (k + 1) xs.length = k + 1 := by omega
      rw [e1, e2]
      by_cases hx : j < xs.length
      · rw [if_pos (by omega), if_pos (by omega)]
      · rw [if_neg (by omega), if_neg (by omega)]

def RetRow (w : World) (xs : List Int) (e : Ending) (w' : World) : Prop :=
  ∃ A, e = .returned (.slice A xs.length xs.length) ∧ Row w' w.heap.size A xs.length xs ∧ Keeps noBlk w w'

set_option maxHeartbeats 400000 in
theorem toIntS_any (A : Option Addr) (n c : Nat) (xs : List Int) (w : World) (ha : Ints w A n xs) (hn : n ≤ 1048576) :
    Calls Tryz.prog 37 #[.slice A n c] w (RetRow w xs) := by
  obtain rfl : xs.length = n := ha.1
  have hmk := run_make_row' (P := Tryz.prog) 22 3 (.int .i64 0) 8 Tryz.underlying22 info_int rfl .i64 .i64 xs.length (by omega) (by omega)
  have HA := Lib.hid ha
  clear ha
  go_enter Tryz.func37, Tryz.ntmps37
  go_wp2
  go_loopw [4] (fun i wr => ∃ k : Nat, k ≤ xs.length ∧ i = .int .i64 k ∧ Row wr w.heap.size (some ⟨w.heap.size, 0, none⟩) xs.length (filled xs k) ∧ Keeps noBlk w wr) (fun i _ => xs.length - (intOf i).toNat)
  case atStart => exact ⟨0, Nat.zero_le _, rfl, Row.made' _ _ _ rfl (Nat.le_refl _) _ _ _ _ (by simp [filled]) (by rw [filled_zero]; exact made_ints _), (Keeps.refl _ _).alloc _⟩
  case round =>
    obtain ⟨k, hk, rfl, hr, hkp⟩ := hrel
    by_cases hlt : k < xs.length
    · obtain ⟨b1, o1, e1, _, _, hc1, hf1⟩ := hr.at_ hlt
      injection e1 with e1
      injection e1 with e1 e2
      subst e1
      subst e2
      obtain ⟨b2, o2, rfl, _, hc2⟩ := (HA.out.keeps hkp fun _ _ h => h).at_ hlt
      have Hr := Lib.hid hr
      have Hkp := Lib.hid hkp
      clear hr hkp
      rw [Nat.zero_add] at hc1 hf1
      have hst := Lib.hid (filled_step xs k hlt)
      generalize xs.getD k 0 = y at hc2 hst
      go_wp2
      go_roundw
      case rel => exact ⟨k + 1, by omega, by go_num, by rw [← hst.out]; simpa using Hr.out.set_ hlt y, Hkp.out.setCell (.inl (Nat.le_refl _)) _⟩
      case measure => simp [intOf]; omega
    · obtain he : k = xs.length := by omega
      have Hr : Hid (Row wr w.heap.size (some ⟨w.heap.size, 0, none⟩) xs.length xs) := by
        have := hr
        rw [filled_all xs k he] at this
        exact this
      clear he
      go_wp2
      go_ret
      exact ⟨_, rfl, Hr.out, hkp⟩

end Go.Proofs.YtcnbephpadmboaaGreatDoor

/-! Grow -/
namespace Go.Proofs.YtcnbephpadmboaaGreatDoor
open Go.RowKit

/-- A world that grew from w. -/
structure GW (w : World) where
  val : World
  keep : Keeps noBlk w val
instance (w : World) : Nonempty (GW w) := ⟨⟨w, Keeps.refl _ _⟩⟩
theorem GW.cell {w : World} {b o : Nat} {v : Value} (h : w.cell? ⟨b, o, none⟩ = some v) (u : GW w) : u.val.cell? ⟨b, o, none⟩ = some v :=
  (u.keep.cell (World.block_lt_of_cell? w _ h) (fun h => h)).trans h
theorem wp_region_grow {P : Program} {id : Nat} {Q : Exit → Act → World → Prop} {a : Act} {w : World} {l : List Oper} (hm : P.follows .mixedOrders = true) (hB : Region.lexB .any l.toArray = true)
    (h : wpQuiet P l.toArray (fun w' => ∃ u : GW w, w' = u.val) (fun a' => ∀ w', (∃ u : GW w, w' = u.val) → Q .normal a' w') l a) : (Code.region id l.toArray true).wp P Q a w :=
  wp_region_quiet (C := fun w' => ∃ u : GW w, w' = u.val) hm hB ⟨⟨_, (Keeps.refl _ _).drew⟩, rfl⟩ (by simpa using h)
theorem Calls.grow {P : Program} {f : FuncId} {args : Array Value} {w : World} {v : Value} (u : GW w) (h : Calls P f args u.val fun e w' => e = .returned v ∧ Keeps noBlk u.val w') :
    Calls P f args u.val fun e w'' => e = .returned v ∧ ∃ u' : GW w, w'' = u'.val :=
  h.mono fun _ _ ⟨he, hk⟩ => ⟨he, ⟨_, u.keep.trans hk⟩, rfl⟩
end Go.Proofs.YtcnbephpadmboaaGreatDoor
