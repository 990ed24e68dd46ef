/- My own words for memory: a slice of ints that reads as a list (nil let in), worlds that differ by draws alone. Nothing here speaks of the program. No condition. eqIntS of the laws: two slices of ints hold the same ints. markIntS and heldIntS of the laws: a row is marked with k, k+1, ..; a marked row is told. Banks in memory; eqBank, markBank, heldBank of the laws; BankNew of the program and of the model. Banks as lists and as values in memory. szIntS, toIntS of the laws. Regions that draw their order, whose operations read old memory alone and whose calls hand back one value and leave old memory as it was: one walk of the lexical order serves. Nothing here speaks of the program. No condition. -/
import Derived.WalkKit
import Derived.Below
import Derived.Lib.Hide
import Derived.Deep.Draws
import Derived.Deep.QuietTactic
import Derived.BigQuiet
import Derived.IntWalk
import Derived.Laws.Rows
import Derived.Test.YtcnbephpadmboaaDoorProg
import Derived.Tactics
import Derived.Tactics2
import Derived.KernelRfl
import Derived.Outline
import Derived.Laws.MakeOwn
import Derived.Deep.OwnRows
set_option linter.unusedVariables false
set_option linter.unusedSimpArgs false
/-! Mem -/
namespace Go.Proofs.YtcnbephpadmboaaDoor
open Go.RowKit

/-- The worlds differ by draws alone. -/
def Qt (w w' : World) : Prop := ∃ q, w' = w.drewN q
theorem Qt.refl (w : World) : Qt w w := ⟨0, rfl⟩
theorem Qt.of (w : World) (n : Nat) : Qt w (w.drewN n) := ⟨n, rfl⟩
theorem Qt.drewN {w w' : World} (h : Qt w w') (n : Nat) : Qt w (w'.drewN n) := by
  obtain ⟨q, rfl⟩ := h
  exact ⟨q + n, by rw [World.drewN_drewN]⟩
theorem Qt.drew {w w' : World} (h : Qt w w') : Qt w w'.drew := h.drewN 1
theorem Qt.trans {a b c : World} (h : Qt a b) (k : Qt b c) : Qt a c := by
  obtain ⟨q, rfl⟩ := k
  exact h.drewN q

/-- The slice value '.slice A n c' holds the ints xs. -/
def Ints (w : World) (A : Option Addr) (n : Nat) (xs : List Int) : Prop :=
  xs.length = n ∧ (0 < n → ∃ b off, A = some ⟨b, off, none⟩ ∧ b < w.heap.size ∧ ∀ j x, xs[j]? = some x → w.cell? ⟨b, off + j, none⟩ = some (.int .i64 x))

theorem Ints.nil (w : World) (A : Option Addr) : Ints w A 0 [] := ⟨rfl, fun h => absurd h (by omega)⟩

theorem Ints.keep {w w' : World} {A : Option Addr} {n : Nat} {xs : List Int} (h : Ints w A n xs) (hs : w.heap.size ≤ w'.heap.size)
    (hk : ∀ b, b < w.heap.size → w'.heap[b]? = w.heap[b]?) : Ints w' A n xs :=
  ⟨h.1, fun hn => by
    obtain ⟨b, off, e, hb, hc⟩ := h.2 hn
    exact ⟨b, off, e, by omega, fun j x hx => (World.cell?_of_block (hk b hb)).trans (hc j x hx)⟩⟩

theorem Ints.below {w w' : World} {A : Option Addr} {n : Nat} {xs : List Int} (h : Ints w A n xs) (hb : Below w.heap.size w w') : Ints w' A n xs :=
  h.keep hb.size hb.block

theorem Ints.drewN {w : World} {A : Option Addr} {n : Nat} {xs : List Int} (h : Ints w A n xs) (k : Nat) : Ints (w.drewN k) A n xs := h
theorem Ints.drew {w : World} {A : Option Addr} {n : Nat} {xs : List Int} (h : Ints w A n xs) : Ints w.drew A n xs := h
theorem Ints.alloc {w : World} {A : Option Addr} {n : Nat} {xs : List Int} (h : Ints w A n xs) (o : Obj) : Ints (w.alloc o) A n xs :=
  h.below ((Below.refl _ _).alloc (Nat.le_refl _) o)

theorem Ints.at_ {w : World} {A : Option Addr} {n k : Nat} {xs : List Int} (h : Ints w A n xs) (hk : k < n) :
    ∃ b off, A = some ⟨b, off, none⟩ ∧ b < w.heap.size ∧ w.cell? ⟨b, off + k, none⟩ = some (.int .i64 (xs.getD k 0)) := by
  obtain ⟨b, off, e, hb, hc⟩ := h.2 (by omega)
  have hl : k < xs.length := by have := h.1; omega
  refine ⟨b, off, e, hb, ?_⟩
  rw [List.getD_eq_getElem?_getD, List.getElem?_eq_getElem hl]
  exact hc k _ (List.getElem?_eq_getElem hl)

/-- The block of a slice's memory. -/
def blk (A : Option Addr) (n : Nat) (b : Nat) : Prop := 0 < n ∧ ∃ a, A = some a ∧ a.block = b

/-- Of the blocks that were there only those in S may have turned. -/
structure Keeps (S : Nat → Prop) (w w' : World) : Prop where
  os : w'.os = w.os
  tape : w'.tape = w.tape
  output : w'.output = w.output
  size : w.heap.size ≤ w'.heap.size
  block : ∀ b, b < w.heap.size → ¬ S b → w'.heap[b]? = w.heap[b]?

def noBlk (_ : Nat) : Prop := False

theorem Keeps.refl (S : Nat → Prop) (w : World) : Keeps S w w := ⟨rfl, rfl, rfl, Nat.le_refl _, fun _ _ _ => rfl⟩
theorem Keeps.trans {S : Nat → Prop} {a b c : World} (h : Keeps S a b) (k : Keeps S b c) : Keeps S a c :=
  ⟨k.os.trans h.os, k.tape.trans h.tape, k.output.trans h.output, Nat.le_trans h.size k.size,
    fun i hi hs => (k.block i (Nat.lt_of_lt_of_le hi h.size) hs).trans (h.block i hi hs)⟩
theorem Keeps.more {S T : Nat → Prop} {w w' : World} (h : Keeps S w w') (hT : ∀ b, b < w.heap.size → S b → T b) : Keeps T w w' :=
  ⟨h.os, h.tape, h.output, h.size, fun i hi hs => h.block i hi (fun hS => hs (hT i hi hS))⟩
/-- Two steps, the second of which may turn what is new as well. -/
theorem Keeps.then {S T : Nat → Prop} {a b c : World} (h : Keeps S a b) (k : Keeps T b c) (hT : ∀ i, i < a.heap.size → T i → S i) : Keeps S a c :=
  ⟨k.os.trans h.os, k.tape.trans h.tape, k.output.trans h.output, Nat.le_trans h.size k.size,
    fun i hi hs => (k.block i (Nat.lt_of_lt_of_le hi h.size) (fun ht => hs (hT i hi ht))).trans (h.block i hi hs)⟩
theorem Keeps.drewN {S : Nat → Prop} {a w : World} (h : Keeps S a w) (n : Nat) : Keeps S a (w.drewN n) := ⟨h.os, h.tape, h.output, h.size, h.block⟩
theorem Keeps.drew {S : Nat → Prop} {a w : World} (h : Keeps S a w) : Keeps S a w.drew := ⟨h.os, h.tape, h.output, h.size, h.block⟩
theorem Keeps.qt {S : Nat → Prop} {a w w' : World} (h : Keeps S a w) (k : Qt w w') : Keeps S a w' := by
  obtain ⟨q, rfl⟩ := k
  exact h.drewN q
theorem Qt.keeps {w w' : World} (h : Qt w w') (S : Nat → Prop) : Keeps S w w' := (Keeps.refl S w).qt h
theorem Keeps.alloc {S : Nat → Prop} {a w : World} (h : Keeps S a w) (o : Obj) : Keeps S a (w.alloc o) :=
  ⟨h.os, h.tape, h.output, Nat.le_trans h.size (by simp), fun i hi hs => (Below.heap_alloc w o i (Nat.lt_of_lt_of_le hi h.size)).trans (h.block i hi hs)⟩
theorem Keeps.setCell {S : Nat → Prop} {a w : World} (h : Keeps S a w) {p : Addr} (hp : a.heap.size ≤ p.block ∨ S p.block) (u : Value) : Keeps S a (w.setCell p u) :=
  ⟨h.os, h.tape, h.output, by simpa [World.setCell] using h.size, fun i hi hs => (Below.heap_setCell w p u i (by
    rintro rfl
    rcases hp with hp | hp
    · omega
    · exact hs hp)).trans (h.block i hi hs)⟩
theorem Below.keeps {w w' : World} (h : Below w.heap.size w w') (S : Nat → Prop) : Keeps S w w' := ⟨h.os, h.tape, h.output, h.size, fun i hi _ => h.block i hi⟩
theorem Keeps.below {w w' : World} (h : Keeps noBlk w w') : Below w.heap.size w w' := ⟨h.os, h.tape, h.output, h.size, fun i hi => h.block i hi (fun x => x)⟩
theorem Keeps.of_grown {w w' : World} {row : Option Nat} (h : w.grownBy w' row) : Keeps (fun b => row = some b) w w' :=
  ⟨h.os, h.tape, h.output, h.size, fun i hi hs => h.block i hi (fun e => hs e.symm)⟩
theorem Keeps.cell {S : Nat → Prop} {w w' : World} (h : Keeps S w w') {b o : Nat} (hb : b < w.heap.size) (hs : ¬ S b) : w'.cell? ⟨b, o, none⟩ = w.cell? ⟨b, o, none⟩ :=
  World.cell?_of_block (h.block b hb hs)
theorem Keeps.frozen {S : Nat → Prop} {w w' : World} (h : Keeps S w w') {b o : Nat} (hb : b < w.heap.size) (hs : ¬ S b) : w'.frozen? ⟨b, o, none⟩ = w.frozen? ⟨b, o, none⟩ :=
  World.frozen?_of_block (h.block b hb hs)

theorem Ints.keeps {S : Nat → Prop} {w w' : World} {A : Option Addr} {n : Nat} {xs : List Int} (h : Ints w A n xs) (hk : Keeps S w w') (hs : ∀ b, blk A n b → ¬ S b) : Ints w' A n xs :=
  ⟨h.1, fun hn => by
    obtain ⟨b, off, e, hb, hc⟩ := h.2 hn
    exact ⟨b, off, e, Nat.lt_of_lt_of_le hb hk.size, fun j x hx => (hk.cell hb (hs b ⟨hn, _, e, rfl⟩)).trans (hc j x hx)⟩⟩

/-- A row of the call's own, from block lo on: the slice '.slice A n c' holds the ints xs, and may be written. -/
def Row (w : World) (lo : Nat) (A : Option Addr) (n : Nat) (xs : List Int) : Prop :=
  Ints w A n xs ∧ (0 < n → ∃ b off, A = some ⟨b, off, none⟩ ∧ lo ≤ b ∧ ∀ j, j < n → w.frozen? ⟨b, off + j, none⟩ = false)

theorem Row.ints {w : World} {lo : Nat} {A : Option Addr} {n : Nat} {xs : List Int} (h : Row w lo A n xs) : Ints w A n xs := h.1
theorem Row.nil (w : World) (lo : Nat) (A : Option Addr) : Row w lo A 0 [] := ⟨Ints.nil w A, fun h => absurd h (by omega)⟩
theorem Row.less {w : World} {lo lo' : Nat} {A : Option Addr} {n : Nat} {xs : List Int} (h : Row w lo A n xs) (hl : lo' ≤ lo) : Row w lo' A n xs :=
  ⟨h.1, fun hn => by
    obtain ⟨b, off, e, hb, hf⟩ := h.2 hn
    exact ⟨b, off, e, by omega, hf⟩⟩
theorem Row.keeps {S : Nat → Prop} {w w' : World} {lo : Nat} {A : Option Addr} {n : Nat} {xs : List Int} (h : Row w lo A n xs) (hk : Keeps S w w') (hs : ∀ b, blk A n b → ¬ S b) : Row w' lo A n xs :=
  ⟨h.1.keeps hk hs, fun hn => by
    obtain ⟨b, off, e, hb, hf⟩ := h.2 hn
    obtain ⟨b', off', e', hb', _⟩ := h.1.2 hn
    rw [e] at e'
    injection e' with e'
    injection e' with e1 e2
    subst e1
    exact ⟨b, off, e, hb, fun j hj => (hk.frozen hb' (hs b ⟨hn, _, e, rfl⟩)).trans (hf j hj)⟩⟩
theorem Row.at_ {w : World} {lo : Nat} {A : Option Addr} {n k : Nat} {xs : List Int} (h : Row w lo A n xs) (hk : k < n) :
    ∃ b off, A = some ⟨b, off, none⟩ ∧ lo ≤ b ∧ b < w.heap.size ∧ w.cell? ⟨b, off + k, none⟩ = some (.int .i64 (xs.getD k 0)) ∧ w.frozen? ⟨b, off + k, none⟩ = false := by
  obtain ⟨b, off, e, hb, hc⟩ := h.1.at_ hk
  obtain ⟨b', off', e', hl, hf⟩ := h.2 (by omega)
  rw [e] at e'
  injection e' with e'
  injection e' with e1 e2
  subst e1
  subst e2
  exact ⟨b, off, e, hl, hb, hc, hf k hk⟩

theorem Ints.lt {w : World} {A : Option Addr} {n : Nat} {xs : List Int} (h : Ints w A n xs) {b : Nat} (hb : blk A n b) : b < w.heap.size := by
  obtain ⟨hn, a, rfl, rfl⟩ := hb
  obtain ⟨b, off, e, hl, _⟩ := h.2 hn
  injection e with e
  subst e
  exact hl
theorem Row.lt {w : World} {lo : Nat} {A : Option Addr} {n : Nat} {xs : List Int} (h : Row w lo A n xs) {b : Nat} (hb : blk A n b) : b < w.heap.size := h.1.lt hb
theorem Row.ge {w : World} {lo : Nat} {A : Option Addr} {n : Nat} {xs : List Int} (h : Row w lo A n xs) {b : Nat} (hb : blk A n b) : lo ≤ b := by
  obtain ⟨hn, a, rfl, rfl⟩ := hb
  obtain ⟨b, off, e, hl, _⟩ := h.2 hn
  injection e with e
  subst e
  exact hl
theorem Row.alloc {w : World} {lo : Nat} {A : Option Addr} {n : Nat} {xs : List Int} (h : Row w lo A n xs) (o : Obj) : Row (w.alloc o) lo A n xs :=
  h.keeps ((Keeps.refl noBlk w).alloc o) fun _ _ x => x

/-- One store into a row. -/
theorem Ints.set_ {w : World} {b off n k : Nat} {xs : List Int} (h : Ints w (some ⟨b, off, none⟩) n xs) (hk : k < n) (x : Int) :
    Ints (w.setCell ⟨b, off + k, none⟩ (.int .i64 x)) (some ⟨b, off, none⟩) n (xs.set k x) := by
  obtain ⟨hl, h2⟩ := h
  refine ⟨by simpa using hl, fun hn => ?_⟩
  obtain ⟨b', off', e', hb, hc⟩ := h2 hn
  injection e' with e'
  injection e' with e1 e2
  subst e1
  subst e2
  refine ⟨b, off, rfl, by simpa [World.setCell] using hb, fun j y hy => ?_⟩
  have hjl : j < xs.length := by
    have := (List.getElem?_eq_some_iff.1 hy).1
    simpa using this
  by_cases hjk : j = k
  · subst hjk
    have : y = x := by
      rw [List.getElem?_set_self (by omega)] at hy
      injection hy with hy
      exact hy.symm
    subst this
    exact World.cell?_setCell_same _ _ _ (hc j _ (List.getElem?_eq_getElem hjl))
  · rw [List.getElem?_set_ne (by omega)] at hy
    rw [World.cell?_setCell_other _ _ _ _ (by intro e; injection e with _ e; omega)]
    exact hc j y hy
theorem Row.set_ {w : World} {lo b off n k : Nat} {xs : List Int} (h : Row w lo (some ⟨b, off, none⟩) n xs) (hk : k < n) (x : Int) :
    Row (w.setCell ⟨b, off + k, none⟩ (.int .i64 x)) lo (some ⟨b, off, none⟩) n (xs.set k x) :=
  ⟨h.1.set_ hk x, fun hn => by
    obtain ⟨b', off', e', hl, hf⟩ := h.2 hn
    exact ⟨b', off', e', hl, fun j hj => by rw [World.frozen?_setCell]; exact hf j hj⟩⟩
theorem Row.drew {w : World} {lo : Nat} {A : Option Addr} {n : Nat} {xs : List Int} (h : Row w lo A n xs) : Row w.drew lo A n xs := h
theorem Row.drewN {w : World} {lo : Nat} {A : Option Addr} {n : Nat} {xs : List Int} (h : Row w lo A n xs) (k : Nat) : Row (w.drewN k) lo A n xs := h
theorem Row.qt {w w' : World} {lo : Nat} {A : Option Addr} {n : Nat} {xs : List Int} (h : Row w lo A n xs) (k : Qt w w') : Row w' lo A n xs := by
  obtain ⟨q, rfl⟩ := k
  exact h
theorem Ints.qt {w w' : World} {A : Option Addr} {n : Nat} {xs : List Int} (h : Ints w A n xs) (k : Qt w w') : Ints w' A n xs := by
  obtain ⟨q, rfl⟩ := k
  exact h
/-- A block just made is a row. -/
theorem Row.made (w : World) (t : TypeId) (cs : Array Value) (n : Nat) (xs : List Int) (hl : xs.length = n) (hc : ∀ (j : Nat) (x : Int), xs[j]? = some x → cs[j]? = some (Value.int .i64 x)) :
    Row (w.alloc (.cells cs t)) w.heap.size (some ⟨w.heap.size, 0, none⟩) n xs :=
  ⟨⟨hl, fun _ => ⟨_, _, rfl, by simp, fun j x hx => by
      rw [Nat.zero_add, World.cell?_alloc_new]
      exact hc j x hx⟩⟩,
    fun _ => ⟨_, _, rfl, Nat.le_refl _, fun j _ => World.frozen?_alloc_new w cs t _⟩⟩

theorem Row.made' (w : World) (lo g : Nat) (hg : g = w.heap.size) (hlo : lo ≤ g) (t : TypeId) (cs : Array Value) (n : Nat) (xs : List Int) (hl : xs.length = n)
    (hc : ∀ (j : Nat) (x : Int), xs[j]? = some x → cs[j]? = some (Value.int .i64 x)) : Row (w.alloc (.cells cs t)) lo (some ⟨g, 0, none⟩) n xs := by
  subst hg
  exact (Row.made w t cs n xs hl hc).less hlo
theorem blk_some {a : Addr} {n b : Nat} (h : blk (some a) n b) : a.block = b := by
  obtain ⟨_, x, e, hx⟩ := h
  injection e with e
  subst e
  exact hx
theorem blk_mk {a : Addr} {n : Nat} (h : 0 < n) : blk (some a) n a.block := ⟨h, a, rfl, rfl⟩

/-- A block that is known whole: a variable, a struct behind a pointer. -/
def Box (w : World) (g : Nat) (t : TypeId) (cs : Array Value) : Prop := w.heap[g]? = some (.cells cs t (0, 0))
theorem Box.lt {w : World} {g : Nat} {t : TypeId} {cs : Array Value} (h : Box w g t cs) : g < w.heap.size := by
  rcases Nat.lt_or_ge g w.heap.size with hlt | hge
  · exact hlt
  · unfold Box at h
    rw [Array.getElem?_eq_none hge] at h
    cases h
theorem Box.cell {w : World} {g : Nat} {t : TypeId} {cs : Array Value} (h : Box w g t cs) (i : Nat) : w.cell? ⟨g, i, none⟩ = cs[i]? := cell_of_row w g i cs t (0, 0) h
theorem Box.frozen {w : World} {g : Nat} {t : TypeId} {cs : Array Value} (h : Box w g t cs) (i : Nat) : w.frozen? ⟨g, i, none⟩ = false := by
  unfold Box at h
  simp [World.frozen?, h]
theorem Box.new (w : World) (g : Nat) (hg : g = w.heap.size) (t : TypeId) (cs : Array Value) : Box (w.alloc (.cells cs t)) g t cs := by
  subst hg
  exact heap_alloc_new w _
theorem Box.keeps {S : Nat → Prop} {w w' : World} {g : Nat} {t : TypeId} {cs : Array Value} (h : Box w g t cs) (hk : Keeps S w w') (hs : ¬ S g) : Box w' g t cs := (hk.block g h.lt hs).trans h
theorem Box.alloc {w : World} {g : Nat} {t : TypeId} {cs : Array Value} (h : Box w g t cs) (o : Obj) : Box (w.alloc o) g t cs := h.keeps ((Keeps.refl noBlk w).alloc o) fun x => x
theorem Box.drew {w : World} {g : Nat} {t : TypeId} {cs : Array Value} (h : Box w g t cs) : Box w.drew g t cs := h
theorem Box.drewN {w : World} {g : Nat} {t : TypeId} {cs : Array Value} (h : Box w g t cs) (n : Nat) : Box (w.drewN n) g t cs := h
theorem Box.set_ {w : World} {g : Nat} {t : TypeId} {cs : Array Value} (h : Box w g t cs) (i : Nat) (u : Value) : Box (w.setCell ⟨g, i, none⟩ u) g t (cs.setIfInBounds i u) := by
  unfold Box at h ⊢
  simp [World.setCell, Array.getElem?_modify, h]
theorem Box.far {w : World} {g : Nat} {t : TypeId} {cs : Array Value} (h : Box w g t cs) {p : Addr} (hp : g ≠ p.block) (u : Value) : Box (w.setCell p u) g t cs := (Below.heap_setCell w p u g hp).trans h
theorem Row.far {w : World} {lo : Nat} {A : Option Addr} {n : Nat} {xs : List Int} (h : Row w lo A n xs) {p : Addr} (hp : ¬ blk A n p.block) (u : Value) : Row (w.setCell p u) lo A n xs :=
  h.keeps (S := fun b => b = p.block) ((Keeps.refl (fun b => b = p.block) w).setCell (p := p) (.inr rfl) u) fun b hb e => hp (by subst e; exact hb)
theorem Ints.far {w : World} {A : Option Addr} {n : Nat} {xs : List Int} (h : Ints w A n xs) {p : Addr} (hp : ¬ blk A n p.block) (u : Value) : Ints (w.setCell p u) A n xs :=
  h.keeps (S := fun b => b = p.block) ((Keeps.refl (fun b => b = p.block) w).setCell (p := p) (.inr rfl) u) fun b hb e => hp (by subst e; exact hb)

/-- One block, two blocks. -/
def one (g b : Nat) : Prop := b = g
def two (g h b : Nat) : Prop := b = g ∨ b = h
theorem Keeps.set1 {g : Nat} {a w : World} (k : Keeps (one g) a w) (o : Nat) (u : Value) : Keeps (one g) a (w.setCell ⟨g, o, none⟩ u) := k.setCell (p := ⟨g, o, none⟩) (.inr rfl) u
theorem Keeps.setA {g h : Nat} {a w : World} (k : Keeps (two g h) a w) (o : Nat) (u : Value) : Keeps (two g h) a (w.setCell ⟨g, o, none⟩ u) := k.setCell (p := ⟨g, o, none⟩) (.inr (.inl rfl)) u
theorem Keeps.setB {g h : Nat} {a w : World} (k : Keeps (two g h) a w) (o : Nat) (u : Value) : Keeps (two g h) a (w.setCell ⟨h, o, none⟩ u) := k.setCell (p := ⟨h, o, none⟩) (.inr (.inr rfl)) u
theorem Keeps.new {g : Nat} {a w : World} (k : Keeps noBlk a w) (hg : a.heap.size ≤ g) (o : Nat) (u : Value) : Keeps noBlk a (w.setCell ⟨g, o, none⟩ u) := k.setCell (p := ⟨g, o, none⟩) (.inl hg) u

end Go.Proofs.YtcnbephpadmboaaDoor

/-! Eq -/
namespace Go.Proofs.YtcnbephpadmboaaDoor
open Go.RowKit

theorem take_eq_step {xs ys : List Int} {k : Nat} (h : xs.take k = ys.take k) (hx : k < xs.length) (hy : k < ys.length) (he : xs.getD k 0 = ys.getD k 0) :
    xs.take (k + 1) = ys.take (k + 1) := by
  rw [List.take_succ_eq_append_getElem hx, List.take_succ_eq_append_getElem hy, h]
  simp [List.getD_eq_getElem?_getD, List.getElem?_eq_getElem hx, List.getElem?_eq_getElem hy] at he
  rw [he]

end Go.Proofs.YtcnbephpadmboaaDoor

/-! Mark -/
namespace Go.Proofs.YtcnbephpadmboaaDoor
open Go.RowKit

/-- k, k+1, .., n of them. -/
def iota (k : Int) (n : Nat) : List Int := (List.range n).map fun (i : Nat) => k + (i : Int)
theorem iota_length (k : Int) (n : Nat) : (iota k n).length = n := by simp [iota]
theorem iota_getD (k : Int) (n i : Nat) (h : i < n) : (iota k n).getD i 0 = k + i := by simp [iota, List.getD_eq_getElem?_getD, h]

/-- The first i of a row are marked. -/
def marked (k : Int) (i : Nat) (xs : List Int) : List Int := iota k i ++ xs.drop i
theorem marked_zero (k : Int) (xs : List Int) : marked k 0 xs = xs := by simp [marked, iota]
theorem marked_step (k : Int) (i : Nat) (xs : List Int) (h : i < xs.length) : (marked k i xs).set i (k + i) = marked k (i + 1) xs := by
  apply List.ext_getElem?
  intro j
  simp only [marked, iota]
  rw [List.getElem?_set]
  by_cases hj : i = j
  · subst hj
    rw [if_pos rfl, if_pos (by simp; omega), List.getElem?_append_left (by simp)]
    simp
  · rw [if_neg hj]
    by_cases hlt : j < i
    · rw [List.getElem?_append_left (by simpa using hlt), List.getElem?_append_left (by simp; omega)]
      simp [hlt, Nat.lt_succ_of_lt hlt]
    · rw [List.getElem?_append_right (by simp; omega), List.getElem?_append_right (by simp; omega)]
      simp only [List.length_map, List.length_range, List.getElem?_drop]
      congr 1
      omega
theorem marked_all (k : Int) (n : Nat) (xs : List Int) (h : xs.length = n) : marked k n xs = iota k n := by
  simp [marked, List.drop_of_length_le (Nat.le_of_eq h)]

def RetMark (w : World) (lo : Nat) (A : Option Addr) (n : Nat) (k : Int) (e : Ending) (w' : World) : Prop :=
  e = .returned (.int .i64 (k + n)) ∧ Row w' lo A n (iota k n) ∧ Keeps (blk A n) w w'

end Go.Proofs.YtcnbephpadmboaaDoor

/-! Bank -/
namespace Go.Proofs.YtcnbephpadmboaaDoor
open Go.RowKit

def RetMark2 (w : World) (lo : Nat) (A1 A2 : Option Addr) (n1 n2 : Nat) (k : Int) (e : Ending) (w' : World) : Prop :=
  e = .returned (.int .i64 (k + n1 + n2)) ∧ Row w' lo A1 n1 (iota k n1) ∧ Row w' lo A2 n2 (iota (k + n1) n2) ∧ Keeps (fun b => blk A1 n1 b ∨ blk A2 n2 b) w w'

end Go.Proofs.YtcnbephpadmboaaDoor

/-! Bnk -/
namespace Go.Proofs.YtcnbephpadmboaaDoor
open Go.RowKit

theorem info_int : (Tryd.prog.info? 3).map (fun i => (i.zero, i.size, i.bytes)) = some (some (.int .i64 0), 1, 8) := by kernel_rfl

/-- What a bank holds. -/
structure BankL where
  own : List Int
  notes : List Int
  locked : Int

/-- The value v is the bank b in memory of the call's own, from block lo on; its two rows lie in blocks of their own. -/
def BankAt (w : World) (lo : Nat) (v : Value) (b : BankL) : Prop :=
  ∃ A1 n1 c1 A2 n2 c2, v = .agg #[.slice A1 n1 c1, .slice A2 n2 c2, .int .i64 b.locked] ∧ Row w lo A1 n1 b.own ∧ Row w lo A2 n2 b.notes ∧
    (∀ i, blk A1 n1 i → ¬ blk A2 n2 i) ∧ n1 ≤ c1 ∧ n2 ≤ c2 ∧ c1 ≤ maxLen ∧ c2 ≤ maxLen

def RetBank (w : World) (b : BankL) (e : Ending) (w' : World) : Prop := ∃ v, e = .returned v ∧ BankAt w' w.heap.size v b ∧ Keeps noBlk w w'

def newL : BankL := ⟨[10, 10, 10], [0, 0, 0], 0⟩

theorem ints3 (a b c : Int) : ∀ (j : Nat) (x : Int), [a, b, c][j]? = some x → #[Value.int .i64 a, Value.int .i64 b, Value.int .i64 c][j]? = some (Value.int .i64 x) := by
  intro j x h
  match j, h with
  | 0, h => simp at h; subst h; rfl
  | 1, h => simp at h; subst h; rfl
  | 2, h => simp at h; subst h; rfl

theorem made_ints (n : Nat) : ∀ (j : Nat) (x : Int), (List.replicate n (0 : Int))[j]? = some x → (madeCells #[Value.int .i64 0] n)[j]? = some (Value.int .i64 x) := by
  intro j x h
  rw [List.getElem?_replicate] at h
  split at h
  · injection h with h
    subst h
    simp [madeCells, *, Nat.mod_one]
  · cases h

def tens (k : Nat) : List Int := (List.replicate k (10 : Int) ++ [0, 0, 0]).take 3
theorem tens_step (k : Nat) (h : k < 3) : (tens k).set k 10 = tens (k + 1) := by
  match k, h with
  | 0, _ => rfl
  | 1, _ => rfl
  | 2, _ => rfl

end Go.Proofs.YtcnbephpadmboaaDoor

/-! ToI -/
namespace Go.Proofs.YtcnbephpadmboaaDoor
open Go.RowKit

/-- The first k of a row of noughts are as xs. -/
def filled (xs : List Int) (k : Nat) : List Int := xs.take k ++ List.replicate (xs.length - k) 0
theorem filled_zero (xs : List Int) : filled xs 0 = List.replicate xs.length 0 := by simp [filled]
theorem filled_all (xs : List Int) (k : Nat) (h : k = xs.length) : filled xs k = xs := by subst h; simp [filled]
theorem filled_step (xs : List Int) (k : Nat) (h : k < xs.length) : (filled xs k).set k (xs.getD k 0) = filled xs (k + 1) := by
  unfold filled
  apply List.ext_getElem?
  intro j
  rw [List.getElem?_set]
  by_cases hj : k = j
  · subst hj
    rw [if_pos rfl, if_pos (by simp; omega), List.getElem?_append_left (by simp; omega), List.getElem?_take_of_lt (by omega), List.getD_eq_getElem?_getD, List.getElem?_eq_getElem h]
    rfl
  · rw [if_neg hj]
    by_cases hlt : j < k
    · rw [List.getElem?_append_left (by simp; omega), List.getElem?_append_left (by simp; omega), List.getElem?_take_of_lt hlt, List.getElem?_take_of_lt (by omega)]
    · rw [List.getElem?_append_right (by simp; omega), List.getElem?_append_right (by simp; omega)]
      simp only [List.length_take, List.getElem?_replicate]
      have e1 : min k xs.length = k := by omega
      have e2 : min (k + 1) xs.length = k + 1 := by omega
      rw [e1, e2]
      by_cases hx : j < xs.length
      · rw [if_pos (by omega), if_pos (by omega)]
      · rw [if_neg (by omega), if_neg (by omega)]

def RetRow (w : World) (xs : List Int) (e : Ending) (w' : World) : Prop :=
  ∃ A, e = .returned (.slice A xs.length xs.length) ∧ Row w' w.heap.size A xs.length xs ∧ Keeps noBlk w w'

end Go.Proofs.YtcnbephpadmboaaDoor

/-! Grow -/
namespace Go.Proofs.YtcnbephpadmboaaDoor
open Go.RowKit

/-- A world that grew from w. -/
structure GW (w : World) where
  val : World
  keep : Keeps noBlk w val
instance (w : World) : Nonempty (GW w) := ⟨⟨w, Keeps.refl _ _⟩⟩
theorem GW.cell {w : World} {b o : Nat} {v : Value} (h : w.cell? ⟨b, o, none⟩ = some v) (u : GW w) : u.val.cell? ⟨b, o, none⟩ = some v :=
  (u.keep.cell (World.block_lt_of_cell? w _ h) (fun h => h)).trans h
theorem wp_region_grow {P : Program} {id : Nat} {Q : Exit → Act → World → Prop} {a : Act} {w : World} {l : List Oper} (hm : P.follows .mixedOrders = true) (hB : Region.lexB .any l.toArray = true)
    (h : wpQuiet P l.toArray (fun w' => ∃ u : GW w, w' = u.val) (fun a' => ∀ w', (∃ u : GW w, w' = u.val) → Q .normal a' w') l a) : (Code.region id l.toArray true).wp P Q a w :=
  wp_region_quiet (C := fun w' => ∃ u : GW w, w' = u.val) hm hB ⟨⟨_, (Keeps.refl _ _).drew⟩, rfl⟩ (by simpa using h)
theorem Calls.grow {P : Program} {f : FuncId} {args : Array Value} {w : World} {v : Value} (u : GW w) (h : Calls P f args u.val fun e w' => e = .returned v ∧ Keeps noBlk u.val w') :
    Calls P f args u.val fun e w'' => e = .returned v ∧ ∃ u' : GW w, w'' = u'.val :=
  h.mono fun _ _ ⟨he, hk⟩ => ⟨he, ⟨_, u.keep.trans hk⟩, rfl⟩
end Go.Proofs.YtcnbephpadmboaaDoor
