/- The maps of the program's ledger: users 1 to n, each with an amount. The program's ledger: amountMap, amountList, hasUser, canTake. -/
import Derived.Test.YtcnbephpadmboaaGreatDoorUBOk
import Derived.Maps.Own
import Derived.Maps.OwnOps
import Derived.Maps.OwnSet
import Derived.Maps.Views
import Derived.Test.YtcnbephpadmboaaGreatDoorUOk
set_option linter.unusedVariables false
set_option linter.unusedSimpArgs false
/-! Map -/
namespace Go.Proofs.YtcnbephpadmboaaGreatDoor
open Go.RowKit Go.Maps
set_option maxRecDepth 100000

theorem keyI : Keyed Tryz.prog 3 := int_keyed Tryz.underlying3
def M64 (x : Int) : Prop := -9223372036854775808 ≤ x ∧ x ≤ 9223372036854775807
theorem M64.wf {x : Int} (h : M64 x) : (Lit.int .i64 x).wf = true := WalkArith.wf_i64 h
theorem keyIs {k : Int} (h : M64 k) : keyOf Tryz.prog 3 (.int .i64 k) = some (.int .i64 k) := keyOf_int_mk Tryz.underlying3 h.wf

def mget (xs : List Int) (k : Int) : Int := if 1 ≤ k ∧ k ≤ xs.length then xs.getD (k - 1).toNat 0 else 0
def mhas (xs : List Int) (k : Int) : Bool := decide (1 ≤ k) && decide (k ≤ xs.length)
def mkey (k : Int) : Lit := .int .i64 k
def mval (x : Int) : DataW Unit := .lit (.int .i64 x)

/-- Block B is the map from 1, 2, .. to xs; n bounds its entries. -/
def MapIs (w : World) (B n : Nat) (xs : List Int) : Prop :=
  ∃ D : DataW Unit, w.ownsMap Tryz.prog 3 (plainElem Tryz.prog 3) B n D ∧ n ≤ 1000 ∧ Maps.size D = xs.length ∧ (∀ k, D.atKey (mkey k) (mval 0) = mval (mget xs k)) ∧ ∀ k, Maps.has D (mkey k) = mhas xs k

theorem MapIs.lt {w : World} {B n : Nat} {xs : List Int} (h : MapIs w B n xs) : B < w.heap.size := by
  obtain ⟨D, h, _⟩ := h
  exact h.lt
theorem MapIs.keeps {S : Nat → Prop} {w w' : World} {B n : Nat} {xs : List Int} (h : MapIs w B n xs) (hk : Keeps S w w') (hs : ¬ S B) : MapIs w' B n xs := by
  have hlt := h.lt
  obtain ⟨D, ⟨es, clock, hb, r⟩, q⟩ := h
  exact ⟨D, ⟨es, clock, (hk.block B hlt hs).trans hb, r⟩, q⟩
theorem MapIs.alloc {w : World} {B n : Nat} {xs : List Int} (h : MapIs w B n xs) (o : Obj) : MapIs (w.alloc o) B n xs := h.keeps ((Keeps.refl noBlk w).alloc o) fun x => x
theorem MapIs.drew {w : World} {B n : Nat} {xs : List Int} (h : MapIs w B n xs) : MapIs w.drew B n xs := h
theorem MapIs.drewN {w : World} {B n : Nat} {xs : List Int} (h : MapIs w B n xs) (k : Nat) : MapIs (w.drewN k) B n xs := h
theorem MapIs.new (w : World) (B : Nat) (hB : B = w.heap.size) : MapIs (w.alloc (.map #[] 0)) B 0 [] := by
  subst hB
  refine ⟨.map [], World.ownsMap_made w _ _ _, by omega, rfl, fun k => ?_, fun k => ?_⟩
  · have : ¬ (1 ≤ k ∧ k ≤ (([] : List Int).length : Int)) := by simp; omega
    simp only [mget, if_neg this]
    rfl
  · simp [mhas, Maps.has]
    omega

/-- len(m) -/
theorem MapIs.len {w : World} {B n : Nat} {xs : List Int} (h : MapIs w B n xs) (ty : TypeId) : (Builtin.len_ #[ 138 ] ty #[.map (some B)]).run Tryz.prog w = .ok (.int .i64 (xs.length : Int)) w := by
  obtain ⟨D, ho, _, hsz, _, _⟩ := h
  rw [ho.len Tryz.underlying138 ty, hsz]

theorem mkey_ne {a b : Int} (h : a ≠ b) : mkey a ≠ mkey b := fun e => h (by injection e)
theorem mkey_lit (k : Int) : WideAt.IsKeyLit (mkey k) := by simp [mkey, WideAt.IsKeyLit]

/-- m[k] = x at a key that is there. -/
theorem MapIs.put {w : World} {B n : Nat} {xs : List Int} (h : MapIs w B n xs) (hn : n + 1 ≤ 1000) {k x : Int} (hk : 1 ≤ k ∧ k ≤ xs.length) (hx : M64 x) (hl : xs.length ≤ 1000000) :
    ∃ w', (Instr.mapUpdate 138 (.map (some B)) (.int .i64 k) (.int .i64 x)).run Tryz.prog w = .ok () w' ∧ MapIs w' B (n + 1) (xs.set (k - 1).toNat x) ∧ Keeps (one B) w w' := by
  obtain ⟨D, ho, _, hsz, hat, hhas⟩ := h
  have hkI : M64 k := ⟨by omega, by omega⟩
  obtain ⟨w', hrun, ho', hg⟩ := ho.update keyI Tryz.underlying138 (by unfold maxLen; omega) (keyIs hkI) (plainElem_int Tryz.underlying3 hx.wf)
  have hM := ho.isMap
  refine ⟨w', hrun, ⟨_, ho', hn, ?_, fun j => ?_, fun j => ?_⟩, (Keeps.of_grown hg).more fun b _ e => by injection e with e; exact e.symm⟩
  · have e := size_put (k := mkey k) (ho.tidy keyI) (mval x)
    unfold mkey mval at e
    rw [e, if_pos (by have := hhas k; unfold mkey at this; rw [this]; simp [mhas, hk]), hsz]
    simp
  · by_cases hj : j = k
    · subst hj
      have e := atKey_put_same hM (mkey_lit j) (mval x) (mval 0)
      unfold mkey mval at e
      show DataW.atKey _ (mkey j) (mval 0) = _
      unfold mkey mval
      rw [e]
      unfold mget
      rw [if_pos (by simpa using hk), List.getD_eq_getElem?_getD, List.getElem?_set_self (by omega)]
      rfl
    · have e := atKey_put_other (D := D) (mkey_ne hj) (mval x) (mval 0)
      have e2 := hat j
      unfold mkey mval at e e2 ⊢
      rw [e, e2]
      unfold mget
      simp only [List.length_set]
      by_cases h1 : 1 ≤ j ∧ j ≤ xs.length
      · rw [if_pos h1, if_pos h1]
        simp only [List.getD_eq_getElem?_getD]
        rw [List.getElem?_set_ne (by omega)]
      · rw [if_neg h1, if_neg h1]
  · by_cases hj : j = k
    · subst hj
      have e := has_put_same hM (mkey_lit j) (mval x)
      unfold mkey mval at e
      unfold mkey
      rw [e]
      simp [mhas, hk]
    · have e := has_put_other (D := D) (mkey_ne hj) (mval x)
      have e2 := hhas j
      unfold mkey mval at e
      unfold mkey at e2 ⊢
      rw [e, e2]
      simp [mhas]

/-- m[k] = x at the next key. -/
theorem MapIs.add {w : World} {B n : Nat} {xs : List Int} (h : MapIs w B n xs) (hn : n + 1 ≤ 1000) {k x : Int} (hk : k = xs.length + 1) (hx : M64 x) (hl : xs.length ≤ 1000000) :
    ∃ w', (Instr.mapUpdate 138 (.map (some B)) (.int .i64 k) (.int .i64 x)).run Tryz.prog w = .ok () w' ∧ MapIs w' B (n + 1) (xs ++ [x]) ∧ Keeps (one B) w w' := by
  obtain ⟨D, ho, _, hsz, hat, hhas⟩ := h
  have hkI : M64 k := ⟨by omega, by omega⟩
  obtain ⟨w', hrun, ho', hg⟩ := ho.update keyI Tryz.underlying138 (by unfold maxLen; omega) (keyIs hkI) (plainElem_int Tryz.underlying3 hx.wf)
  have hM := ho.isMap
  refine ⟨w', hrun, ⟨_, ho', hn, ?_, fun j => ?_, fun j => ?_⟩, (Keeps.of_grown hg).more fun b _ e => by injection e with e; exact e.symm⟩
  · have e := size_put (k := mkey k) (ho.tidy keyI) (mval x)
    unfold mkey mval at e
    rw [e, if_neg (by have := hhas k; unfold mkey at this; rw [this]; simp [mhas]; omega), hsz]
    simp
  · by_cases hj : j = k
    · subst hj
      have e := atKey_put_same hM (mkey_lit j) (mval x) (mval 0)
      unfold mkey mval at e
      show DataW.atKey _ (mkey j) (mval 0) = _
      unfold mkey mval
      rw [e]
      unfold mget
      have e3 : (j - 1).toNat = xs.length := by omega
      rw [if_pos (by simp; omega), e3]
      simp
    · have e := atKey_put_other (D := D) (mkey_ne hj) (mval x) (mval 0)
      have e2 := hat j
      unfold mkey mval at e e2 ⊢
      rw [e, e2]
      unfold mget
      by_cases h1 : 1 ≤ j ∧ j ≤ xs.length
      · rw [if_pos h1, if_pos (by simp; omega)]
        simp only [List.getD_eq_getElem?_getD]
        rw [List.getElem?_append_left (by omega)]
      · rw [if_neg h1, if_neg (by simp; omega)]
  · by_cases hj : j = k
    · subst hj
      have e := has_put_same hM (mkey_lit j) (mval x)
      unfold mkey mval at e
      unfold mkey
      rw [e]
      simp [mhas]
      omega
    · have e := has_put_other (D := D) (mkey_ne hj) (mval x)
      have e2 := hhas j
      unfold mkey mval at e
      unfold mkey at e2 ⊢
      rw [e, e2, Bool.eq_iff_iff]
      simp [mhas]
      omega
end Go.Proofs.YtcnbephpadmboaaGreatDoor

/-! ILed -/
namespace Go.Proofs.YtcnbephpadmboaaGreatDoor
open Go.RowKit
set_option maxRecDepth 100000

end Go.Proofs.YtcnbephpadmboaaGreatDoor
