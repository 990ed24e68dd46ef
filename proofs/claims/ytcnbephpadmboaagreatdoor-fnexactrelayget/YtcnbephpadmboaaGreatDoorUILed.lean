/- The maps of the program's ledger: users 1 to n, each with an amount. The program's ledger: amountMap, amountList, hasUser, canTake. -/
import Derived.Test.YtcnbephpadmboaaGreatDoorUBOk
import Derived.Maps.Own
import Derived.Maps.OwnOps
import Derived.Maps.OwnSet
import Derived.Maps.Views
import Derived.Test.YtcnbephpadmboaaGreatDoorUOk
set_option linter.unusedVariables false
set_option linter.unusedSimpArgs false
/-! Map -/
namespace Go.Proofs.YtcnbephpadmboaaGreatDoor
open Go.RowKit Go.Maps
set_option maxRecDepth 100000

theorem keyI : Keyed Tryz.prog 3 := int_keyed Tryz.underlying3
theorem zeroI (w : World) : (zeroValue 3).run Tryz.prog w = .ok (.int .i64 0) w := by kernel_rfl
def M64 (x : Int) : Prop := -9223372036854775808 ≤ x ∧ x ≤ 9223372036854775807
theorem M64.wf {x : Int} (h : M64 x) : (Lit.int .i64 x).wf = true := WalkArith.wf_i64 h
theorem keyIs {k : Int} (h : M64 k) : keyOf Tryz.prog 3 (.int .i64 k) = some (.int .i64 k) := keyOf_int_mk Tryz.underlying3 h.wf

def mget (xs : List Int) (k : Int) : Int := if 1 ≤ k ∧ k ≤ xs.length then xs.getD (k - 1).toNat 0 else 0
def mhas (xs : List Int) (k : Int) : Bool := decide (1 ≤ k) && decide (k ≤ xs.length)
def mkey (k : Int) : Lit := .int .i64 k
def mval (x : Int) : DataW Unit := .lit (.int .i64 x)

/-- Block B is the map from 1, 2, .. to xs; n bounds its entries. -/
def MapIs (w : World) (B n : Nat) (xs : List Int) : Prop :=
  ∃ D : DataW Unit, w.ownsMap Tryz.prog 3 (plainElem Tryz.prog 3) B n D ∧ n ≤ 1000 ∧ Maps.size D = xs.length ∧ (∀ k, D.atKey (mkey k) (mval 0) = mval (mget xs k)) ∧ ∀ k, Maps.has D (mkey k) = mhas xs k

theorem MapIs.lt {w : World} {B n : Nat} {xs : List Int} (h : MapIs w B n xs) : B < w.heap.size := by
  obtain ⟨D, h, _⟩ := h
  exact h.lt
theorem MapIs.keeps {S : Nat → Prop} {w w' : World} {B n : Nat} {xs : List Int} (h : MapIs w B n xs) (hk : Keeps S w w') (hs : ¬ S B) : MapIs w' B n xs := by
  have hlt := h.lt
  obtain ⟨D, ⟨es, clock, hb, r⟩, q⟩ := h
  exact ⟨D, ⟨es, clock, (hk.block B hlt hs).trans hb, r⟩, q⟩
theorem MapIs.alloc {w : World} {B n : Nat} {xs : List Int} (h : MapIs w B n xs) (o : Obj) : MapIs (w.alloc o) B n xs := h.keeps ((Keeps.refl noBlk w).alloc o) fun x => x
theorem MapIs.drew {w : World} {B n : Nat} {xs : List Int} (h : MapIs w B n xs) : MapIs w.drew B n xs := h
theorem MapIs.drewN {w : World} {B n : Nat} {xs : List Int} (h : MapIs w B n xs) (k : Nat) : MapIs (w.drewN k) B n xs := h
theorem MapIs.new (w : World) (B : Nat) (hB : B = w.heap.size) : MapIs (w.alloc (.map #[] 0)) B 0 [] := by
  subst hB
  refine ⟨.map [], World.ownsMap_made w _ _ _, by omega, rfl, fun k => ?_, fun k => ?_⟩
  · have : ¬ (1 ≤ k ∧ k ≤ (([] : List Int).length : Int)) := by simp; omega
    simp only [mget, if_neg this]
    rfl
  · simp [mhas, Maps.has]
    omega

/-- m[k] -/
theorem MapIs.look {w : World} {B n : Nat} {xs : List Int} (h : MapIs w B n xs) {k : Int} (hk : M64 k) :
    (Instr.lookup 138 (.map (some B)) (.int .i64 k) false).run Tryz.prog w = .ok (.int .i64 (mget xs k)) w := by
  obtain ⟨D, ho, _, _, hat, _⟩ := h
  obtain ⟨c, hrun, hc, _⟩ := ho.lookup_int keyI Tryz.underlying138 Tryz.underlying3 (zeroI w) (keyIs hk)
  have h9 := hat k
  unfold mkey mval at h9
  rw [hc] at h9
  injection h9 with h9
  injection h9 with _ h9
  rw [hrun, h9]

/-- v, ok := m[k] -/
theorem MapIs.lookOk {w : World} {B n : Nat} {xs : List Int} (h : MapIs w B n xs) {k : Int} (hk : M64 k) :
    (Instr.lookup 138 (.map (some B)) (.int .i64 k) true).run Tryz.prog w = .ok (.tuple #[.int .i64 (mget xs k), .bool (mhas xs k)]) w := by
  obtain ⟨D, ho, _, _, hat, hhas⟩ := h
  obtain ⟨v, ps, hrun, hv⟩ := ho.look_ok keyI Tryz.underlying138 (zeroI w) (plainElem_int Tryz.underlying3 (by decide)) (keyIs hk)
  obtain ⟨c, rfl, hc, _⟩ := plainElem_int_inv Tryz.underlying3 hv
  have h9 := hat k
  unfold mkey mval at h9
  have h8 := congrArg Prod.fst hc
  dsimp only at h8
  rw [h8] at h9
  injection h9 with h9
  injection h9 with _ h9
  have h7 := hhas k
  unfold mkey at h7
  rw [hrun, h9, h7]

/-- len(m) -/
theorem MapIs.len {w : World} {B n : Nat} {xs : List Int} (h : MapIs w B n xs) (ty : TypeId) : (Builtin.len_ #[ 138 ] ty #[.map (some B)]).run Tryz.prog w = .ok (.int .i64 (xs.length : Int)) w := by
  obtain ⟨D, ho, _, hsz, _, _⟩ := h
  rw [ho.len Tryz.underlying138 ty, hsz]

theorem mkey_ne {a b : Int} (h : a ≠ b) : mkey a ≠ mkey b := fun e => h (by injection e)
theorem mkey_lit (k : Int) : WideAt.IsKeyLit (mkey k) := by simp [mkey, WideAt.IsKeyLit]

/-- m[k] = x at a key that is there. -/
theorem MapIs.put {w : World} {B n : Nat} {xs : List Int} (h : MapIs w B n xs) (hn : n + 1 ≤ 1000) {k x : Int} (hk : 1 ≤ k ∧ k ≤ xs.length) (hx : M64 x) (hl : xs.length ≤ 1000000) :
    ∃ w', (Instr.mapUpdate 138 (.map (some B)) (.int .i64 k) (.int .i64 x)).run Tryz.prog w = .ok () w' ∧ MapIs w' B (n + 1) (xs.set (k - 1).toNat x) ∧ Keeps (one B) w w' := by
  obtain ⟨D, ho, _, hsz, hat, hhas⟩ := h
  have hkI : M64 k := ⟨by omega, by omega⟩
  obtain ⟨w', hrun, ho', hg⟩ := ho.update keyI Tryz.underlying138 (by unfold maxLen; omega) (keyIs hkI) (plainElem_int Tryz.underlying3 hx.wf)
  have hM := ho.isMap
  refine ⟨w', hrun, ⟨_, ho', hn, ?_, fun j => ?_, fun j => ?_⟩, (Keeps.of_grown hg).more fun b _ e => by injection e with e; exact e.symm⟩
  · have e := size_put (k := mkey k) (ho.tidy keyI) (mval x)
    unfold mkey mval at e
    rw [e, if_pos (by have := hhas k; unfold mkey at this; rw [this]; simp [mhas, hk]), hsz]
    simp
  · by_cases hj : j = k
    · subst hj
      have e := atKey_put_same hM (mkey_lit j) (mval x) (mval 0)
      unfold mkey mval at e
      show DataW.atKey _ (mkey j) (mval 0) = _
      unfold mkey mval
      rw [e]
      unfold mget
      rw [if_pos (by simpa using hk), List.getD_eq_getElem?_getD, List.getElem?_set_self (by omega)]
      rfl
    · have e := atKey_put_other (D := D) (mkey_ne hj) (mval x) (mval 0)
      have e2 := hat j
      unfold mkey mval at e e2 ⊢
      rw [e, e2]
      unfold mget
      simp only [List.length_set]
      by_cases h1 : 1 ≤ j ∧ j ≤ xs.length
      · rw [if_pos h1, if_pos h1]
        simp only [List.getD_eq_getElem?_getD]
        rw [List.getElem?_set_ne (by omega)]
      · rw [if_neg h1, if_neg h1]
  · by_cases hj : j = k
    · subst hj
      have e := has_put_same hM (mkey_lit j) (mval x)
      unfold mkey mval at e
      unfold mkey
      rw [e]
      simp [mhas, hk]
    · have e := has_put_other (D := D) (mkey_ne hj) (mval x)
      have e2 := hhas j
      unfold mkey mval at e
      unfold mkey at e2 ⊢
      rw [e, e2]
      simp [mhas]

/-- m[k] = x at the next key. -/
theorem MapIs.add {w : World} {B n : Nat} {xs : List Int} (h : MapIs w B n xs) (hn : n + 1 ≤ 1000) {k x : Int} (hk : k = xs.length + 1) (hx : M64 x) (hl : xs.length ≤ 1000000) :
    ∃ w', (Instr.mapUpdate 138 (.map (some B)) (.int .i64 k) (.int .i64 x)).run Tryz.prog w = .ok () w' ∧ MapIs w' B (n + 1) (xs ++ [x]) ∧ Keeps (one B) w w' := by
  obtain ⟨D, ho, _, hsz, hat, hhas⟩ := h
  have hkI : M64 k := ⟨by omega, by omega⟩
  obtain ⟨w', hrun, ho', hg⟩ := ho.update keyI Tryz.underlying138 (by unfold maxLen; omega) (keyIs hkI) (plainElem_int Tryz.underlying3 hx.wf)
  have hM := ho.isMap
  refine ⟨w', hrun, ⟨_, ho', hn, ?_, fun j => ?_, fun j => ?_⟩, (Keeps.of_grown hg).more fun b _ e => by injection e with e; exact e.symm⟩
  · have e := size_put (k := mkey k) (ho.tidy keyI) (mval x)
    unfold mkey mval at e
    rw [e, if_neg (by have := hhas k; unfold mkey at this; rw [this]; simp [mhas]; omega), hsz]
    simp
  · by_cases hj : j = k
    · subst hj
      have e := atKey_put_same hM (mkey_lit j) (mval x) (mval 0)
      unfold mkey mval at e
      show DataW.atKey _ (mkey j) (mval 0) = _
      unfold mkey mval
      rw [e]
      unfold mget
      have e3 : (j - 1).toNat = xs.length := by omega
      rw [if_pos (by simp; omega), e3]
      simp
    · have e := atKey_put_other (D := D) (mkey_ne hj) (mval x) (mval 0)
      have e2 := hat j
      unfold mkey mval at e e2 ⊢
      rw [e, e2]
      unfold mget
      by_cases h1 : 1 ≤ j ∧ j ≤ xs.length
      · rw [if_pos h1, if_pos (by simp; omega)]
        simp only [List.getD_eq_getElem?_getD]
        rw [List.getElem?_append_left (by omega)]
      · rw [if_neg h1, if_neg (by simp; omega)]
  · by_cases hj : j = k
    · subst hj
      have e := has_put_same hM (mkey_lit j) (mval x)
      unfold mkey mval at e
      unfold mkey
      rw [e]
      simp [mhas]
      omega
    · have e := has_put_other (D := D) (mkey_ne hj) (mval x)
      have e2 := hhas j
      unfold mkey mval at e
      unfold mkey at e2 ⊢
      rw [e, e2, Bool.eq_iff_iff]
      simp [mhas]
      omega
end Go.Proofs.YtcnbephpadmboaaGreatDoor

/-! ILed -/
namespace Go.Proofs.YtcnbephpadmboaaGreatDoor
open Go.RowKit
set_option maxRecDepth 100000

theorem run_makeMap_n (kd : IntKind) (n : Int) (w : World) :
    (Instr.makeMap 138 (some (.int kd n))).run Tryz.prog w = .ok (.map (some w.heap.size)) (w.alloc (.map #[] 0)) := by
  simp [Instr.makeMap, run_underlying Tryz.underlying138 ]
  rfl

def RetMap (w : World) (xs : List Int) (e : Ending) (w' : World) : Prop := ∃ B, e = .returned (.map (some B)) ∧ w.heap.size ≤ B ∧ MapIs w' B xs.length xs ∧ Keeps noBlk w w'

theorem take_snoc (xs : List Int) (k : Nat) (h : k < xs.length) : xs.take (k + 1) = xs.take k ++ [xs.getD k 0] := by
  rw [List.take_succ_eq_append_getElem h]
  simp [List.getD_eq_getElem?_getD, List.getElem?_eq_getElem h]

set_option maxHeartbeats 400000 in
theorem amountMap_any (A : Option Addr) (n c : Nat) (xs : List Int) (w : World) (ha : Ints w A n xs) (hn : n ≤ 100) (hs : Small xs) :
    Calls Tryz.prog 132 #[.slice A n c] w (RetMap w xs) := by
  obtain rfl : xs.length = n := ha.1
  have HA := Lib.hid ha
  have HS := Lib.hid hs
  clear ha hs
  have hmm := run_makeMap_n
  go_enter Tryz.func132, Tryz.ntmps132
  go_wp2
  go_loopw [11] (fun i wr => ∃ k : Nat, k ≤ xs.length ∧ i = .int .i64 k ∧ MapIs wr w.heap.size k (xs.take k) ∧ Keeps noBlk w wr) (fun i _ => xs.length - (intOf i).toNat)
  case atStart => exact ⟨0, Nat.zero_le _, rfl, MapIs.new w _ rfl, (Keeps.refl _ _).alloc _⟩
  case round =>
    obtain ⟨k, hk, rfl, hm, hkp⟩ := hrel
    clear hmm
    by_cases hlt : k < xs.length
    · obtain ⟨b, off, rfl, hb, hc⟩ := (HA.out.keeps hkp fun _ _ h => h).at_ hlt
      have hg := HS.out.getD k
      have hst := Lib.hid (take_snoc xs k hlt)
      have hlen : (xs.take k).length = k := by simp; omega
      obtain ⟨w1, hrun, hm1, hk1⟩ := hm.add (k := (k : Int) + 1) (x := xs.getD k 0) (by omega) (by rw [hlen]) ⟨by omega, by omega⟩ (by omega)
      have HM1 := Lib.hid hm1
      have HK1 := Lib.hid hk1
      have HKP := Lib.hid hkp
      clear hm hm1 hk1 hkp hlen
      generalize xs.getD k 0 = y at *
      go_wp2
      go_roundw
      case rel => exact ⟨k + 1, by omega, by go_num, by rw [hst.out]; exact HM1.out, HKP.out.then HK1.out fun i hi h => by have h' : i = w.heap.size := h; omega⟩
      case measure => simp [intOf]; omega
    · have he : xs.take k = xs := List.take_of_length_le (by omega)
      obtain rfl : k = xs.length := by omega
      rw [he] at hm
      have HM := Lib.hid hm
      have HKP := Lib.hid hkp
      clear hm hkp he
      go_wp2
      go_ret
      exact ⟨_, rfl, Nat.le_refl _, HM.out, HKP.out⟩

set_option maxHeartbeats 400000 in
theorem amountList_any (B n : Nat) (xs : List Int) (w : World) (hm : MapIs w B n xs) (hn : xs.length ≤ 100) :
    Calls Tryz.prog 134 #[.map (some B)] w (RetRow w xs) := by
  have hmk := run_make_row' (P := Tryz.prog) 22 3 (.int .i64 0) 8 Tryz.underlying22 info_int rfl .i64 .i64 xs.length (by omega) (by omega)
  have hln := hm.len 3
  have HM := Lib.hid hm
  have hB := hm.lt
  clear hm
  go_enter Tryz.func134, Tryz.ntmps134
  go_wp2
  go_loopw [10] (fun i wr => ∃ k : Nat, k ≤ xs.length ∧ i = .int .i64 k ∧ Row wr w.heap.size (some ⟨w.heap.size, 0, none⟩) xs.length (filled xs k) ∧ Keeps noBlk w wr) (fun i _ => xs.length - (intOf i).toNat)
  case atStart => exact ⟨0, Nat.zero_le _, rfl, Row.made' _ _ _ rfl (Nat.le_refl _) _ _ _ _ (by simp [filled]) (by rw [filled_zero]; exact made_ints _), (Keeps.refl _ _).alloc _⟩
  case round =>
    clear hmk hln
    obtain ⟨k, hk, rfl, hr, hkp⟩ := hrel
    by_cases hlt : k < xs.length
    · obtain ⟨b1, o1, e1, _, _, hc1, hf1⟩ := hr.at_ hlt
      injection e1 with e1
      injection e1 with e1 e2
      subst e1
      subst e2
      have hlk := (HM.out.keeps hkp fun h => h).look (k := (k : Int) + 1) ⟨by omega, by omega⟩
      have hge : mget xs ((k : Int) + 1) = xs.getD k 0 := by
        unfold mget
        rw [if_pos (by omega)]
        congr 1
        omega
      rw [hge] at hlk
      have Hr := Lib.hid hr
      have Hkp := Lib.hid hkp
      clear hr hkp hge
      rw [Nat.zero_add] at hc1 hf1
      have hst := Lib.hid (filled_step xs k hlt)
      generalize xs.getD k 0 = y at hlk hst
      go_wp2
      go_roundw
      case rel => exact ⟨k + 1, by omega, by go_num, by rw [← hst.out]; simpa using Hr.out.set_ hlt y, Hkp.out.setCell (.inl (Nat.le_refl _)) _⟩
      case measure => simp [intOf]; omega
    · have he : k = xs.length := by omega
      have Hr : Hid (Row wr w.heap.size (some ⟨w.heap.size, 0, none⟩) xs.length xs) := by
        have := hr
        rw [filled_all xs k he] at this
        exact this
      clear he
      go_wp2
      go_ret
      exact ⟨_, rfl, Hr.out, hkp⟩

set_option maxHeartbeats 400000 in
theorem hasUser_any (B n : Nat) (xs : List Int) (u : Int) (w : World) (hm : MapIs w B n xs) (hu : M64 u) :
    Calls Tryz.prog 108 #[.map (some B), .int .i64 u] w fun e w' => e = .returned (.bool (mhas xs u)) ∧ w = w' := by
  have hlk := hm.lookOk hu
  clear hm
  go_enter Tryz.func108, Tryz.ntmps108
  go_wp2
  go_ret
  exact ⟨rfl, rfl⟩

end Go.Proofs.YtcnbephpadmboaaGreatDoor
