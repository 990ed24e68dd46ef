/- Rows of a call's own under a ghost that tells each block's role: rows of two roles lie in two blocks. Nothing here speaks of the program's functions. No condition. A channel state in memory of the call's own, under a ghost of roles; l3Copy of the model: a state anew. l3Copy of the model: a state anew. -/
import Derived.Laws.OwnMore
import Derived.OwnWalk
import Derived.ArgAppend
import Derived.Deep.DrawnRows
import Derived.Test.YtjcbeihoeanhaaaDoorSTo
set_option maxRecDepth 100000
set_option maxHeartbeats 2000000
set_option linter.unusedVariables false
set_option linter.unusedSimpArgs false
/-! Gh -/
namespace Go.Proofs.YtjcbeihoeanhaaaDoor
open Go.RowKit

def vIs (xs : List Int) : List Value := xs.map fun x => Value.int .i64 x
def vBs (xs : List Bool) : List Value := xs.map fun x => Value.bool x
def vPs (ps : List Pk) : List Value := ps.flatMap Pk.cs
theorem vIs_length (xs : List Int) : (vIs xs).length = xs.length := by simp [vIs]
theorem vBs_length (xs : List Bool) : (vBs xs).length = xs.length := by simp [vBs]
theorem vIs_snoc (xs : List Int) (y : Int) : vIs (xs ++ [y]) = vIs xs ++ [.int .i64 y] := by simp [vIs]
theorem vBs_snoc (xs : List Bool) (y : Bool) : vBs (xs ++ [y]) = vBs xs ++ [.bool y] := by simp [vBs]
theorem vPs_snoc (xs : List Pk) (y : Pk) : vPs (xs ++ [y]) = vPs xs ++ y.cs := by simp [vPs]
theorem flat_length {α : Type} (k : Nat) (f : α → List Value) (hf : ∀ a, (f a).length = k) (l : List α) : (l.flatMap f).length = l.length * k := by
 induction l with
 | nil => simp
 | cons a l ih => simp [List.flatMap_cons, ih, hf, Nat.add_mul]; omega
theorem flat_at {α : Type} (k : Nat) (f : α → List Value) (hf : ∀ a, (f a).length = k) (l : List α) (j i : Nat) (hi : i < k) : (l.flatMap f)[j * k + i]? = (l[j]?).bind (fun a => (f a)[i]?) := by
 induction l generalizing j with
 | nil => simp
 | cons a l ih =>
  cases j with
  | zero =>
   rw [List.flatMap_cons, Nat.zero_mul, Nat.zero_add, List.getElem?_append_left (by rw [hf]; exact hi)]
   rfl
  | succ j =>
   rw [List.flatMap_cons, List.getElem?_append_right (by rw [hf, Nat.add_mul]; omega), hf, show (j + 1) * k + i - k = j * k + i by rw [Nat.add_mul]; omega, ih j]
   rfl
theorem flat_split {α : Type} (k : Nat) (hk : 0 < k) (f : α → List Value) (hf : ∀ a, (f a).length = k) (l : List α) (q : Nat) (u : Value) (h : (l.flatMap f)[q]? = some u) :
  ∃ j i a, q = j * k + i ∧ i < k ∧ l[j]? = some a ∧ (f a)[i]? = some u := by
 have hq : q = q / k * k + q % k := by rw [Nat.mul_comm]; exact (Nat.div_add_mod q k).symm
 have hm : q % k < k := Nat.mod_lt _ hk; rw [hq, flat_at k f hf l _ _ hm] at h
 cases hl : l[q / k]? with
 | none => rw [hl] at h; cases h
 | some a =>
  rw [hl] at h; exact ⟨q / k, q % k, a, hq, hm, hl, h⟩
theorem pkcs_length (p : Pk) : p.cs.length = 7 := rfl
theorem vPs_length (ps : List Pk) : (vPs ps).length = ps.length * 7 := flat_length 7 _ pkcs_length ps
theorem one_ints {xs : List Int} : ∀ u ∈ vIs xs, u.oneCell' = true := by
 intro u hu; simp only [vIs, List.mem_map] at hu; obtain ⟨y, _, rfl⟩ := hu
 rfl
theorem one_bools {xs : List Bool} : ∀ u ∈ vBs xs, u.oneCell' = true := by
 intro u hu; simp only [vBs, List.mem_map] at hu; obtain ⟨y, _, rfl⟩ := hu
 rfl
theorem one_pk {p : Pk} : ∀ u ∈ p.cs, u.oneCell' = true := by
 intro u hu; simp only [Pk.cs, List.mem_cons, List.not_mem_nil, or_false] at hu
 rcases hu with rfl | rfl | rfl | rfl | rfl | rfl | rfl <;> rfl
theorem one_pks {ps : List Pk} : ∀ u ∈ vPs ps, u.oneCell' = true := by
 intro u hu; simp only [vPs, List.mem_flatMap] at hu; obtain ⟨p, _, hp⟩ := hu; exact one_pk u hp

def up (G : Nat → Nat) (m r : Nat) : Nat → Nat := fun b => if b < m then G b else r
theorem up_old {G : Nat → Nat} {m r b : Nat} (h : b < m) : up G m r b = G b := by simp [up, h]
theorem up_new {G : Nat → Nat} {m r b : Nat} (h : m ≤ b) : up G m r b = r := by simp [up, Nat.not_lt.2 h]

def Rw (G : Nat → Nat) (r : Nat) (w : World) (e : TypeId) (sz : Nat) (v : Value) (n : Nat) (xs : List Value) : Prop :=
 w.ownsRow 0 e sz v n xs ∧ ∀ g, v.ownBlock = some g → G g = r
section
variable {G G' : Nat → Nat} {r : Nat} {w w' : World} {e : TypeId} {sz : Nat} {v : Value} {n : Nat} {xs : List Value}
theorem owns_keeps {S : Nat → Prop} (h : w.ownsRow 0 e sz v n xs) (hk : Keeps S w w') (hs : ∀ b, v.ownBlock = some b → ¬ S b) : w'.ownsRow 0 e sz v n xs := by
 obtain ⟨hl, h2⟩ := h
 rcases h2 with h0 | ⟨g', cap', cur, hv, hb, hg, r⟩
 ·exact ⟨hl, .inl h0⟩
 ·subst hv
  have hB : Box w g' e cur := hg; exact ⟨hl, .inr ⟨g', cap', cur, rfl, hb, hB.keeps hk (hs g' rfl), r⟩⟩
theorem owns_less {base : Nat} (h : w.ownsRow base e sz v n xs) : w.ownsRow 0 e sz v n xs := by
 obtain ⟨hl, h2⟩ := h
 rcases h2 with h0 | ⟨g, cap, cur, hv, h1, r⟩
 ·exact ⟨hl, .inl h0⟩
 ·exact ⟨hl, .inr ⟨g, cap, cur, hv, Nat.zero_le _, r⟩⟩
theorem Rw.keeps {S : Nat → Prop} (h : Rw G r w e sz v n xs) (hk : Keeps S w w') (hs : ∀ b, G b = r → ¬ S b) : Rw G r w' e sz v n xs :=
 ⟨owns_keeps h.1 hk fun b hb => hs b (h.2 b hb), h.2⟩
theorem Rw.kept (h : Rw G r w e sz v n xs) (hk : Keeps noBlk w w') : Rw G r w' e sz v n xs := h.keeps hk fun _ _ h => h
theorem Rw.lt (h : Rw G r w e sz v n xs) {g : Nat} (hg : v.ownBlock = some g) : g < w.heap.size := (h.1.lt g hg).2
theorem Rw.ext (h : Rw G r w e sz v n xs) (hG : ∀ b, b < w.heap.size → G' b = G b) : Rw G' r w e sz v n xs :=
 ⟨h.1, fun g hg => (hG g (h.lt hg)).trans (h.2 g hg)⟩
theorem Rw.up {m r' : Nat} (h : Rw G r w e sz v n xs) (hm : w.heap.size ≤ m) : Rw (up G m r') r w e sz v n xs := h.ext fun _ hb => up_old (Nat.lt_of_lt_of_le hb hm)
theorem Rw.shape (h : Rw G r w e sz v n xs) : ∃ A c, v = .slice A n c := by
 rcases h.1.2 with ⟨rfl, rfl⟩ | ⟨g, cap, cur, rfl, _⟩
 ·exact ⟨none, 0, rfl⟩
 ·exact ⟨_, cap, rfl⟩
theorem owns_cells {A : Option Addr} {c : Nat} (h : w.ownsRow 0 e sz (.slice A n c) n xs) : n ≤ maxLen ∧ (A = none → n = 0 ∧ c = 0) ∧ (∀ a, A = some a → ∃ g, a = ⟨g, 0, none⟩ ∧ g < w.heap.size ∧ (∀ (j : Nat) u, xs[j]? = some u → w.cell? ⟨g, 0 + j, none⟩ = some u) ∧ ∀ j, w.frozen? ⟨g, 0 + j, none⟩ = false) := by
 have h1 := h; obtain ⟨hl, h2⟩ := h
 rcases h2 with ⟨h0, hn⟩ | ⟨g, cap, cur, hv, hb, hg, hc, hm, hs, ht⟩
 ·injection h0 with e1 e2 e3
  subst e1; subst e3; exact ⟨by subst hn; exact Nat.zero_le _, fun _ => ⟨hn, rfl⟩, fun a h => by cases h⟩
 ·injection hv with e1 e2 e3
  subst e1; have hB : Box w g e cur := hg; refine ⟨by omega, fun h => (by cases h), fun a ha => ?_⟩
  injection ha with ha
  subst ha; refine ⟨g, rfl, hB.lt, fun j u hj => ?_, fun j => hB.frozen _⟩; have h9 := h1.cells (g := g) rfl j u hj; rw [Nat.zero_add]
  by_cases h0 : j = 0
  ·subst h0; simpa [Addr.add] using h9
  ·simpa [Addr.add, h0] using h9
end
theorem owns_ints {w : World} {e : TypeId} {A : Option Addr} {c : Nat} {xs : List Int} (h : w.ownsRow 0 e 1 (.slice A xs.length c) xs.length (vIs xs)) : Ints w A xs.length xs := by
 obtain ⟨_, h1, h2⟩ := owns_cells h; refine ⟨rfl, fun hn => ?_⟩
 cases A with
 | none => have := (h1 rfl).1; omega
 | some a =>
  obtain ⟨g, rfl, hg, hc, _⟩ := h2 a rfl; exact ⟨g, 0, rfl, hg, fun j x hx => hc j _ (by simp [vIs, hx])⟩
theorem owns_bools {w : World} {e : TypeId} {A : Option Addr} {c : Nat} {xs : List Bool} (h : w.ownsRow 0 e 1 (.slice A xs.length c) xs.length (vBs xs)) : Bools w A xs.length xs := by
 obtain ⟨_, h1, h2⟩ := owns_cells h; refine ⟨rfl, fun hn => ?_⟩
 cases A with
 | none => have := (h1 rfl).1; omega
 | some a =>
  obtain ⟨g, rfl, hg, hc, _⟩ := h2 a rfl; exact ⟨g, 0, rfl, hg, fun j x hx => hc j _ (by simp [vBs, hx])⟩
theorem owns_pks {w : World} {e : TypeId} {A : Option Addr} {c : Nat} {xs : List Pk} (h : w.ownsRow 0 e 7 (.slice A xs.length c) xs.length (vPs xs)) : Pks w A xs.length xs := by
 obtain ⟨_, h1, h2⟩ := owns_cells h; refine ⟨rfl, fun hn => ?_⟩
 cases A with
 | none => have := (h1 rfl).1; omega
 | some a =>
  obtain ⟨g, rfl, hg, hc, _⟩ := h2 a rfl; refine ⟨g, 0, rfl, hg, fun j p hp i u hu => hc _ _ ?_⟩; rw [vPs, flat_at 7 _ pkcs_length _ _ _ (by have := (List.getElem?_eq_some_iff.1 hu).1; rwa [pkcs_length] at this), hp]; exact hu
theorem ints_news {w : World} {A : Option Addr} {n : Nat} {xs : List Int} (h : Ints w A n xs) : ∀ ad, A = some ad → ∀ (j : Nat) u, (vIs xs)[j]? = some u → w.cell? (ad.add j) = some u := by
 rintro ad rfl j u hu; have hj := (List.getElem?_eq_some_iff.1 hu).1; rw [vIs_length] at hj; obtain ⟨b, off, e, _, hc⟩ := h.2 (by have := h.1; omega)
 injection e with e
 subst e; simp only [vIs, List.getElem?_map, Option.map_eq_some_iff] at hu; obtain ⟨x, hx, rfl⟩ := hu; have := hc j x hx
 by_cases h0 : j = 0
 ·subst h0; simpa [Addr.add] using this
 ·simpa [Addr.add, h0] using this
theorem bools_news {w : World} {A : Option Addr} {n : Nat} {xs : List Bool} (h : Bools w A n xs) : ∀ ad, A = some ad → ∀ (j : Nat) u, (vBs xs)[j]? = some u → w.cell? (ad.add j) = some u := by
 rintro ad rfl j u hu; have hj := (List.getElem?_eq_some_iff.1 hu).1; rw [vBs_length] at hj; obtain ⟨b, off, e, _, hc⟩ := h.2 (by have := h.1; omega)
 injection e with e
 subst e; simp only [vBs, List.getElem?_map, Option.map_eq_some_iff] at hu; obtain ⟨x, hx, rfl⟩ := hu; have := hc j x hx
 by_cases h0 : j = 0
 ·subst h0; simpa [Addr.add] using this
 ·simpa [Addr.add, h0] using this
theorem pks_news {w : World} {A : Option Addr} {n : Nat} {xs : List Pk} (h : Pks w A n xs) : ∀ ad, A = some ad → ∀ (j : Nat) u, (vPs xs)[j]? = some u → w.cell? (ad.add j) = some u := by
 rintro ad rfl q u hu; have hj := (List.getElem?_eq_some_iff.1 hu).1; rw [vPs_length] at hj; obtain ⟨b, off, e, _, hc⟩ := h.2 (by have := h.1; omega)
 injection e with e
 subst e; obtain ⟨j, i, p, rfl, hi, hp, hu'⟩ := flat_split 7 (by decide) _ pkcs_length xs q u hu; have := hc j p hp i u hu'; generalize j * 7 + i = q at this
 by_cases h0 : q = 0
 ·subst h0; simpa [Addr.add] using this
 ·simpa [Addr.add, h0] using this

theorem run_append_none' {P : Program} (w : World) (t ty e : TypeId) (i : TypeInfo) (size : Nat) (ht : P.underlying t = some (.slice e)) (hi : P.info? e = some i)
  (v : Value) (n c : Nat) (xs : List Value) (hown : w.ownsRow 0 e size v n xs) :
  (Builtin.append_ #[t, t] ty #[v, .slice none 0 c]).run P w = .ok v w := by
 rcases hown.2 with ⟨rfl, rfl⟩ | ⟨g, cap, cur, rfl, _, _, hnc, _⟩
 ·simp [Builtin.append_, run_underlying ht, sizeOf, typeInfo, hi, Builtin.lenOf, Builtin.firstCells]
 ·simp [Builtin.append_, run_underlying ht, sizeOf, typeInfo, hi, Builtin.lenOf, Builtin.firstCells, hnc, storeCells]
theorem run_append_rw {P : Program} (w : World) (t ty e : TypeId) (i : TypeInfo) (z : Value) (size bytes : Nat) (h1 : P.underlying t = some (.slice e)) (h2 : P.info? e = some i) (h3 : i.zero = some z) (h4 : i.size = size) (h5 : i.bytes = bytes) (h6 : z.cells.size = size) (h7 : 0 < size)
  (v : Value) (n : Nat) (xs : List Value) (hown : w.ownsRow 0 e size v n xs) (A : Option Addr) (m c : Nat) (news : List Value) (hA : A = none → m = 0) (hl : news.length = m * size)
  (hnews : ∀ ad, A = some ad → ∀ (j : Nat) u, news[j]? = some u → w.cell? (ad.add j) = some u) (hone : ∀ u ∈ news, u.oneCell' = true) (b1 : n + m ≤ maxLen) (b2 : (n + m) * bytes ≤ 140737488355328) :
  ∃ v' w', (Builtin.append_ #[t, t] ty #[v, .slice A m c]).run P w = .ok v' w' ∧ w'.ownsRow 0 e size v' (n + m) (xs ++ news) ∧ w.grownBy w' v.ownBlock ∧ ∀ g, v'.ownBlock = some g → v.ownBlock = some g ∨ w.heap.size ≤ g := by
 cases A with
 | none =>
  obtain rfl := hA rfl; obtain rfl : news = [] := List.eq_nil_of_length_eq_zero (by simpa using hl); exact ⟨v, w, run_append_none' w t ty e i size h1 h2 v n c xs hown, by simpa using hown, World.grownBy.refl _ _, fun g hg => .inl hg⟩
 | some ad =>
  have hn := hnews ad rfl
  rcases hown.2 with ⟨rfl, rfl⟩ | ⟨g, cap, cur, rfl, _, hg, hnc, hcm, hsz, ht⟩
  ·obtain ⟨v', w', hr, ho, hgr, _⟩ := run_append_own (P := P) w w.heap.size t ty e i z size bytes h1 h2 h3 h4 h5 h6 h7 (.slice none 0 0) 0 [] (World.ownsRow_nil w _ e size) ad m c news hl hn hone b1 b2 (Nat.le_refl _)
   obtain rfl : xs = [] := List.eq_nil_of_length_eq_zero (by simpa using hown.1); exact ⟨v', w', hr, owns_less ho, hgr, fun g hg => .inr (ho.lt g hg).1⟩
  ·by_cases hfit : n + m ≤ cap
   ·obtain ⟨w', hr, ho, hgr⟩ := run_append_fits (P := P) w 0 t ty e i size h1 h2 h4 g n cap xs hown ad m c news hl hn hone hfit
    exact ⟨_, w', hr, ho, hgr, fun g' hg' => .inl hg'⟩
   ·obtain ⟨v', w', hr, ho, hgr⟩ := run_append_arg_grows (P := P) w t ty e i z size bytes h1 h2 h3 h4 h5 h6 h7 ⟨g, 0, none⟩ n cap xs hown.1 (fun j u hu => hown.cells (g := g) rfl j u hu) ad m c news hl hn (by omega) b1 b2
    refine ⟨v', w', hr, owns_less ho, ⟨hgr.os, hgr.tape, hgr.output, hgr.size, fun k hk _ => hgr.block k hk (by simp)⟩, fun g' hg' => .inr (ho.lt g' hg').1⟩
theorem wpList_app {P : Program} (w : World) {ops : Array Oper} {rest : List Oper} {o : Oper} {a : Act} {Q : Exit → Act → World → Prop}
  (hg : o.guard = none) (s x : Operand) (t : TypeId) (hop : o.op = Op.call { callee := Callee.builtin Builtin.append, args := #[s, x], argTypes := #[t, t] })
  (e : TypeId) (z : Value) (size bytes : Nat) (h1 : P.underlying t = some (.slice e)) (hinfo : (P.info? e).map (fun i => (i.zero, i.size, i.bytes)) = some (some z, size, bytes)) (h6 : z.cells.size = size) (h7 : 0 < size)
  (v : Value) (n : Nat) (xs : List Value) (hs : a.eval s = v) (hown : w.ownsRow 0 e size v n xs) (A : Option Addr) (m c : Nat) (news : List Value) (hx : a.eval x = .slice A m c) (hA : A = none → m = 0) (hl : news.length = m * size)
  (hnews : ∀ ad, A = some ad → ∀ (j : Nat) u, news[j]? = some u → w.cell? (ad.add j) = some u) (hone : ∀ u ∈ news, u.oneCell' = true) (b1 : n + m ≤ maxLen) (b2 : (n + m) * bytes ≤ 140737488355328)
  (hK : ∀ v' w', w'.ownsRow 0 e size v' (n + m) (xs ++ news) → w.grownBy w' v.ownBlock → (∀ g, v'.ownBlock = some g → v.ownBlock = some g ∨ w.heap.size ≤ g) → wpList P ops Q rest (a.put o.dst v') w') :
  wpList P ops Q (o :: rest) a w := by
 refine wpList_plain hg fun K hK' => ?_
 obtain ⟨i, h2, h3, h4, h5⟩ := info_parts hinfo; obtain ⟨v', w', hrun, r1, r2, r3⟩ := run_append_rw (P := P) w t o.type e i z size bytes h1 h2 h3 h4 h5 h6 h7 v n xs hown A m c news hA hl hnews hone b1 b2; unfold Oper.wp; simp [execOp, hop, resolve, invoke, builtin, hs, hx, hrun, Result.andThen]; exact hK' _ _ (hK v' w' r1 r2 r3)
theorem wpList_copy {P : Program} (W : World) {ops : Array Oper} {rest : List Oper} {o : Oper} {a : Act} {Q : Exit → Act → World → Prop}
  (hg : o.guard = none) (s x : Operand) (t : TypeId) (hop : o.op = Op.call { callee := Callee.builtin Builtin.append, args := #[s, x], argTypes := #[t, t] })
  (e : TypeId) (z : Value) (size bytes : Nat) (h1 : P.underlying t = some (.slice e)) (hinfo : (P.info? e).map (fun i => (i.zero, i.size, i.bytes)) = some (some z, size, bytes)) (h6 : z.cells.size = size) (h7 : 0 < size)
  (g : Nat) (hgW : g = W.heap.size) (hs : a.eval s = .slice (some ⟨g, 0, none⟩) 0 0) (A : Option Addr) (m c : Nat) (news : List Value) (hx : a.eval x = .slice A m c) (hA : A = none → m = 0) (hl : news.length = m * size)
  (hnews : ∀ ad, A = some ad → ∀ (j : Nat) u, news[j]? = some u → W.cell? (ad.add j) = some u) (hone : ∀ u ∈ news, u.oneCell' = true) (b1 : m ≤ maxLen) (b2 : m * bytes ≤ 140737488355328)
  (hK : ∀ A' c' w', w'.ownsRow 0 e size (.slice A' m c') m news → Keeps noBlk W w' → (∀ g, (Value.slice A' m c').ownBlock = some g → W.heap.size ≤ g) → wpList P ops Q rest (a.put o.dst (.slice A' m c')) w') :
  wpList P ops Q (o :: rest) a (W.alloc (.cells #[] e)) := by
 subst hgW; have hlit : (W.alloc (.cells #[] e)).ownsRow 0 e size (.slice (some ⟨W.heap.size, 0, none⟩) 0 0) 0 [] := ⟨by simp, .inr ⟨W.heap.size, 0, #[], rfl, Nat.zero_le _, heap_alloc_new W _, Nat.zero_le _, Nat.zero_le _, by simp, by simp⟩⟩
 refine wpList_app (P := P) _ hg s x t hop e z size bytes h1 hinfo h6 h7 (.slice (some ⟨W.heap.size, 0, none⟩) 0 0) 0 [] hs hlit A m c news hx hA hl (fun ad had j u hu => ?_) hone (by omega) (by rw [Nat.zero_add]; exact b2) fun v' w' ho hgr hf => ?_
 ·have h9 := hnews ad had j u hu
  exact (World.cell?_of_block (Below.heap_alloc W _ _ (World.block_lt_of_cell? W _ h9))).trans h9
 ·rw [Nat.zero_add, List.nil_append] at ho
  obtain ⟨A', c', rfl⟩ : ∃ A c, v' = .slice A m c := by
   rcases ho.2 with ⟨rfl, rfl⟩ | ⟨g, cap, cur, rfl, _⟩
   ·exact ⟨none, 0, rfl⟩
   ·exact ⟨_, cap, rfl⟩
  refine hK A' c' w' ho (((Keeps.refl noBlk W).alloc _).then (Keeps.of_grown hgr) fun i hi h => ?_) fun g hg' => ?_
  ·simp [Value.ownBlock] at h
   omega
  ·rcases hf g hg' with h | h
   ·simp [Value.ownBlock] at h
    omega
   ·simp at h
    omega
theorem step_app {P : Program} {ops : Array Oper} {o : Oper} {a : Act} {w : World} {K : Act → World → Prop} {Q : Exit → Act → World → Prop} {E : Prop}
  (hg : o.guard = none) (s x : Operand) (t : TypeId) (hop : o.op = Op.call { callee := Callee.builtin Builtin.append, args := #[s, x], argTypes := #[t, t] })
  (e : TypeId) (z : Value) (size bytes : Nat) (h1 : P.underlying t = some (.slice e)) (hinfo : (P.info? e).map (fun i => (i.zero, i.size, i.bytes)) = some (some z, size, bytes)) (h6 : z.cells.size = size) (h7 : 0 < size)
  (v : Value) (n : Nat) (xs : List Value) (hs : a.eval s = v) (hown : w.ownsRow 0 e size v n xs) (A : Option Addr) (m c : Nat) (news : List Value) (hx : a.eval x = .slice A m c) (hA : A = none → m = 0) (hl : news.length = m * size)
  (hnews : ∀ ad, A = some ad → ∀ (j : Nat) u, news[j]? = some u → w.cell? (ad.add j) = some u) (hone : ∀ u ∈ news, u.oneCell' = true) (b1 : n + m ≤ maxLen) (b2 : (n + m) * bytes ≤ 140737488355328)
  (hK : ∀ v' w', w'.ownsRow 0 e size v' (n + m) (xs ++ news) → w.grownBy w' v.ownBlock → (∀ g, v'.ownBlock = some g → v.ownBlock = some g ∨ w.heap.size ≤ g) → K (a.put o.dst v') w') :
  if Region.wanted o (yielded ops a.tmps) = true then Oper.wp P o a w K Q else E := by
 have hw : Region.wanted o (yielded ops a.tmps) = true := by simp [Region.wanted, hg]
 rw [if_pos hw]; obtain ⟨i, h2, h3, h4, h5⟩ := info_parts hinfo; obtain ⟨v', w', hrun, r1, r2, r3⟩ := run_append_rw (P := P) w t o.type e i z size bytes h1 h2 h3 h4 h5 h6 h7 v n xs hown A m c news hA hl hnews hone b1 b2; unfold Oper.wp; simp [execOp, hop, resolve, invoke, builtin, hs, hx, hrun, Result.andThen]; exact hK v' w' r1 r2 r3
theorem wpList_app1 {P : Program} (W : World) {ops : Array Oper} {rest : List Oper} {o : Oper} {a : Act} {Q : Exit → Act → World → Prop}
  (hg : o.guard = none) (s x : Operand) (t : TypeId) (hop : o.op = Op.call { callee := Callee.builtin Builtin.append, args := #[s, x], argTypes := #[t, t] })
  (e : TypeId) (z : Value) (size bytes : Nat) (h1 : P.underlying t = some (.slice e)) (hinfo : (P.info? e).map (fun i => (i.zero, i.size, i.bytes)) = some (some z, size, bytes)) (h6 : z.cells.size = size) (h7 : 0 < size) (h8 : bytes ≤ 1000)
  (v : Value) (n : Nat) (xs : List Value) (hs : a.eval s = v) (hown : W.ownsRow 0 e size v n xs) (g : Nat) (hgW : g = W.heap.size) (arr : Array Value) (news : List Value) (harr : arr.toList = news) (hx : a.eval x = .slice (some ⟨g, 0, none⟩) 1 1) (hsz : news.length = size)
  (hone : ∀ u ∈ news, u.oneCell' = true) (b1 : n + 1 ≤ 10000000)
  (hK : ∀ A' c' w', w'.ownsRow 0 e size (.slice A' (n + 1) c') (n + 1) (xs ++ news) → Keeps (fun b => v.ownBlock = some b) W w' → (∀ g, (Value.slice A' (n + 1) c').ownBlock = some g → v.ownBlock = some g ∨ W.heap.size ≤ g) → wpList P ops Q rest (a.put o.dst (.slice A' (n + 1) c')) w') :
  wpList P ops Q (o :: rest) a (W.alloc (.cells arr e)) := by
 subst hgW; subst harr
 have hl : arr.toList.length = 1 * size := by rw [hsz, Nat.one_mul]
 have hn : ∀ ad, some (⟨W.heap.size, 0, none⟩ : Addr) = some ad → ∀ (j : Nat) u, arr.toList[j]? = some u → (W.alloc (.cells arr e)).cell? (ad.add j) = some u := by
  rintro ad had j u hu
  injection had with had
  subst had
  have h9 : (W.alloc (.cells arr e)).cell? ⟨W.heap.size, j, none⟩ = some u := by rw [World.cell?_alloc_new]; simpa using hu
  by_cases h0 : j = 0
  ·subst h0; simpa [Addr.add] using h9
  ·simpa [Addr.add, h0] using h9
 have hmm : (n + 1) * bytes ≤ 140737488355328 := Nat.le_trans (Nat.mul_le_mul b1 h8) (by decide)
 have hfin : ∀ v' w', w'.ownsRow 0 e size v' (n + 1) (xs ++ arr.toList) → (W.alloc (.cells arr e)).grownBy w' v.ownBlock → (∀ g, v'.ownBlock = some g → v.ownBlock = some g ∨ (W.alloc (.cells arr e)).heap.size ≤ g) → ∃ A' c', v' = .slice A' (n + 1) c' ∧ Keeps (fun b => v.ownBlock = some b) W w' ∧ (∀ g, v'.ownBlock = some g → v.ownBlock = some g ∨ W.heap.size ≤ g) := by
  intro v' w' ho hgr hf
  obtain ⟨A', c', rfl⟩ : ∃ A c, v' = .slice A (n + 1) c := by
   rcases ho.2 with ⟨_, h0⟩ | ⟨g, cap, cur, rfl, _⟩
   ·omega
   ·exact ⟨_, cap, rfl⟩
  refine ⟨A', c', rfl, ((Keeps.refl _ W).alloc _).trans (Keeps.of_grown hgr), fun g hg' => ?_⟩
  rcases hf g hg' with h | h
  ·exact .inl h
  ·right
   simp at h
   omega
 refine wpList_app (P := P) _ hg s x t hop e z size bytes h1 hinfo h6 h7 v n xs hs (hown.alloc _) _ 1 1 _ hx (fun h => by cases h) hl hn hone (by simp only [maxLen]; omega) hmm fun v' w' ho hgr hf => ?_
 obtain ⟨A', c', rfl, h2, h3⟩ := hfin v' w' ho hgr hf; exact hK A' c' w' ho h2 h3
theorem step_app1 {P : Program} (W : World) {ops : Array Oper} {o : Oper} {a : Act} {K : Act → World → Prop} {Q : Exit → Act → World → Prop} {E : Prop}
  (hg : o.guard = none) (s x : Operand) (t : TypeId) (hop : o.op = Op.call { callee := Callee.builtin Builtin.append, args := #[s, x], argTypes := #[t, t] })
  (e : TypeId) (z : Value) (size bytes : Nat) (h1 : P.underlying t = some (.slice e)) (hinfo : (P.info? e).map (fun i => (i.zero, i.size, i.bytes)) = some (some z, size, bytes)) (h6 : z.cells.size = size) (h7 : 0 < size) (h8 : bytes ≤ 1000)
  (v : Value) (n : Nat) (xs : List Value) (hs : a.eval s = v) (hown : W.ownsRow 0 e size v n xs) (g : Nat) (hgW : g = W.heap.size) (arr : Array Value) (news : List Value) (harr : arr.toList = news) (hx : a.eval x = .slice (some ⟨g, 0, none⟩) 1 1) (hsz : news.length = size)
  (hone : ∀ u ∈ news, u.oneCell' = true) (b1 : n + 1 ≤ 10000000)
  (hK : ∀ A' c' w', w'.ownsRow 0 e size (.slice A' (n + 1) c') (n + 1) (xs ++ news) → Keeps (fun b => v.ownBlock = some b) W w' → (∀ g, (Value.slice A' (n + 1) c').ownBlock = some g → v.ownBlock = some g ∨ W.heap.size ≤ g) → K (a.put o.dst (.slice A' (n + 1) c')) w') :
  if Region.wanted o (yielded ops a.tmps) = true then Oper.wp P o a (W.alloc (.cells arr e)) K Q else E := by
 subst hgW; subst harr
 have hl : arr.toList.length = 1 * size := by rw [hsz, Nat.one_mul]
 have hn : ∀ ad, some (⟨W.heap.size, 0, none⟩ : Addr) = some ad → ∀ (j : Nat) u, arr.toList[j]? = some u → (W.alloc (.cells arr e)).cell? (ad.add j) = some u := by
  rintro ad had j u hu
  injection had with had
  subst had
  have h9 : (W.alloc (.cells arr e)).cell? ⟨W.heap.size, j, none⟩ = some u := by rw [World.cell?_alloc_new]; simpa using hu
  by_cases h0 : j = 0
  ·subst h0; simpa [Addr.add] using h9
  ·simpa [Addr.add, h0] using h9
 have hmm : (n + 1) * bytes ≤ 140737488355328 := Nat.le_trans (Nat.mul_le_mul b1 h8) (by decide)
 have hfin : ∀ v' w', w'.ownsRow 0 e size v' (n + 1) (xs ++ arr.toList) → (W.alloc (.cells arr e)).grownBy w' v.ownBlock → (∀ g, v'.ownBlock = some g → v.ownBlock = some g ∨ (W.alloc (.cells arr e)).heap.size ≤ g) → ∃ A' c', v' = .slice A' (n + 1) c' ∧ Keeps (fun b => v.ownBlock = some b) W w' ∧ (∀ g, v'.ownBlock = some g → v.ownBlock = some g ∨ W.heap.size ≤ g) := by
  intro v' w' ho hgr hf
  obtain ⟨A', c', rfl⟩ : ∃ A c, v' = .slice A (n + 1) c := by
   rcases ho.2 with ⟨_, h0⟩ | ⟨g, cap, cur, rfl, _⟩
   ·omega
   ·exact ⟨_, cap, rfl⟩
  refine ⟨A', c', rfl, ((Keeps.refl _ W).alloc _).trans (Keeps.of_grown hgr), fun g hg' => ?_⟩
  rcases hf g hg' with h | h
  ·exact .inl h
  ·right
   simp at h
   omega
 refine step_app (P := P) hg s x t hop e z size bytes h1 hinfo h6 h7 v n xs hs (hown.alloc _) _ 1 1 _ hx (fun h => by cases h) hl hn hone (by simp only [maxLen]; omega) hmm fun v' w' ho hgr hf => ?_
 obtain ⟨A', c', rfl, h2, h3⟩ := hfin v' w' ho hgr hf; exact hK A' c' w' ho h2 h3
end Go.Proofs.YtjcbeihoeanhaaaDoor

/-! GSt -/
namespace Go.Proofs.YtjcbeihoeanhaaaDoor
open Go.RowKit

structure StM where
 x : StL
 A1 : Option Addr
 A2 : Option Addr
 A3 : Option Addr
 A4 : Option Addr
 c1 : Nat
 c2 : Nat
 c3 : Nat
 c4 : Nat
@[simp, go_sem] abbrev smC (s : StM) : Array Value := #[.int .i64 s.x.way, .int .i64 s.x.ver, .int .i64 s.x.want, .slice s.A1 s.x.sent.length s.c1, .slice s.A2 s.x.live.length s.c2, .slice s.A3 s.x.back.length s.c3, .slice s.A4 s.x.got.length s.c4]
def StM.cs (s : StM) : List Value := [.int .i64 s.x.way, .int .i64 s.x.ver, .int .i64 s.x.want, .slice s.A1 s.x.sent.length s.c1, .slice s.A2 s.x.live.length s.c2, .slice s.A3 s.x.back.length s.c3, .slice s.A4 s.x.got.length s.c4]
def StM.val (s : StM) : Value := .agg #[.int .i64 s.x.way, .int .i64 s.x.ver, .int .i64 s.x.want, .slice s.A1 s.x.sent.length s.c1, .slice s.A2 s.x.live.length s.c2, .slice s.A3 s.x.back.length s.c3, .slice s.A4 s.x.got.length s.c4]
def StR (G : Nat → Nat) (ρ : Nat → Nat) (w : World) (s : StM) : Prop :=
 Rw G (ρ 0) w 29 7 (.slice s.A1 s.x.sent.length s.c1) s.x.sent.length (vPs s.x.sent) ∧ Rw G (ρ 1) w 4 1 (.slice s.A2 s.x.live.length s.c2) s.x.live.length (vBs s.x.live) ∧
 Rw G (ρ 2) w 4 1 (.slice s.A3 s.x.back.length s.c3) s.x.back.length (vBs s.x.back) ∧ Rw G (ρ 3) w 3 1 (.slice s.A4 s.x.got.length s.c4) s.x.got.length (vIs s.x.got)
theorem StR.at_ {G ρ : Nat → Nat} {w : World} {s : StM} (h : StR G ρ w s) : StAt w s.x s.A1 s.A2 s.A3 s.A4 :=
 ⟨⟨owns_pks h.1.1, owns_bools h.2.1.1, owns_bools h.2.2.1.1, owns_ints h.2.2.2.1⟩, (owns_cells h.1.1).1, (owns_cells h.2.1.1).1, (owns_cells h.2.2.1.1).1, (owns_cells h.2.2.2.1).1⟩
theorem StR.keeps {S : Nat → Prop} {G ρ : Nat → Nat} {w w' : World} {s : StM} (h : StR G ρ w s) (hk : Keeps S w w') (hs : ∀ b k, k < 4 → G b = ρ k → ¬ S b) : StR G ρ w' s :=
 ⟨h.1.keeps hk fun b => hs b 0 (by decide), h.2.1.keeps hk fun b => hs b 1 (by decide), h.2.2.1.keeps hk fun b => hs b 2 (by decide), h.2.2.2.keeps hk fun b => hs b 3 (by decide)⟩
theorem StR.kept {G ρ : Nat → Nat} {w w' : World} {s : StM} (h : StR G ρ w s) (hk : Keeps noBlk w w') : StR G ρ w' s := h.keeps hk fun _ _ _ _ h => h
theorem StR.ext {G G' ρ : Nat → Nat} {w : World} {s : StM} (h : StR G ρ w s) (hG : ∀ b, b < w.heap.size → G' b = G b) : StR G' ρ w s :=
 ⟨h.1.ext hG, h.2.1.ext hG, h.2.2.1.ext hG, h.2.2.2.ext hG⟩
theorem info_int3 : (Tryd.prog.info? 3).map (fun i => (i.zero, i.size, i.bytes)) = some (some (.int .i64 0), 1, 8) := by kernel_rfl
theorem grown_keeps {w w' : World} {v : Value} (h : w.grownBy w' v.ownBlock) : Keeps (fun b => v.ownBlock = some b) w w' := Keeps.of_grown h
theorem owns_lit0 (w : World) (g : Nat) (hg : g = w.heap.size) (e : TypeId) (sz : Nat) : (w.alloc (.cells #[] e)).ownsRow 0 e sz (.slice (some ⟨g, 0, none⟩) 0 0) 0 [] := by
 subst hg; exact ⟨by simp, .inr ⟨w.heap.size, 0, #[], rfl, Nat.zero_le _, heap_alloc_new w _, Nat.zero_le _, Nat.zero_le _, by simp, by simp⟩⟩

def RetCopy (w : World) (x : StL) (e : Ending) (w' : World) : Prop :=
 ∃ s : StM, e = .returned s.val ∧ s.x = x ∧ Keeps noBlk w w' ∧ ∀ G ρ : Nat → Nat, ∃ G' : Nat → Nat, (∀ b, b < w.heap.size → G' b = G b) ∧ StR G' ρ w' s

theorem ints_none {w : World} {A : Option Addr} {n : Nat} {xs : List Int} (h : Ints w A n xs) (hA : A = none) : n = 0 := by
 rcases Nat.eq_zero_or_pos n with h0 | h0
 ·exact h0
 ·obtain ⟨b, off, e, _⟩ := h.2 h0
  rw [hA] at e
  cases e
theorem bools_none {w : World} {A : Option Addr} {n : Nat} {xs : List Bool} (h : Bools w A n xs) (hA : A = none) : n = 0 := by
 rcases Nat.eq_zero_or_pos n with h0 | h0
 ·exact h0
 ·obtain ⟨b, off, e, _⟩ := h.2 h0
  rw [hA] at e
  cases e
theorem pks_none {w : World} {A : Option Addr} {n : Nat} {xs : List Pk} (h : Pks w A n xs) (hA : A = none) : n = 0 := by
 rcases Nat.eq_zero_or_pos n with h0 | h0
 ·exact h0
 ·obtain ⟨b, off, e, _⟩ := h.2 h0
  rw [hA] at e
  cases e

theorem l3Copy_any (x : StL) (A1 A2 A3 A4 : Option Addr) (c1 c2 c3 c4 : Nat) (w : World) (hx : StAt w x A1 A2 A3 A4) (n1 : x.sent.length ≤ 1048576) (n2 : x.live.length ≤ 1048576) (n3 : x.back.length ≤ 1048576) (n4 : x.got.length ≤ 1048576) :
  Calls Tryd.prog 99 #[stV x A1 A2 A3 A4 c1 c2 c3 c4] w (RetCopy w x) := by
 have HX := hH hx; clear hx; have HBs0 := hH ((Box.new w _ rfl 27 (stC x A1 A2 A3 A4 c1 c2 c3 c4)).alloc (.cells zCS 27)); have HZs0 := hH (Box.new (w.alloc (.cells (stC x A1 A2 A3 A4 c1 c2 c3 c4) 27)) (w.heap.size + 1) (by simp) 27 zCS); have HKs0 := hH (((Keeps.refl noBlk w).alloc (.cells (stC x A1 A2 A3 A4 c1 c2 c3 c4) 27)).alloc (.cells zCS 27))
 have hs0 : w.heap.size + 2 ≤ ((w.alloc (.cells (stC x A1 A2 A3 A4 c1 c2 c3 c4) 27)).alloc (.cells zCS 27)).heap.size := by simp
 have hb0 := HBs0.out; have a3 := hb0.cell 3; simp at a3; clear hb0; unfold stV
 go_enter Tryd.func99, Tryd.ntmps99
 go_wp2_with (at_builtin; refine wpList_copy _ rfl _ _ 23 rfl 29 (.agg zC7) 7 56 Tryd.underlying23 info_pk rfl (by decide) _ (by simp) rfl A1 x.sent.length c1 (vPs x.sent) rfl ?qa ?qb ?qc ?qd ?qe ?qf ?_)
 case qa => exact pks_none HX.out.1.1
 case qb => first | exact vPs_length _ | (rw [vPs_length]; omega)
 case qc => exact pks_news (HX.out.kept HKs0.out).1.1
 case qd => exact one_pks
 case qe => unfold maxLen; omega
 case qf => omega
 intro B1 d1 w1 ho1 hk1 hf1
 have hb := HBs0.out.keeps hk1 fun h => h
 have hz := HZs0.out.keeps hk1 fun h => h
 have HKa1 := hH (HKs0.out.trans hk1); have s1 := Nat.le_trans hs0 hk1.size
 have lo1 : ∀ b, (Value.slice B1 x.sent.length d1).ownBlock = some b → w.heap.size + 2 ≤ b := fun b h => by have := hf1 b h; (try simp at this); omega
 have HR1_1 := hH ho1
 have hi1 : ∀ b, (Value.slice B1 x.sent.length d1).ownBlock = some b → b < w1.heap.size := fun b h => (ho1.lt b h).2
 have f3 := hb.frozen 3; have c := hb.cell 3; simp at c; have hb2 := hb.set_ 3 (.slice B1 x.sent.length d1); simp only [sx] at hb2; have HBs1 := hH hb2; have HZs1 := hH (hz.far (p := ⟨w.heap.size, 3, none⟩) (by dsimp only; omega) (.slice B1 x.sent.length d1)); have HKs1 := hH (HKa1.out.new (g := w.heap.size) (Nat.le_refl _) 3 (.slice B1 x.sent.length d1)); have HR1_1s := hH (owns_keeps (S := one w.heap.size) HR1_1.out ((Keeps.refl (one w.heap.size) w1).set1 3 (.slice B1 x.sent.length d1)) fun b h h' => by have := lo1 b h; unfold one at h'; omega); have a4 := hb.cell 4; simp at a4
 have g1 : w.heap.size < (w1.setCell ⟨w.heap.size, 3, none⟩ (.slice B1 x.sent.length d1)).heap.size := by rw [World.size_setCell]; omega
 have gg1 : w.heap.size < w1.heap.size := by omega
 have gz1 : w.heap.size + 1 < w1.heap.size := by omega
 clear hb hz hb2 ho1 hk1 hf1
 go_wp2_with (at_builtin; refine wpList_copy _ rfl _ _ 24 rfl 4 (.bool false) 1 1 Tryd.underlying24 info_bool rfl (by decide) _ (by simp) rfl A2 x.live.length c2 (vBs x.live) rfl ?qa ?qb ?qc ?qd ?qe ?qf ?_)
 case qa => exact bools_none HX.out.1.2.1
 case qb => first | exact vBs_length _ | (rw [vBs_length]; omega)
 case qc => exact bools_news (HX.out.kept HKs1.out).1.2.1
 case qd => exact one_bools
 case qe => unfold maxLen; omega
 case qf => omega
 intro B2 d2 w2 ho2 hk2 hf2
 have hb := HBs1.out.keeps hk2 fun h => h
 have hz := HZs1.out.keeps hk2 fun h => h
 have HKa2 := hH (HKs1.out.trans hk2); have s2 := hk2.size
 (try rw [World.size_setCell] at s2)
 (try simp only [World.size_setCell] at hf2)
 have lo2 : ∀ b, (Value.slice B2 x.live.length d2).ownBlock = some b → w1.heap.size ≤ b := hf2; have HR1_2 := hH (owns_keeps HR1_1s.out hk2 fun _ _ h => h); have HR2_2 := hH ho2
 have hi2 : ∀ b, (Value.slice B2 x.live.length d2).ownBlock = some b → b < w2.heap.size := fun b h => (ho2.lt b h).2
 have f4 := hb.frozen 4; have c := hb.cell 4; simp at c; have hb2 := hb.set_ 4 (.slice B2 x.live.length d2); simp only [sx] at hb2; have HBs2 := hH hb2; have HZs2 := hH (hz.far (p := ⟨w.heap.size, 4, none⟩) (by dsimp only; omega) (.slice B2 x.live.length d2)); have HKs2 := hH (HKa2.out.new (g := w.heap.size) (Nat.le_refl _) 4 (.slice B2 x.live.length d2)); have HR1_2s := hH (owns_keeps (S := one w.heap.size) HR1_2.out ((Keeps.refl (one w.heap.size) w2).set1 4 (.slice B2 x.live.length d2)) fun b h h' => by have := lo1 b h; unfold one at h'; omega); have HR2_2s := hH (owns_keeps (S := one w.heap.size) HR2_2.out ((Keeps.refl (one w.heap.size) w2).set1 4 (.slice B2 x.live.length d2)) fun b h h' => by have := lo2 b h; unfold one at h'; omega); have a5 := hb.cell 5; simp at a5
 have g2 : w.heap.size < (w2.setCell ⟨w.heap.size, 4, none⟩ (.slice B2 x.live.length d2)).heap.size := by rw [World.size_setCell]; omega
 have gg2 : w.heap.size < w2.heap.size := by omega
 have gz2 : w.heap.size + 1 < w2.heap.size := by omega
 clear hb hz hb2 ho2 hk2 hf2
 go_wp2_with (at_builtin; refine wpList_copy _ rfl _ _ 24 rfl 4 (.bool false) 1 1 Tryd.underlying24 info_bool rfl (by decide) _ (by simp) rfl A3 x.back.length c3 (vBs x.back) rfl ?qa ?qb ?qc ?qd ?qe ?qf ?_)
 case qa => exact bools_none HX.out.1.2.2.1
 case qb => first | exact vBs_length _ | (rw [vBs_length]; omega)
 case qc => exact bools_news (HX.out.kept HKs2.out).1.2.2.1
 case qd => exact one_bools
 case qe => unfold maxLen; omega
 case qf => omega
 intro B3 d3 w3 ho3 hk3 hf3
 have hb := HBs2.out.keeps hk3 fun h => h
 have hz := HZs2.out.keeps hk3 fun h => h
 have HKa3 := hH (HKs2.out.trans hk3); have s3 := hk3.size
 (try rw [World.size_setCell] at s3)
 (try simp only [World.size_setCell] at hf3)
 have lo3 : ∀ b, (Value.slice B3 x.back.length d3).ownBlock = some b → w2.heap.size ≤ b := hf3; have HR1_3 := hH (owns_keeps HR1_2s.out hk3 fun _ _ h => h); have HR2_3 := hH (owns_keeps HR2_2s.out hk3 fun _ _ h => h); have HR3_3 := hH ho3
 have hi3 : ∀ b, (Value.slice B3 x.back.length d3).ownBlock = some b → b < w3.heap.size := fun b h => (ho3.lt b h).2
 have f5 := hb.frozen 5; have c := hb.cell 5; simp at c; have hb2 := hb.set_ 5 (.slice B3 x.back.length d3); simp only [sx] at hb2; have HBs3 := hH hb2; have HZs3 := hH (hz.far (p := ⟨w.heap.size, 5, none⟩) (by dsimp only; omega) (.slice B3 x.back.length d3)); have HKs3 := hH (HKa3.out.new (g := w.heap.size) (Nat.le_refl _) 5 (.slice B3 x.back.length d3)); have HR1_3s := hH (owns_keeps (S := one w.heap.size) HR1_3.out ((Keeps.refl (one w.heap.size) w3).set1 5 (.slice B3 x.back.length d3)) fun b h h' => by have := lo1 b h; unfold one at h'; omega); have HR2_3s := hH (owns_keeps (S := one w.heap.size) HR2_3.out ((Keeps.refl (one w.heap.size) w3).set1 5 (.slice B3 x.back.length d3)) fun b h h' => by have := lo2 b h; unfold one at h'; omega); have HR3_3s := hH (owns_keeps (S := one w.heap.size) HR3_3.out ((Keeps.refl (one w.heap.size) w3).set1 5 (.slice B3 x.back.length d3)) fun b h h' => by have := lo3 b h; unfold one at h'; omega); have a6 := hb.cell 6; simp at a6
 have g3 : w.heap.size < (w3.setCell ⟨w.heap.size, 5, none⟩ (.slice B3 x.back.length d3)).heap.size := by rw [World.size_setCell]; omega
 have gg3 : w.heap.size < w3.heap.size := by omega
 have gz3 : w.heap.size + 1 < w3.heap.size := by omega
 clear hb hz hb2 ho3 hk3 hf3
 go_wp2_with (at_builtin; refine wpList_copy _ rfl _ _ 25 rfl 3 (.int .i64 0) 1 8 Tryd.underlying25 info_int3 rfl (by decide) _ (by simp) rfl A4 x.got.length c4 (vIs x.got) rfl ?qa ?qb ?qc ?qd ?qe ?qf ?_)
 case qa => exact ints_none HX.out.1.2.2.2
 case qb => first | exact vIs_length _ | (rw [vIs_length]; omega)
 case qc => exact ints_news (HX.out.kept HKs3.out).1.2.2.2
 case qd => exact one_ints
 case qe => unfold maxLen; omega
 case qf => omega
 intro B4 d4 w4 ho4 hk4 hf4
 have hb := HBs3.out.keeps hk4 fun h => h
 have hz := HZs3.out.keeps hk4 fun h => h
 have HKa4 := hH (HKs3.out.trans hk4); have s4 := hk4.size
 (try rw [World.size_setCell] at s4)
 (try simp only [World.size_setCell] at hf4)
 have lo4 : ∀ b, (Value.slice B4 x.got.length d4).ownBlock = some b → w3.heap.size ≤ b := hf4; have HR1_4 := hH (owns_keeps HR1_3s.out hk4 fun _ _ h => h); have HR2_4 := hH (owns_keeps HR2_3s.out hk4 fun _ _ h => h); have HR3_4 := hH (owns_keeps HR3_3s.out hk4 fun _ _ h => h); have HR4_4 := hH ho4
 have hi4 : ∀ b, (Value.slice B4 x.got.length d4).ownBlock = some b → b < w4.heap.size := fun b h => (ho4.lt b h).2
 have f6 := hb.frozen 6; have c := hb.cell 6; simp at c; have hb2 := hb.set_ 6 (.slice B4 x.got.length d4); simp only [sx] at hb2; have HBs4 := hH hb2; have HZs4 := hH (hz.far (p := ⟨w.heap.size, 6, none⟩) (by dsimp only; omega) (.slice B4 x.got.length d4)); have HKs4 := hH (HKa4.out.new (g := w.heap.size) (Nat.le_refl _) 6 (.slice B4 x.got.length d4)); have HR1_4s := hH (owns_keeps (S := one w.heap.size) HR1_4.out ((Keeps.refl (one w.heap.size) w4).set1 6 (.slice B4 x.got.length d4)) fun b h h' => by have := lo1 b h; unfold one at h'; omega); have HR2_4s := hH (owns_keeps (S := one w.heap.size) HR2_4.out ((Keeps.refl (one w.heap.size) w4).set1 6 (.slice B4 x.got.length d4)) fun b h h' => by have := lo2 b h; unfold one at h'; omega); have HR3_4s := hH (owns_keeps (S := one w.heap.size) HR3_4.out ((Keeps.refl (one w.heap.size) w4).set1 6 (.slice B4 x.got.length d4)) fun b h h' => by have := lo3 b h; unfold one at h'; omega); have HR4_4s := hH (owns_keeps (S := one w.heap.size) HR4_4.out ((Keeps.refl (one w.heap.size) w4).set1 6 (.slice B4 x.got.length d4)) fun b h h' => by have := lo4 b h; unfold one at h'; omega); have a0 := hb.cell 0; have z0 := hz.cell 0; have y0 := hz.frozen 0; have a1 := hb.cell 1; have z1 := hz.cell 1; have y1 := hz.frozen 1; have a2 := hb.cell 2; have z2 := hz.cell 2; have y2 := hz.frozen 2; have a3 := hb.cell 3; have z3 := hz.cell 3; have y3 := hz.frozen 3; have a4 := hb.cell 4; have z4 := hz.cell 4; have y4 := hz.frozen 4; have a5 := hb.cell 5; have z5 := hz.cell 5; have y5 := hz.frozen 5; have a6 := hb.cell 6; have z6 := hz.cell 6; have y6 := hz.frozen 6; simp at a0 z0 a1 z1 a2 z2 a3 z3 a4 z4 a5 z5 a6 z6
 have g4 : w.heap.size < (w4.setCell ⟨w.heap.size, 6, none⟩ (.slice B4 x.got.length d4)).heap.size := by rw [World.size_setCell]; omega
 have gg4 : w.heap.size < w4.heap.size := by omega
 have gz4 : w.heap.size + 1 < w4.heap.size := by omega
 clear hb hz hb2 ho4 hk4 hf4; go_wp2
 have hne : ∀ b, b = w.heap.size + 1 → ∀ (P : Prop), (w.heap.size + 2 ≤ b) → P := fun b h P h' => by omega
 refine bodyPost_ret (v := .agg (stC x B1 B2 B3 B4 d1 d2 d3 d4)) (by simp [results, Tryd.results99, go_sem, *]) rfl ?_; refine ⟨⟨x, B1, B2, B3, B4, d1, d2, d3, d4⟩, rfl, rfl, ?_, fun G ρ => ⟨up (up (up (up G w.heap.size (ρ 0)) w1.heap.size (ρ 1)) w2.heap.size (ρ 2)) w3.heap.size (ρ 3), fun b hb => ?_, ?_⟩⟩
 ·exact HKs4.out.new7 (g := w.heap.size + 1) (by omega)
 ·rw [up_old (by omega), up_old (by omega), up_old (by omega), up_old hb]
 ·have K7 := ((((((((Keeps.refl (one (w.heap.size + 1)) (w4.setCell ⟨w.heap.size, 6, none⟩ (.slice B4 x.got.length d4))).set1 0 (.int .i64 x.way)).set1 1 (.int .i64 x.ver)).set1 2 (.int .i64 x.want)).set1 3 (.slice B1 x.sent.length d1)).set1 4 (.slice B2 x.live.length d2)).set1 5 (.slice B3 x.back.length d3)).set1 6 (.slice B4 x.got.length d4))
  refine ⟨⟨owns_keeps HR1_4s.out K7 fun b h h' => ?_, fun b h => ?_⟩, ⟨owns_keeps HR2_4s.out K7 fun b h h' => ?_, fun b h => ?_⟩, ⟨owns_keeps HR3_4s.out K7 fun b h h' => ?_, fun b h => ?_⟩, ⟨owns_keeps HR4_4s.out K7 fun b h h' => ?_, fun b h => ?_⟩⟩
  ·have := lo1 b h; unfold one at h'; omega
  ·have := lo1 b h; have := hi1 b h
   rw [up_old (by omega), up_old (by omega), up_old (by omega), up_new (by omega)]
  ·have := lo2 b h; unfold one at h'; omega
  ·have := lo2 b h; have := hi2 b h
   rw [up_old (by omega), up_old (by omega), up_new (by omega)]
  ·have := lo3 b h; unfold one at h'; omega
  ·have := lo3 b h; have := hi3 b h
   rw [up_old (by omega), up_new (by omega)]
  ·have := lo4 b h; unfold one at h'; omega
  ·have := lo4 b h; have := hi4 b h
   rw [up_new (by omega)]
end Go.Proofs.YtjcbeihoeanhaaaDoor
