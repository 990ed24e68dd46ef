/- szStateS, szChain of the laws. toStateS, toChain of the laws: a chain anew, of the call's own. A chain of the call's own; heldStateS, markChain, heldChain of the laws. toChain of the laws: a chain anew, of the call's own. -/
import Derived.Test.YtjcbeihoeanhaaaDoorUCxMB
set_option linter.unusedVariables false
set_option linter.unusedSimpArgs false
/-! CxS -/
namespace Go.Proofs.YtjcbeihoeanhaaaDoor
open Go.RowKit

def zst : Array Value := #[.int .i64 0, .int .i64 0, .int .i64 0, .slice none 0 0, .slice none 0 0, .slice none 0 0, .slice none 0 0]
theorem made_st (n j : Nat) (hj : j < n) (i : Nat) (c : Value) (hc : stm0.cs[i]? = some c) : (madeCells zst (n * 7))[j * 7 + i]? = some c := by
 have hi : i < 7 := (List.getElem?_eq_some_iff.1 hc).1
 have hm : (j * 7 + i) % 7 = i := by omega
 have hlt : j * 7 + i < n * 7 := by omega
 simp only [madeCells, zst]
 have hr : (Array.range (n * 7))[j * 7 + i]? = some (j * 7 + i) := by simp [hlt]
 rw [Array.getElem?_map, hr]; simp only [Option.map_some]; have : (#[Value.int .i64 0, .int .i64 0, .int .i64 0, .slice none 0 0, .slice none 0 0, .slice none 0 0, .slice none 0 0] : Array Value).size = 7 := rfl; rw [this, hm]
 match i, hi, hc with
 | 0, _, hc => exact hc
 | 1, _, hc => exact hc
 | 2, _, hc => exact hc
 | 3, _, hc => exact hc
 | 4, _, hc => exact hc
 | 5, _, hc => exact hc
 | 6, _, hc => exact hc
theorem SRow.made (w : World) (n : Nat) : SRow (w.alloc (.cells (madeCells zst (n * 7)) 27)) w.heap.size (some ⟨w.heap.size, 0, none⟩) n (List.replicate n stm0) :=
 ⟨⟨by simp, fun _ => ⟨_, _, rfl, by simp, fun j p hp i c hc => by
   rw [List.getElem?_replicate] at hp
   split at hp
   ·injection hp with hp
    subst hp; rw [World.cell?_alloc_new, Nat.zero_add]; exact made_st n j (by assumption) i c hc
   ·cases hp⟩⟩,
  fun _ => ⟨_, _, rfl, Nat.le_refl _, fun j _ => World.frozen?_alloc_new w _ _ _⟩⟩

structure ChOwn (G : Nat → Nat) (w : World) (lo : Nat) (c : ChM) : Prop where
  own : Row w lo c.bk.A1 c.bk.b.own.length c.bk.b.own
  gown : ∀ b, blk c.bk.A1 c.bk.b.own.length b → G b = 0
  notes : Row w lo c.bk.A2 c.bk.b.notes.length c.bk.b.notes
  gnotes : ∀ b, blk c.bk.A2 c.bk.b.notes.length b → G b = 1
  st : c.st.Own w lo
  gst : ∀ b, c.st.bl b → G b = 2
  row : SRow w lo c.pA c.past.length c.past
  grow : ∀ b, blk c.pA c.past.length b → G b = 3
  past : ∀ i, i < c.past.length → SOwn G 10 w lo c.past i
  knows : Row w lo c.kA c.knows.length c.knows
  gknows : ∀ b, blk c.kA c.knows.length b → G b = 4
  m1 : c.bk.b.own.length ≤ maxLen
  m2 : c.bk.b.notes.length ≤ maxLen
  m3 : c.past.length ≤ maxLen
  m4 : c.knows.length ≤ maxLen
  m5 : c.st.Len
  m6 : ∀ i, i < c.past.length → (c.past.getD i stm0).Len
theorem ChOwn.at_ {G : Nat → Nat} {w : World} {lo : Nat} {c : ChM} (h : ChOwn G w lo c) : ChAt w c :=
  ⟨h.own.1, h.notes.1, h.st.at_ h.m5, h.row.1, fun s hs => by
    obtain ⟨i, hi, rfl⟩ := List.getElem_of_mem hs
    have e : c.past.getD i stm0 = c.past[i] := by rw [List.getD_eq_getElem?_getD, List.getElem?_eq_getElem hi]; rfl
    rw [← e]
    exact (h.past i hi).1.at_ (h.m6 i hi), h.knows.1, h.m1, h.m2, h.m3, h.m4⟩
theorem ChOwn.kept {G : Nat → Nat} {w w' : World} {lo : Nat} {c : ChM} (h : ChOwn G w lo c) (hk : Keeps noBlk w w') : ChOwn G w' lo c :=
  ⟨h.own.keeps hk fun _ _ h => h, h.gown, h.notes.keeps hk fun _ _ h => h, h.gnotes, h.st.kept hk, h.gst, h.row.kept hk, h.grow, fun i hi => (h.past i hi).kept hk, h.knows.keeps hk fun _ _ h => h, h.gknows, h.m1, h.m2, h.m3, h.m4, h.m5, h.m6⟩
def chBlk (c : ChM) (b : Nat) : Prop := blk c.bk.A1 c.bk.b.own.length b ∨ blk c.bk.A2 c.bk.b.notes.length b ∨ c.st.bl b ∨ pasBlk c.pA c.past b ∨ blk c.kA c.knows.length b
theorem ChOwn.ge {G : Nat → Nat} {w : World} {lo : Nat} {c : ChM} (h : ChOwn G w lo c) {b : Nat} (hb : chBlk c b) : lo ≤ b := by
  rcases hb with hb | hb | hb | (hb | ⟨i, hi, hb⟩) | hb
  · exact h.own.ge hb
  · exact h.notes.ge hb
  · exact h.st.ge hb
  · exact h.row.ge hb
  · exact (h.past i hi).1.ge hb
  · exact h.knows.ge hb
theorem ChOwn.lt {G : Nat → Nat} {w : World} {lo : Nat} {c : ChM} (h : ChOwn G w lo c) {b : Nat} (hb : chBlk c b) : b < w.heap.size := by
  rcases hb with hb | hb | hb | (hb | ⟨i, hi, hb⟩) | hb
  · exact h.own.lt hb
  · exact h.notes.lt hb
  · exact h.st.lt hb
  · exact h.row.lt hb
  · exact (h.past i hi).1.lt hb
  · exact h.knows.lt hb
theorem ChAt.keeps {S : Nat → Prop} {w w' : World} {c : ChM} (h : ChAt w c) (hk : Keeps S w w') (hs : ∀ b, chBlk c b → ¬ S b) : ChAt w' c :=
  ⟨h.own.keeps hk fun b hb => hs b (.inl hb), h.notes.keeps hk fun b hb => hs b (.inr (.inl hb)), h.st.keeps hk fun b hb => hs b (.inr (.inr (.inl hb))), h.row.keeps hk fun b hb => hs b (.inr (.inr (.inr (.inl (.inl hb))))), fun s hsm => by
    obtain ⟨i, hi, rfl⟩ := List.getElem_of_mem hsm
    have e : c.past.getD i stm0 = c.past[i] := by rw [List.getD_eq_getElem?_getD, List.getElem?_eq_getElem hi]; rfl
    exact (h.past _ hsm).keeps hk fun b hb => hs b (.inr (.inr (.inr (.inl (.inr ⟨i, hi, by rw [e]; exact hb⟩))))), h.knows.keeps hk fun b hb => hs b (.inr (.inr (.inr (.inr hb)))), h.m1, h.m2, h.m3, h.m4⟩
theorem ChOwn.keeps {S : Nat → Prop} {G : Nat → Nat} {w w' : World} {lo : Nat} {c : ChM} (h : ChOwn G w lo c) (hk : Keeps S w w') (hs : ∀ b, chBlk c b → ¬ S b) : ChOwn G w' lo c :=
  ⟨h.own.keeps hk fun b hb => hs b (.inl hb), h.gown, h.notes.keeps hk fun b hb => hs b (.inr (.inl hb)), h.gnotes, h.st.keeps hk fun b hb => hs b (.inr (.inr (.inl hb))), h.gst, h.row.keeps hk fun b hb => hs b (.inr (.inr (.inr (.inl (.inl hb))))), h.grow,
    fun i hi => ⟨(h.past i hi).1.keeps hk fun b hb => hs b (.inr (.inr (.inr (.inl (.inr ⟨i, hi, hb⟩))))), (h.past i hi).2⟩, h.knows.keeps hk fun b hb => hs b (.inr (.inr (.inr (.inr hb)))), h.gknows, h.m1, h.m2, h.m3, h.m4, h.m5, h.m6⟩
structure RowB (w : World) (lo hi : Nat) (A : Option Addr) (n : Nat) (xs : List Int) : Prop where
 row : Row w lo A n xs
 lt : ∀ b, blk A n b → b < hi
theorem RowB.mk' {w : World} {lo : Nat} {A : Option Addr} {n : Nat} {xs : List Int} (h : Row w lo A n xs) : RowB w lo w.heap.size A n xs := ⟨h, fun _ hb => h.lt hb⟩
theorem RowB.keeps {w w' : World} {S : Nat → Prop} {lo hi : Nat} {A : Option Addr} {n : Nat} {xs : List Int} (h : RowB w lo hi A n xs) (hk : Keeps S w w') (hs : ∀ b, S b → b < lo) : RowB w' lo hi A n xs := ⟨h.row.keeps hk fun b hb hS => by have := h.row.ge hb; have := hs b hS; omega, h.lt⟩
theorem RowB.kept {w w' : World} {lo hi : Nat} {A : Option Addr} {n : Nat} {xs : List Int} (h : RowB w lo hi A n xs) (hk : Keeps noBlk w w') : RowB w' lo hi A n xs := h.keeps hk fun _ h => h.elim
structure StB (w : World) (lo hi : Nat) (s : StM) : Prop where
 own : s.Own w lo
 lt : ∀ b, s.bl b → b < hi
theorem StB.mk' {w : World} {lo : Nat} {s : StM} (h : s.Own w lo) : StB w lo w.heap.size s := ⟨h, fun _ hb => h.lt hb⟩
theorem StB.keeps {w w' : World} {S : Nat → Prop} {lo hi : Nat} {s : StM} (h : StB w lo hi s) (hk : Keeps S w w') (hs : ∀ b, S b → b < lo) : StB w' lo hi s := ⟨h.own.keeps hk fun b hb hS => by have := h.own.ge hb; have := hs b hS; omega, h.lt⟩
theorem StB.kept {w w' : World} {lo hi : Nat} {s : StM} (h : StB w lo hi s) (hk : Keeps noBlk w w') : StB w' lo hi s := h.keeps hk fun _ h => h.elim
structure PaB (w : World) (lo hi : Nat) (A : Option Addr) (n : Nat) (us : List StM) : Prop where
 row : SRow w lo A n us
 gh : ∀ G : Nat → Nat, ∃ G' : Nat → Nat, (∀ b, b < lo → G' b = G b) ∧ (∀ b, blk A n b → G' b = 3) ∧ (∀ i, i < n → SOwn G' 10 w lo us i)
 lt : ∀ b, blk A n b → b < hi
 lts : ∀ i, i < n → ∀ b, (us.getD i stm0).bl b → b < hi
theorem PaB.mk' {w : World} {lo : Nat} {A : Option Addr} {n : Nat} {us : List StM} (h : SRow w lo A n us) (hG : ∀ G : Nat → Nat, ∃ G' : Nat → Nat, (∀ b, b < lo → G' b = G b) ∧ (∀ b, blk A n b → G' b = 3) ∧ (∀ i, i < n → SOwn G' 10 w lo us i)) : PaB w lo w.heap.size A n us :=
 ⟨h, hG, fun _ hb => h.lt hb, fun i hi b hb => by
  obtain ⟨G', _, _, h3⟩ := hG fun _ => 0
  exact (h3 i hi).1.lt hb⟩
theorem PaB.keeps {w w' : World} {S : Nat → Prop} {lo hi : Nat} {A : Option Addr} {n : Nat} {us : List StM} (h : PaB w lo hi A n us) (hk : Keeps S w w') (hs : ∀ b, S b → b < lo) : PaB w' lo hi A n us :=
 ⟨h.row.keeps hk fun b hb hS => by have := h.row.ge hb; have := hs b hS; omega, fun G => by
  obtain ⟨G', h1, h2, h3⟩ := h.gh G
  exact ⟨G', h1, h2, fun i hi => ⟨(h3 i hi).1.keeps hk fun b hb hS => by have := (h3 i hi).1.ge hb; have := hs b hS; omega, (h3 i hi).2⟩⟩, h.lt, h.lts⟩
theorem PaB.kept {w w' : World} {lo hi : Nat} {A : Option Addr} {n : Nat} {us : List StM} (h : PaB w lo hi A n us) (hk : Keeps noBlk w w') : PaB w' lo hi A n us := h.keeps hk fun _ h => h.elim
end Go.Proofs.YtjcbeihoeanhaaaDoor
