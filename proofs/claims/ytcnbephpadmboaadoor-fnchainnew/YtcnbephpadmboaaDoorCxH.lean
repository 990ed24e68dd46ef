/- A chain of the call's own; heldStateS, markChain, heldChain of the laws. -/
import Derived.Test.YtcnbephpadmboaaDoorUCxM
set_option linter.unusedVariables false
set_option linter.unusedSimpArgs false
namespace Go.Proofs.YtcnbephpadmboaaDoor
open Go.RowKit

/-- A chain of the call's own: each row lies in blocks of a role of its own. -/
structure ChOwn (G : Nat → Nat) (w : World) (lo : Nat) (c : ChM) : Prop where
  own : Row w lo c.bk.A1 c.bk.b.own.length c.bk.b.own
  gown : ∀ b, blk c.bk.A1 c.bk.b.own.length b → G b = 0
  notes : Row w lo c.bk.A2 c.bk.b.notes.length c.bk.b.notes
  gnotes : ∀ b, blk c.bk.A2 c.bk.b.notes.length b → G b = 1
  st : c.st.Own w lo
  gst : ∀ b, c.st.bl b → G b = 2
  row : SRow w lo c.pA c.past.length c.past
  grow : ∀ b, blk c.pA c.past.length b → G b = 3
  past : ∀ i, i < c.past.length → SOwn G 10 w lo c.past i
  knows : Row w lo c.kA c.knows.length c.knows
  gknows : ∀ b, blk c.kA c.knows.length b → G b = 4
  m1 : c.bk.b.own.length ≤ maxLen
  m2 : c.bk.b.notes.length ≤ maxLen
  m3 : c.past.length ≤ maxLen
  m4 : c.knows.length ≤ maxLen
  m5 : c.st.Len
  m6 : ∀ i, i < c.past.length → (c.past.getD i stm0).Len
theorem ChOwn.at_ {G : Nat → Nat} {w : World} {lo : Nat} {c : ChM} (h : ChOwn G w lo c) : ChAt w c :=
  ⟨h.own.1, h.notes.1, h.st.at_ h.m5, h.row.1, fun s hs => by
    obtain ⟨i, hi, rfl⟩ := List.getElem_of_mem hs
    have e : c.past.getD i stm0 = c.past[i] := by rw [List.getD_eq_getElem?_getD, List.getElem?_eq_getElem hi]; rfl
    rw [← e]
    exact (h.past i hi).1.at_ (h.m6 i hi), h.knows.1, h.m1, h.m2, h.m3, h.m4⟩
theorem ChOwn.kept {G : Nat → Nat} {w w' : World} {lo : Nat} {c : ChM} (h : ChOwn G w lo c) (hk : Keeps noBlk w w') : ChOwn G w' lo c :=
  ⟨h.own.keeps hk fun _ _ h => h, h.gown, h.notes.keeps hk fun _ _ h => h, h.gnotes, h.st.kept hk, h.gst, h.row.kept hk, h.grow, fun i hi => (h.past i hi).kept hk, h.knows.keeps hk fun _ _ h => h, h.gknows, h.m1, h.m2, h.m3, h.m4, h.m5, h.m6⟩
/-- The blocks of a chain. -/
def chBlk (c : ChM) (b : Nat) : Prop := blk c.bk.A1 c.bk.b.own.length b ∨ blk c.bk.A2 c.bk.b.notes.length b ∨ c.st.bl b ∨ pasBlk c.pA c.past b ∨ blk c.kA c.knows.length b
theorem ChOwn.ge {G : Nat → Nat} {w : World} {lo : Nat} {c : ChM} (h : ChOwn G w lo c) {b : Nat} (hb : chBlk c b) : lo ≤ b := by
  rcases hb with hb | hb | hb | (hb | ⟨i, hi, hb⟩) | hb
  · exact h.own.ge hb
  · exact h.notes.ge hb
  · exact h.st.ge hb
  · exact h.row.ge hb
  · exact (h.past i hi).1.ge hb
  · exact h.knows.ge hb
theorem ChOwn.lt {G : Nat → Nat} {w : World} {lo : Nat} {c : ChM} (h : ChOwn G w lo c) {b : Nat} (hb : chBlk c b) : b < w.heap.size := by
  rcases hb with hb | hb | hb | (hb | ⟨i, hi, hb⟩) | hb
  · exact h.own.lt hb
  · exact h.notes.lt hb
  · exact h.st.lt hb
  · exact h.row.lt hb
  · exact (h.past i hi).1.lt hb
  · exact h.knows.lt hb
/-- A chain is left as it was where others are written. -/
theorem ChAt.keeps {S : Nat → Prop} {w w' : World} {c : ChM} (h : ChAt w c) (hk : Keeps S w w') (hs : ∀ b, chBlk c b → ¬ S b) : ChAt w' c :=
  ⟨h.own.keeps hk fun b hb => hs b (.inl hb), h.notes.keeps hk fun b hb => hs b (.inr (.inl hb)), h.st.keeps hk fun b hb => hs b (.inr (.inr (.inl hb))), h.row.keeps hk fun b hb => hs b (.inr (.inr (.inr (.inl (.inl hb))))), fun s hsm => by
    obtain ⟨i, hi, rfl⟩ := List.getElem_of_mem hsm
    have e : c.past.getD i stm0 = c.past[i] := by rw [List.getD_eq_getElem?_getD, List.getElem?_eq_getElem hi]; rfl
    exact (h.past _ hsm).keeps hk fun b hb => hs b (.inr (.inr (.inr (.inl (.inr ⟨i, hi, by rw [e]; exact hb⟩))))), h.knows.keeps hk fun b hb => hs b (.inr (.inr (.inr (.inr hb)))), h.m1, h.m2, h.m3, h.m4⟩
theorem ChOwn.keeps {S : Nat → Prop} {G : Nat → Nat} {w w' : World} {lo : Nat} {c : ChM} (h : ChOwn G w lo c) (hk : Keeps S w w') (hs : ∀ b, chBlk c b → ¬ S b) : ChOwn G w' lo c :=
  ⟨h.own.keeps hk fun b hb => hs b (.inl hb), h.gown, h.notes.keeps hk fun b hb => hs b (.inr (.inl hb)), h.gnotes, h.st.keeps hk fun b hb => hs b (.inr (.inr (.inl hb))), h.gst, h.row.keeps hk fun b hb => hs b (.inr (.inr (.inr (.inl (.inl hb))))), h.grow,
    fun i hi => ⟨(h.past i hi).1.keeps hk fun b hb => hs b (.inr (.inr (.inr (.inl (.inr ⟨i, hi, hb⟩))))), (h.past i hi).2⟩, h.knows.keeps hk fun b hb => hs b (.inr (.inr (.inr (.inr hb)))), h.gknows, h.m1, h.m2, h.m3, h.m4, h.m5, h.m6⟩
def chN (c : ChM) : Int := (c.bk.b.own.length : Int) + c.bk.b.notes.length + stN c.st.x + paN c.past c.past.length + c.knows.length
/-- A chain all of whose memory is marked from k on. -/
def chMark (c : ChM) (k : Int) : ChM :=
  { c with bk := { c.bk with b := { c.bk.b with own := iota k c.bk.b.own.length, notes := iota (k + c.bk.b.own.length) c.bk.b.notes.length } }, st := { c.st with x := stMark c.st.x (k + c.bk.b.own.length + c.bk.b.notes.length) },
           past := pastMark c.past (k + c.bk.b.own.length + c.bk.b.notes.length + stN c.st.x), knows := iota (k + c.bk.b.own.length + c.bk.b.notes.length + stN c.st.x + paN c.past c.past.length) c.knows.length }
def RetChMark (G : Nat → Nat) (lo : Nat) (w : World) (c : ChM) (k : Int) (e : Ending) (w' : World) : Prop := e = .returned (.int .i64 (k + chN c)) ∧ ChOwn G w' lo (chMark c k) ∧ Keeps (chBlk c) w w'

theorem iota_blk {A : Option Addr} {k : Int} {n b : Nat} : blk A (iota k n).length b ↔ blk A n b := by rw [iota_length]
end Go.Proofs.YtcnbephpadmboaaDoor
