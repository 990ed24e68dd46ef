/- What the relays make of a chain. -/
import Derived.Test.YtcnbephpadmboaaGreatDoorCxX
import Derived.Test.YtcnbephpadmboaaGreatDoorULate
import Derived.Test.YtcnbephpadmboaaGreatDoorUGet
import Derived.Test.YtcnbephpadmboaaGreatDoorUGMi
import Derived.Test.YtcnbephpadmboaaGreatDoorSS
import Derived.Test.YtcnbephpadmboaaGreatDoorUPk
set_option linter.unusedVariables false
set_option linter.unusedSimpArgs false
namespace Go.Proofs.YtcnbephpadmboaaGreatDoor
open Go.RowKit

def rgO (c : ChM) (y : StL) (p : Pk) : Bool := ckB c && stB y && p.ok && getOk c y p
def rgC (c : ChM) (y : StL) (p : Pk) : ChM := if ckB c && stB y && p.ok then getTo c y p else ch0
theorem ChR.mark {G G' : Nat → Nat} {w : World} {c : ChM} (h : ChR G 0 w c) (hG : ∀ b, G b ≠ 0 → G' b = G b) : ChR G' 0 w c := by
  have e : ∀ {b r : Nat}, G b = r → r ≠ 0 → G' b = r := fun hb hr => (hG _ (by rw [hb]; exact hr)).trans hb
  refine ⟨⟨⟨h.1.1.1, fun b hb => e (h.1.1.2 b hb) rl0_ne⟩, ⟨h.1.2.1, fun b hb => e (h.1.2.2 b hb) rl0_ne⟩⟩, ?_, ⟨h.2.2.1.1, fun b hb => e (h.2.2.1.2 b hb) rl0_ne⟩, fun s hs => ?_, ⟨h.2.2.2.2.1, fun b hb => e (h.2.2.2.2.2 b hb) (by decide)⟩⟩
  · have k := h.2.1
    exact ⟨⟨k.1.1, fun b hb => e (k.1.2 b hb) rl0_ne⟩, ⟨k.2.1.1, fun b hb => e (k.2.1.2 b hb) rl0_ne⟩, ⟨k.2.2.1.1, fun b hb => e (k.2.2.1.2 b hb) rl0_ne⟩, ⟨k.2.2.2.1, fun b hb => e (k.2.2.2.2 b hb) rl0_ne⟩⟩
  · have k := h.2.2.2.1 s hs
    exact ⟨⟨k.1.1, fun b hb => e (k.1.2 b hb) (by decide)⟩, ⟨k.2.1.1, fun b hb => e (k.2.1.2 b hb) (by decide)⟩, ⟨k.2.2.1.1, fun b hb => e (k.2.2.1.2 b hb) (by decide)⟩, ⟨k.2.2.2.1, fun b hb => e (k.2.2.2.2 b hb) (by decide)⟩⟩
/-- The roles of a copy, with all that was there before among what is never written. -/
theorem mark_y {G : Nat → Nat} {w0 w : World} {n : Nat} {d : ChM} {y : StM} (hG : ∀ b, b < n → G b = 0) (hch : ChR G 0 w d) (h0 : w0.heap.size ≤ n) (hy : y.At w0) (hyw : y.At w) :
    ∃ G1 : Nat → Nat, ChR G1 0 w d ∧ StI G1 w y ∧ (∀ b, w0.heap.size ≤ b → b < n → G1 b = 0) ∧ ∀ b, b < n → ¬ Mt G1 0 b := by
  refine ⟨fun b => if b < w0.heap.size then 1 else G b, hch.mark fun b hb => ?_, ⟨hyw, fun b hb => ?_⟩, fun b h1 h2 => ?_, fun b hb hm => ?_⟩
  · (try dsimp only)
    by_cases hl : b < w0.heap.size
    · exact absurd (hG b (by omega)) hb
    · rw [if_neg hl]
  · exact if_pos (StAt.lt hy hb)
  · (try dsimp only)
    rw [if_neg (by omega)]
    exact hG b h2
  · by_cases hl : b < w0.heap.size
    · exact hm.not_im (if_pos hl)
    · exact hm.ne0 ((if_neg hl).trans (hG b hb))
/-- The call hands back (among f) a chain that can be read, holds what c holds, and lies in memory of the call's own. -/
def RetRG (f : Value → Value) (w : World) (c : ChM) (e : Ending) (w' : World) : Prop := ∃ d : ChM, e = .returned (f d.val) ∧ SameC c d ∧ ChAt w' d ∧ (∀ b, chBlk d b → w.heap.size ≤ b) ∧ Keeps noBlk w w'
theorem ch0_blk {b : Nat} : ¬ chBlk ch0 b := by
  rintro (h | h | (h | h | h | h) | (h | ⟨i, hi, _⟩) | h)
  all_goals first | exact absurd h.1 (by decide) | exact absurd hi (Nat.not_lt_zero i)
/-- What l13Tell and its kin hand back lies where the copy lies, or in rows of its roles. -/
structure Turned (d R : ChM) : Prop where
  past : R.past = d.past
  knows : R.knows = d.knows
  kA : R.kA = d.kA
  kc : R.kc = d.kc
theorem turned_ge {G G1 G2 : Nat → Nat} {W w3 : World} {n : Nat} {d R : ChM} (hG : ∀ b, b < n → G b = 0) (hch : ChR G 0 W d) (hm : ∀ b, b < n → ¬ Mt G1 0 b) (hag : ∀ b, b < W.heap.size → G2 b = G1 b) (hR : ChR G2 0 w3 R) (hn : n ≤ W.heap.size) (ht : Turned d R) (b : Nat) (hb : chBlk R b) : n ≤ b := by
  have r : ∀ k, k < 7 → G2 b = rl 0 k → n ≤ b := fun k hk e => by
    rcases Nat.lt_or_ge b n with h | h
    · exact absurd (⟨k, hk, by rw [← hag b (by omega)]; exact e⟩ : Mt G1 0 b) (hm b h)
    · exact h
  have o : ∀ k, k ≠ 0 → G b = k → n ≤ b := fun k hk e => by
    rcases Nat.lt_or_ge b n with h | h
    · rw [hG b h] at e
      exact absurd e.symm hk
    · exact h
  rcases hb with hb | hb | hb | (hb | ⟨i, hi, hb⟩) | hb
  · exact r 4 (by decide) (hR.1.1.2 b hb)
  · exact r 5 (by decide) (hR.1.2.2 b hb)
  · rcases hb with hb | hb | hb | hb
    · exact r 0 (by decide) (hR.2.1.1.2 b (blk_owned hb))
    · exact r 1 (by decide) (hR.2.1.2.1.2 b (blk_owned hb))
    · exact r 2 (by decide) (hR.2.1.2.2.1.2 b (blk_owned hb))
    · exact r 3 (by decide) (hR.2.1.2.2.2.2 b (blk_owned hb))
  · exact r 6 (by decide) (hR.2.2.1.2 b (blk_owned hb))
  · rw [ht.past] at hi hb
    have k := hch.2.2.2.1 _ (getD_mem' stm0 hi)
    rcases hb with hb | hb | hb | hb
    · exact o 1 (by decide) (k.1.2 b (blk_owned hb))
    · exact o 1 (by decide) (k.2.1.2 b (blk_owned hb))
    · exact o 1 (by decide) (k.2.2.1.2 b (blk_owned hb))
    · exact o 1 (by decide) (k.2.2.2.2 b (blk_owned hb))
  · rw [ht.kA, ht.knows] at hb
    exact o 1 (by decide) (hch.2.2.2.2.2 b (blk_owned hb))
theorem turned_get (d : ChM) (y : StL) (p : Pk) : Turned d (getTo d y p) := by
  unfold getTo
  split
  · exact ⟨rfl, rfl, rfl, rfl⟩
  · exact ⟨rfl, rfl, rfl, rfl⟩
theorem getOk_same {c d : ChM} (y : StL) (p : Pk) (h : SameC c d) : getOk d y p = getOk c y p := by
  unfold getOk
  rw [h.st, h.past.1]
theorem get_same {c d : ChM} (y : StL) (p : Pk) (h : SameC c d) : SameC (getTo c y p) (getTo d y p) := by
  unfold getTo
  rw [getOk_same y p h]
  split
  · unfold getCh
    rw [h.bk]
    exact ⟨h.id, rfl, by dsimp only; rw [h.st], h.past, h.knows⟩
  · exact h
theorem rg_same {c d : ChM} (y : StL) (p : Pk) (h : SameC c d) : SameC (rgC c y p) (rgC d y p) ∧ rgO d y p = rgO c y p := by
  unfold rgC rgO
  rw [ckB_same h, getOk_same y p h]
  refine ⟨?_, rfl⟩
  split
  · exact get_same y p h
  · exact SameC.refl _
/-- How long the lists of a chain are. -/
def shortCh (c d : ChM) : Prop := d.bk.b.own.length ≤ 1000 ∧ d.bk.b.notes.length ≤ 1000 ∧ d.st.x.sent.length = c.st.x.sent.length ∧ d.st.x.live.length = c.st.x.live.length ∧ d.st.x.back.length = c.st.x.back.length ∧ d.st.x.got.length = c.st.x.got.length ∧ d.past = c.past ∧ d.knows = c.knows
theorem short_same {c : ChM} (hq : okB c.bk.b = true) : shortCh c c := by
  have := ok_len2 hq
  exact ⟨this.1, this.2, rfl, rfl, rfl, rfl, rfl, rfl⟩
theorem short_get {c : ChM} (y : StL) (p : Pk) (hq : okB c.bk.b = true) : shortCh c (getTo c y p) := by
  have h1 := ok_len2 hq
  have h2 := turnB_len (k := payK p) (f := p.t) (s := p.m) hq
  unfold getTo
  split
  · unfold getCh payB
    split
    · exact ⟨h1.1, h1.2, rfl, rfl, rfl, List.length_set, rfl, rfl⟩
    · exact ⟨by dsimp only; omega, by dsimp only; omega, rfl, rfl, rfl, List.length_set, rfl, rfl⟩
  · exact short_same hq
theorem short_chN {c d : ChM} (hb : ckB c = true) (h : shortCh c d) : chN d ≤ 200000 := by
  obtain ⟨k0, k1, k2, k3, k4, k5⟩ := of_decide_eq_true hb
  obtain ⟨h1, h2, h3, h4, h5, h6, h7, h8⟩ := h
  have e2 := stB_len k2
  have e3 := kn_len k5
  have e4 := paN_ok c.past k4 c.past.length (Nat.le_refl _)
  unfold chN stN
  rw [h7, h8, h3, h4, h5, h6]
  omega
theorem ch0_chN : chN ch0 ≤ 200000 := by decide
theorem ck_bank {c : ChM} (hb : ckB c = true) : okB c.bk.b = true := (of_decide_eq_true hb).2.1
theorem rg_chN (c : ChM) (y : StL) (p : Pk) : chN (rgC c y p) ≤ 200000 := by
  unfold rgC
  split
  · rename_i h
    simp only [Bool.and_eq_true] at h
    exact short_chN h.1.1 (short_get y p (ck_bank h.1.1))
  · exact ch0_chN
/-- What l13Tell and its kin do to a copy of a chain that is ok. -/
def OfL13 (w0 w : World) (n : Nat) (fn : Nat) (args : Array Value) (r : ChM) (o : Bool) : Prop :=
  ∃ G1 : Nat → Nat, (∀ b, w0.heap.size ≤ b → b < n → G1 b = 0) ∧ (∀ b, b < n → ¬ Mt G1 0 b) ∧ Calls Tryz.prog fn args w (RetLate G1 0 w r o)
theorem of_get {G : Nat → Nat} {w0 w : World} {n : Nat} {c d : ChM} {y : StM} {p : Pk} (hG : ∀ b, b < n → G b = 0) (hch : ChR G 0 w d) (sm : SameC c d) (hb : ckB c = true) (hs : stB y.x = true) (h0 : w0.heap.size ≤ n) (hy : y.At w0) (hyw : y.At w) (hp : p.ok = true) :
    OfL13 w0 w n 33 #[d.val, y.val, p.val] (getTo d y.x p) (getOk c y.x p) := by
  obtain ⟨_, kb, ks, kp, _, _⟩ := of_decide_eq_true hb
  obtain ⟨G1, g1, g2, g3, g4⟩ := mark_y hG hch h0 hy hyw
  have k := stB_ok hs
  have l := stB_len hs
  have q := l13Get_any G1 0 d y p w g1 g2 (fit_of (by rw [← sm.st]; exact ks)) k.2.2.1.1 l.1 (by rw [← sm.bk]; exact kb) (by rw [← sm.past.1]; omega) hp
  rw [getOk_same _ _ sm] at q
  exact ⟨G1, g3, g4, q⟩
end Go.Proofs.YtcnbephpadmboaaGreatDoor
