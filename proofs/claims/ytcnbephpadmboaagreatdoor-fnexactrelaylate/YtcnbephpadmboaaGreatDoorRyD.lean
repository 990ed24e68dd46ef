/- What the relays make of a chain. -/
import Derived.Test.YtcnbephpadmboaaGreatDoorCxX
import Derived.Test.YtcnbephpadmboaaGreatDoorULate
import Derived.Test.YtcnbephpadmboaaGreatDoorUGet
import Derived.Test.YtcnbephpadmboaaGreatDoorUGMi
import Derived.Test.YtcnbephpadmboaaGreatDoorSS
import Derived.Test.YtcnbephpadmboaaGreatDoorUPk
set_option linter.unusedVariables false
set_option linter.unusedSimpArgs false
namespace Go.Proofs.YtcnbephpadmboaaGreatDoor
open Go.RowKit

def rtO (c : ChM) (y : StL) (q : Int) : Bool := ckB c && stB y && tellB c.st.x y q
def rtC (c : ChM) (y : StL) (q : Int) : ChM := if ckB c && stB y then tellCh c y q else ch0
def rlO (c : ChM) (y : StL) (h q : Int) : Bool := ckB c && stB y && in2 h 1 90 && lateB c.st.x y h q
def rlC (c : ChM) (y : StL) (h q : Int) : ChM := if ckB c && stB y && in2 h 1 90 then lateCh c y h q else ch0
theorem ChR.mark {G G' : Nat → Nat} {w : World} {c : ChM} (h : ChR G 0 w c) (hG : ∀ b, G b ≠ 0 → G' b = G b) : ChR G' 0 w c := by
  have e : ∀ {b r : Nat}, G b = r → r ≠ 0 → G' b = r := fun hb hr => (hG _ (by rw [hb]; exact hr)).trans hb
  refine ⟨⟨⟨h.1.1.1, fun b hb => e (h.1.1.2 b hb) rl0_ne⟩, ⟨h.1.2.1, fun b hb => e (h.1.2.2 b hb) rl0_ne⟩⟩, ?_, ⟨h.2.2.1.1, fun b hb => e (h.2.2.1.2 b hb) rl0_ne⟩, fun s hs => ?_, ⟨h.2.2.2.2.1, fun b hb => e (h.2.2.2.2.2 b hb) (by decide)⟩⟩
  · have k := h.2.1
    exact ⟨⟨k.1.1, fun b hb => e (k.1.2 b hb) rl0_ne⟩, ⟨k.2.1.1, fun b hb => e (k.2.1.2 b hb) rl0_ne⟩, ⟨k.2.2.1.1, fun b hb => e (k.2.2.1.2 b hb) rl0_ne⟩, ⟨k.2.2.2.1, fun b hb => e (k.2.2.2.2 b hb) rl0_ne⟩⟩
  · have k := h.2.2.2.1 s hs
    exact ⟨⟨k.1.1, fun b hb => e (k.1.2 b hb) (by decide)⟩, ⟨k.2.1.1, fun b hb => e (k.2.1.2 b hb) (by decide)⟩, ⟨k.2.2.1.1, fun b hb => e (k.2.2.1.2 b hb) (by decide)⟩, ⟨k.2.2.2.1, fun b hb => e (k.2.2.2.2 b hb) (by decide)⟩⟩
/-- The roles of a copy, with all that was there before among what is never written. -/
theorem mark_y {G : Nat → Nat} {w0 w : World} {n : Nat} {d : ChM} {y : StM} (hG : ∀ b, b < n → G b = 0) (hch : ChR G 0 w d) (h0 : w0.heap.size ≤ n) (hy : y.At w0) (hyw : y.At w) :
    ∃ G1 : Nat → Nat, ChR G1 0 w d ∧ StI G1 w y ∧ (∀ b, w0.heap.size ≤ b → b < n → G1 b = 0) ∧ ∀ b, b < n → ¬ Mt G1 0 b := by
  refine ⟨fun b => if b < w0.heap.size then 1 else G b, hch.mark fun b hb => ?_, ⟨hyw, fun b hb => ?_⟩, fun b h1 h2 => ?_, fun b hb hm => ?_⟩
  · (try dsimp only)
    by_cases hl : b < w0.heap.size
    · exact absurd (hG b (by omega)) hb
    · rw [if_neg hl]
  · exact if_pos (StAt.lt hy hb)
  · (try dsimp only)
    rw [if_neg (by omega)]
    exact hG b h2
  · by_cases hl : b < w0.heap.size
    · exact hm.not_im (if_pos hl)
    · exact hm.ne0 ((if_neg hl).trans (hG b hb))
/-- The call hands back (among f) a chain that can be read, holds what c holds, and lies in memory of the call's own. -/
def RetRG (f : Value → Value) (w : World) (c : ChM) (e : Ending) (w' : World) : Prop := ∃ d : ChM, e = .returned (f d.val) ∧ SameC c d ∧ ChAt w' d ∧ (∀ b, chBlk d b → w.heap.size ≤ b) ∧ Keeps noBlk w w'
theorem ch0_blk {b : Nat} : ¬ chBlk ch0 b := by
  rintro (h | h | (h | h | h | h) | (h | ⟨i, hi, _⟩) | h)
  all_goals first | exact absurd h.1 (by decide) | exact absurd hi (Nat.not_lt_zero i)
/-- What l13Tell and its kin hand back lies where the copy lies, or in rows of its roles. -/
structure Turned (d R : ChM) : Prop where
  past : R.past = d.past
  knows : R.knows = d.knows
  kA : R.kA = d.kA
  kc : R.kc = d.kc
theorem turned_ge {G G1 G2 : Nat → Nat} {W w3 : World} {n : Nat} {d R : ChM} (hG : ∀ b, b < n → G b = 0) (hch : ChR G 0 W d) (hm : ∀ b, b < n → ¬ Mt G1 0 b) (hag : ∀ b, b < W.heap.size → G2 b = G1 b) (hR : ChR G2 0 w3 R) (hn : n ≤ W.heap.size) (ht : Turned d R) (b : Nat) (hb : chBlk R b) : n ≤ b := by
  have r : ∀ k, k < 7 → G2 b = rl 0 k → n ≤ b := fun k hk e => by
    rcases Nat.lt_or_ge b n with h | h
    · exact absurd (⟨k, hk, by rw [← hag b (by omega)]; exact e⟩ : Mt G1 0 b) (hm b h)
    · exact h
  have o : ∀ k, k ≠ 0 → G b = k → n ≤ b := fun k hk e => by
    rcases Nat.lt_or_ge b n with h | h
    · rw [hG b h] at e
      exact absurd e.symm hk
    · exact h
  rcases hb with hb | hb | hb | (hb | ⟨i, hi, hb⟩) | hb
  · exact r 4 (by decide) (hR.1.1.2 b hb)
  · exact r 5 (by decide) (hR.1.2.2 b hb)
  · rcases hb with hb | hb | hb | hb
    · exact r 0 (by decide) (hR.2.1.1.2 b (blk_owned hb))
    · exact r 1 (by decide) (hR.2.1.2.1.2 b (blk_owned hb))
    · exact r 2 (by decide) (hR.2.1.2.2.1.2 b (blk_owned hb))
    · exact r 3 (by decide) (hR.2.1.2.2.2.2 b (blk_owned hb))
  · exact r 6 (by decide) (hR.2.2.1.2 b (blk_owned hb))
  · rw [ht.past] at hi hb
    have k := hch.2.2.2.1 _ (getD_mem' stm0 hi)
    rcases hb with hb | hb | hb | hb
    · exact o 1 (by decide) (k.1.2 b (blk_owned hb))
    · exact o 1 (by decide) (k.2.1.2 b (blk_owned hb))
    · exact o 1 (by decide) (k.2.2.1.2 b (blk_owned hb))
    · exact o 1 (by decide) (k.2.2.2.2 b (blk_owned hb))
  · rw [ht.kA, ht.knows] at hb
    exact o 1 (by decide) (hch.2.2.2.2.2 b (blk_owned hb))
theorem turned_tell (d : ChM) (y : StL) (q : Int) : Turned d (tellCh d y q) := by
  unfold tellCh
  split
  · exact ⟨rfl, rfl, rfl, rfl⟩
  · exact ⟨rfl, rfl, rfl, rfl⟩
theorem turned_late (d : ChM) (y : StL) (t q : Int) : Turned d (lateCh d y t q) := by
  unfold lateCh
  split
  · exact ⟨rfl, rfl, rfl, rfl⟩
  · exact ⟨rfl, rfl, rfl, rfl⟩
theorem settle_same {c d : ChM} (k : Nat) (b : Bool) (h : SameC c d) : SameC (settleCh c k b) (settleCh d k b) := by
  refine ⟨h.id, ?_, ?_, h.past, h.knows⟩
  · unfold settleCh
    dsimp only
    split
    · dsimp only
      rw [h.bk, h.st]
    · exact h.bk
  · unfold settleCh
    dsimp only
    rw [h.st]
theorem tell_same {c d : ChM} (y : StL) (q : Int) (h : SameC c d) : SameC (tellCh c y q) (tellCh d y q) := by
  unfold tellCh
  rw [h.st]
  split
  · exact settle_same _ _ h
  · exact h
theorem late_same {c d : ChM} (y : StL) (t q : Int) (h : SameC c d) : SameC (lateCh c y t q) (lateCh d y t q) := by
  unfold lateCh
  rw [h.st]
  split
  · exact settle_same _ _ h
  · exact h
theorem rt_same {c d : ChM} (y : StL) (q : Int) (h : SameC c d) : SameC (rtC c y q) (rtC d y q) ∧ rtO d y q = rtO c y q := by
  unfold rtC rtO
  rw [ckB_same h, h.st]
  refine ⟨?_, rfl⟩
  split
  · exact tell_same y q h
  · exact SameC.refl _
theorem rl_same {c d : ChM} (y : StL) (t q : Int) (h : SameC c d) : SameC (rlC c y t q) (rlC d y t q) ∧ rlO d y t q = rlO c y t q := by
  unfold rlC rlO
  rw [ckB_same h, h.st]
  refine ⟨?_, rfl⟩
  split
  · exact late_same y t q h
  · exact SameC.refl _
/-- How long the lists of a chain are. -/
def shortCh (c d : ChM) : Prop := d.bk.b.own.length ≤ 1000 ∧ d.bk.b.notes.length ≤ 1000 ∧ d.st.x.sent.length = c.st.x.sent.length ∧ d.st.x.live.length = c.st.x.live.length ∧ d.st.x.back.length = c.st.x.back.length ∧ d.st.x.got.length = c.st.x.got.length ∧ d.past = c.past ∧ d.knows = c.knows
theorem short_same {c : ChM} (hq : okB c.bk.b = true) : shortCh c c := by
  have := ok_len2 hq
  exact ⟨this.1, this.2, rfl, rfl, rfl, rfl, rfl, rfl⟩
theorem short_settle {c : ChM} (k : Nat) (b : Bool) (hq : okB c.bk.b = true) : shortCh c (settleCh c k b) := by
  have h1 := ok_len2 hq
  have h2 := turnB_len (k := (c.st.x.sent.getD k pk0).k) (f := (c.st.x.sent.getD k pk0).f) (s := (c.st.x.sent.getD k pk0).m) hq
  unfold settleCh
  cases b
  · exact ⟨h1.1, h1.2, rfl, List.length_set, rfl, rfl, rfl, rfl⟩
  · exact ⟨by dsimp only; rw [if_pos rfl]; dsimp only; omega, by dsimp only; rw [if_pos rfl]; dsimp only; omega, rfl, List.length_set, List.length_set, rfl, rfl, rfl⟩
theorem short_tell {c : ChM} (y : StL) (q : Int) (hq : okB c.bk.b = true) : shortCh c (tellCh c y q) := by
  unfold tellCh
  split
  · exact short_settle _ _ hq
  · exact short_same hq
theorem short_late {c : ChM} (y : StL) (t q : Int) (hq : okB c.bk.b = true) : shortCh c (lateCh c y t q) := by
  unfold lateCh
  split
  · exact short_settle _ _ hq
  · exact short_same hq
theorem short_chN {c d : ChM} (hb : ckB c = true) (h : shortCh c d) : chN d ≤ 200000 := by
  obtain ⟨k0, k1, k2, k3, k4, k5⟩ := of_decide_eq_true hb
  obtain ⟨h1, h2, h3, h4, h5, h6, h7, h8⟩ := h
  have e2 := stB_len k2
  have e3 := kn_len k5
  have e4 := paN_ok c.past k4 c.past.length (Nat.le_refl _)
  unfold chN stN
  rw [h7, h8, h3, h4, h5, h6]
  omega
theorem ch0_chN : chN ch0 ≤ 200000 := by decide
theorem ck_bank {c : ChM} (hb : ckB c = true) : okB c.bk.b = true := (of_decide_eq_true hb).2.1
theorem rt_chN (c : ChM) (y : StL) (q : Int) : chN (rtC c y q) ≤ 200000 := by
  unfold rtC
  split
  · rename_i h
    simp only [Bool.and_eq_true] at h
    exact short_chN h.1 (short_tell y q (ck_bank h.1))
  · exact ch0_chN
theorem rl_chN (c : ChM) (y : StL) (t q : Int) : chN (rlC c y t q) ≤ 200000 := by
  unfold rlC
  split
  · rename_i h
    simp only [Bool.and_eq_true] at h
    exact short_chN h.1.1 (short_late y t q (ck_bank h.1.1))
  · exact ch0_chN
/-- What l13Tell and its kin do to a copy of a chain that is ok. -/
def OfL13 (w0 w : World) (n : Nat) (fn : Nat) (args : Array Value) (r : ChM) (o : Bool) : Prop :=
  ∃ G1 : Nat → Nat, (∀ b, w0.heap.size ≤ b → b < n → G1 b = 0) ∧ (∀ b, b < n → ¬ Mt G1 0 b) ∧ Calls Tryz.prog fn args w (RetLate G1 0 w r o)
theorem of_tell {G : Nat → Nat} {w0 w : World} {n : Nat} {c d : ChM} {y : StM} {q : Int} (hG : ∀ b, b < n → G b = 0) (hch : ChR G 0 w d) (sm : SameC c d) (hb : ckB c = true) (hs : stB y.x = true) (h0 : w0.heap.size ≤ n) (hy : y.At w0) (hyw : y.At w) :
    OfL13 w0 w n 59 #[d.val, y.val, .int .i64 q] (tellCh d y.x q) (tellB c.st.x y.x q) := by
  obtain ⟨_, kb, ks, kp, _, _⟩ := of_decide_eq_true hb
  obtain ⟨G1, g1, g2, g3, g4⟩ := mark_y hG hch h0 hy hyw
  have k := stB_ok hs
  have q := l13Tell_any G1 0 d y q w g1 g2 (fit_of (by rw [← sm.st]; exact ks)) k.2.2.2.1 (by rw [← sm.bk]; exact kb)
  rw [← sm.st] at q
  exact ⟨G1, g3, g4, q⟩
theorem of_late {G : Nat → Nat} {w0 w : World} {n : Nat} {c d : ChM} {y : StM} {t q : Int} (hG : ∀ b, b < n → G b = 0) (hch : ChR G 0 w d) (sm : SameC c d) (hb : ckB c = true) (hs : stB y.x = true) (h0 : w0.heap.size ≤ n) (hy : y.At w0) (hyw : y.At w) :
    OfL13 w0 w n 65 #[d.val, y.val, .int .i64 t, .int .i64 q] (lateCh d y.x t q) (lateB c.st.x y.x t q) := by
  obtain ⟨_, kb, ks, kp, _, _⟩ := of_decide_eq_true hb
  obtain ⟨G1, g1, g2, g3, g4⟩ := mark_y hG hch h0 hy hyw
  have k := stB_ok hs
  have q := l13Late_any G1 0 d y t q w g1 g2 (fit_of (by rw [← sm.st]; exact ks)) k.2.2.2.1 (by rw [← sm.bk]; exact kb)
  rw [← sm.st] at q
  exact ⟨G1, g3, g4, q⟩
end Go.Proofs.YtcnbephpadmboaaGreatDoor
