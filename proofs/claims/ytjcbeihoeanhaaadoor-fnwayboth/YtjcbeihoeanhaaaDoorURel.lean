/- What happens on a chain leaves its channel state ok. Nothing here speaks of the program's text. No condition. l21Relay of the model: whatever is known. l21Chain of the model: what happens on a chain (the lemmas that its walks end with). -/
import Derived.Test.YtjcbeihoeanhaaaDoorURelX
import Derived.Test.YtjcbeihoeanhaaaDoorUSend
set_option linter.unusedVariables false
set_option linter.unusedSimpArgs false
/-! GOkS -/
namespace Go.Proofs.YtjcbeihoeanhaaaDoor
open Go.RowKit

theorem stB_of {x : StL} (h : StOk x) : stB x = true := by simpa [stB] using h
theorem SentOk.more {v v' : Int} {ps : List Pk} (h : SentOk v ps) (hv : v ≤ v') : SentOk v' ps := fun i hi => ⟨(h i hi).1, (h i hi).2.1, Int.le_trans (h i hi).2.2 hv⟩
theorem stB_step {x y : StL} {k : Int} (hx : stB x = true) (hy : stB y = true) (hm : mayB x y k = true) : stB (doSt x y k) = true := by
 obtain ⟨⟨⟨v1, v2⟩, ⟨w1, w2⟩, h4, hn4⟩, hS, hF, hG⟩ := stB_ok hx; have ky := (stB_ok hy).1; unfold mayB at hm
 by_cases k1 : k = 1
 ·subst k1
  simp at hm; refine stB_of ⟨⟨⟨v1, v2⟩, ⟨by simp [doSt], by simp [doSt]⟩, fun e => by simp [doSt] at e, fun _ => ?_⟩, ?_, ?_, ?_⟩
  ·have := hn4 (by omega); simpa [doSt] using this
  ·simpa [doSt] using hS
  ·simpa [doSt] using hF
  ·simpa [doSt] using hG
 by_cases k2 : k = 2
 ·subst k2
  simp at hm; refine stB_of ⟨⟨⟨v1, v2⟩, ⟨by simp [doSt], by simp [doSt]⟩, fun e => by simp [doSt] at e, fun _ => ?_⟩, ?_, ?_, ?_⟩
  ·have := hn4 (by omega); simpa [doSt] using this
  ·simpa [doSt] using hS
  ·simpa [doSt] using hF
  ·simpa [doSt] using hG
 by_cases k3 : k = 3
 ·subst k3
  simp at hm; refine stB_of ⟨⟨⟨v1, v2⟩, ⟨by simp [doSt], by simp [doSt]⟩, fun e => by simp [doSt] at e, fun _ => ?_⟩, ?_, ?_, ?_⟩
  ·have := hn4 (by omega); simpa [doSt] using this
  ·simpa [doSt] using hS
  ·simpa [doSt] using hF
  ·simpa [doSt] using hG
 by_cases k4 : k = 4
 ·subst k4
  simp at hm; refine stB_of ⟨⟨⟨v1, v2⟩, ⟨by simp [doSt], by simp [doSt]⟩, fun e => by simp [doSt] at e, fun _ => ?_⟩, ?_, ?_, ?_⟩
  ·have := hn4 (by omega); simpa [doSt] using this
  ·simpa [doSt] using hS
  ·simpa [doSt] using hF
  ·simpa [doSt] using hG
 by_cases k5 : k = 5
 ·subst k5
  simp at hm; refine stB_of ⟨⟨⟨v1, v2⟩, ⟨by simp [doSt], by simp [doSt]⟩, fun _ => ⟨by simp [doSt], by simp [doSt]; omega⟩, fun e => absurd (by simp [doSt]) e⟩, ?_, ?_, ?_⟩
  ·simpa [doSt] using hS
  ·simpa [doSt] using hF
  ·simpa [doSt] using hG
 by_cases k6 : k = 6
 ·subst k6
  simp at hm; have hw := (ky.2.2.1 hm.2.1).2; refine stB_of ⟨⟨⟨v1, v2⟩, ⟨by simp [doSt], by simp [doSt]⟩, fun _ => ⟨by simpa [doSt] using hm.2.2, by simpa [doSt] using hw⟩, fun e => absurd (by simp [doSt]) e⟩, ?_, ?_, ?_⟩
  ·simpa [doSt] using hS
  ·simpa [doSt] using hF
  ·simpa [doSt] using hG
 by_cases k7 : k = 7
 ·subst k7
  simp at hm; obtain ⟨e1, e2⟩ := h4 hm.1; refine stB_of ⟨⟨⟨by simp [doSt]; omega, by simpa [doSt] using e2⟩, ⟨by simp [doSt], by simp [doSt]⟩, fun e => by simp [doSt] at e, fun _ => by simp [doSt]⟩, ?_, ?_, ?_⟩
  ·have := hS.more (v' := x.want) (by omega); simpa [doSt] using this
  ·simpa [doSt] using hF
  ·simpa [doSt] using hG
 ·rw [if_neg k1, if_neg k2, if_neg k3, if_neg k4, if_neg k5, if_neg k6, if_neg k7] at hm
  cases hm
theorem getD_set_b {l : List Bool} {k i : Nat} {b : Bool} : (l.set k b).getD i false = if k = i ∧ i < l.length then b else l.getD i false := by
 simp only [List.getD_eq_getElem?_getD, List.getElem?_set]
 by_cases h : k = i
 ·subst h
  by_cases hl : k < l.length
  ·simp [hl]
  ·simp [hl, List.getElem?_eq_none (Nat.le_of_not_lt hl)]
 ·simp [h]
theorem stB_settle {x : StL} (k : Nat) (bk : Bool) (hx : stB x = true) : stB { x with live := x.live.set k false, back := if bk = true then x.back.set k true else x.back } = true := by
 obtain ⟨hW, hS, ⟨l1, l2, l3⟩, hG⟩ := stB_ok hx; refine stB_of ⟨hW, hS, ⟨by simpa using l1, ?_, fun i hi => ?_⟩, hG⟩
 ·dsimp only
  split
  ·simpa using l2
  ·exact l2
 ·dsimp only at hi ⊢
  rw [getD_set_b]; intro h
  by_cases hk : k = i ∧ i < x.live.length
  ·rw [if_pos hk] at h
   exact absurd h.1 (by decide)
  ·rw [if_neg hk] at h
   have hne : ¬ k = i := fun e => hk ⟨e, by omega⟩
   refine l3 i hi ⟨h.1, ?_⟩; have h2 := h.2
   split at h2
   ·rw [getD_set_b, if_neg (fun e => hne e.1)] at h2
    exact h2
   ·exact h2
theorem stB_gotS {x : StL} (k : Nat) (n : Int) (hn : n = 1 ∨ n = 2) (hx : stB x = true) : stB { x with got := x.got.set k n } = true := by
 obtain ⟨hW, hS, hF, g1, g2⟩ := stB_ok hx; refine stB_of ⟨hW, hS, hF, by simpa using g1, fun i hi => ?_⟩; dsimp only
 by_cases hk : k = i
 ·subst hk
  have : (x.got.set k n).getD k 0 = n := by simp [List.getD_eq_getElem?_getD, List.getElem?_set, g1, hi]
  rw [this]
  rcases hn with rfl | rfl <;> decide
 ·have : (x.got.set k n).getD i 0 = x.got.getD i 0 := by simp [List.getD_eq_getElem?_getD, List.getElem?_set, hk]
  rw [this]; exact g2 i hi
theorem getD_snoc_b {l : List Bool} {b : Bool} {i : Nat} : (l ++ [b]).getD i false = if i < l.length then l.getD i false else if i = l.length then b else false := by
 simp only [List.getD_eq_getElem?_getD]
 by_cases h : i < l.length
 ·rw [List.getElem?_append_left h]; simp [h]
 ·rw [List.getElem?_append_right (Nat.le_of_not_lt h)]
  by_cases h2 : i = l.length
  ·subst h2; simp
  ·have : 0 < i - l.length := by omega
   rw [List.getElem?_eq_none (by simp; omega)]; simp [h, h2]
theorem stB_send {x : StL} {p : Pk} (hx : stB x = true) (hp : p.ok = true) (hs : p.s = (x.sent.length : Int) + 1) (hv : p.v = x.ver) : stB { x with sent := x.sent ++ [p], live := x.live ++ [true], back := x.back ++ [false] } = true := by
 obtain ⟨hW, hS, ⟨l1, l2, l3⟩, hG⟩ := stB_ok hx; refine stB_of ⟨hW, fun i hi => ?_, ⟨by simp [l1], by simp [l2], fun i hi => ?_⟩, hG⟩
 ·dsimp only at hi ⊢
  rw [List.length_append, List.length_singleton] at hi
  by_cases hl : i < x.sent.length
  ·have : (x.sent ++ [p]).getD i pk0 = x.sent.getD i pk0 := by simp [List.getD_eq_getElem?_getD, List.getElem?_append_left hl]
   rw [this]; exact hS i hl
  ·obtain rfl : i = x.sent.length := by omega
   have : (x.sent ++ [p]).getD x.sent.length pk0 = p := by simp [List.getD_eq_getElem?_getD]
   rw [this]; exact ⟨hp, hs, by omega⟩
 ·dsimp only at hi ⊢
  rw [List.length_append, List.length_singleton] at hi; rw [getD_snoc_b, getD_snoc_b, l1, l2]
  by_cases hl : i < x.sent.length
  ·rw [if_pos hl, if_pos hl]
   exact l3 i hl
  ·obtain rfl : i = x.sent.length := by omega
   simp

theorem fit_of_ok {x : StL} (h : stB x = true) : StFit x := by
 have k := stB_ok h; refine ⟨k.2.1.small, k.2.2.1.1, k.2.2.1.2.1, k.2.2.2.1, fun i hi => ?_⟩; have pp := pkB_parts (k.2.1 i hi).1; exact ⟨by simp only [kindB, Bool.and_eq_true, decide_eq_true_eq]; omega, by simp only [userB, Bool.and_eq_true, decide_eq_true_eq]; omega, by omega, by omega⟩
structure ChOk (c : ChM) : Prop where
 bank : okB c.bk.b = true
 st : stB c.st.x = true
 past : ∀ s ∈ c.past, stB s.x = true
 pl : c.past.length ≤ 90
 kn : ∀ v ∈ c.knows, 1 ≤ v
def relayTo (c : ChM) (y : StL) (e : Ev) : ChM :=
 if e.kd = 4 then (if e.p.ok = true then getTo c y e.p else c) else if e.kd = 5 then tellCh c y e.n else if e.kd = 6 then lateCh c y e.h e.n else if e.kd = 7 then stepCh c y e.n else c
def relayCh (c d : ChM) (e : Ev) : ChM :=
 if e.h ∈ c.knows ∧ e.h ≤ d.past.length then (match d.past[(e.h - 1).toNat]? with | some y => relayTo c y.x e | none => c) else c
theorem l21Relay_any (G : Nat → Nat) (i j : Nat) (c d : ChM) (e : Ev) (w : World) (hc : ChR G i w c) (hd : ChR G j w d) (hkl : c.knows.length ≤ 1000) (oc : ChOk c) (od : ChOk d) :
  Calls Tryd.prog 93 #[c.val, d.val, e.val] w (RetCh G i w fun c' => c' = relayCh c d e) := by
 have hpl : d.past.length ≤ 1000 := by have := od.pl; omega
 obtain ⟨kd, ch, h, n, p⟩ := e
 by_cases hm : h ∈ c.knows
 ·by_cases hl : h ≤ d.past.length
  ·have h1 := oc.kn h hm
   obtain ⟨k, rfl⟩ : ∃ k : Nat, h = (k : Int) + 1 := ⟨(h - 1).toNat, by omega⟩
   have hk : k < d.past.length := by omega
   have hy : d.past[k]? = some d.past[k] := List.getElem?_eq_getElem hk; generalize d.past[k] = y at hy; have hyo := od.past y (List.mem_of_getElem? hy)
   have kn : ((k : Int) + 1 - 1).toNat = k := by omega
   have hr : relayCh c d ⟨kd, ch, (k : Int) + 1, n, p⟩ = relayTo c y.x ⟨kd, ch, (k : Int) + 1, n, p⟩ := by
    unfold relayCh; rw [if_pos ⟨hm, hl⟩]; dsimp only; rw [kn, hy]
   rw [hr]
   have hmd : decide ((k : Int) + 1 ∈ c.knows) = true := by simpa using hm
   have hf := fit_of_ok oc.st; have hyf := fit_of_ok hyo; have hv := stB_ver9 oc.st; unfold relayTo; dsimp only
   by_cases k4 : kd = 4
   ·subst k4
    rw [if_pos rfl]
    cases hp : p.ok with
    | true =>
     rw [if_pos rfl]; exact l21Relay_get G i j c d ch n p w hc hd hkl hpl y k hmd hk hy hf oc.bank hyf.live hyf.n8 (by have := oc.pl; omega) hp
    | false =>
     rw [if_neg (by decide)]; exact l21Relay_bad G i j c d ch n p w hc hd hkl hpl y k hmd hk hy hp
   ·rw [if_neg k4]
    by_cases k5 : kd = 5
    ·subst k5
     rw [if_pos rfl]; exact l21Relay_tell G i j c d ch n p w hc hd hkl hpl y k hmd hk hy hf oc.bank hyf.got
    ·rw [if_neg k5]
     by_cases k6 : kd = 6
     ·subst k6
      rw [if_pos rfl]; exact l21Relay_late G i j c d ch n p w hc hd hkl hpl y k hmd hk hy hf oc.bank hyf.got
     ·rw [if_neg k6]
      by_cases k7 : kd = 7
      ·subst k7
       rw [if_pos rfl]; exact l21Relay_step G i j c d ch n p w hc hd hkl hpl y k hmd hk hy ⟨by omega, by omega⟩
      ·rw [if_neg k7]
       exact l21Relay_other G i j c d ch n p w hc hd hkl hpl kd y k hmd hk hy k4 k5 k6 k7
  ·have hr : relayCh c d ⟨kd, ch, h, n, p⟩ = c := by unfold relayCh; rw [if_neg (fun q => hl q.2)]
   rw [hr]; exact l21Relay_later G i j c d ch n p w hc hd hkl hpl kd h (by simpa using hm) (by omega)
 ·have hr : relayCh c d ⟨kd, ch, h, n, p⟩ = c := by unfold relayCh; rw [if_neg (fun q => hm q.1)]
  rw [hr]; exact l21Relay_unknown G i j c d ch n p w hc hd hkl hpl kd h (by simpa using hm)

theorem ch_turnP {P : ChM → Prop} {G G0 G1 : Nat → Nat} {i : Nat} {w W1 w2 W : World} {c : ChM} (hP : P c) (hG : ∀ b, b < w.heap.size → G0 b = G b) (hk1 : Keeps noBlk w W1) (hG1 : ∀ b, b < W1.heap.size → G1 b = G0 b) (hC : ChR G1 i w2 c) (hk2 : Keeps (Mt G0 i) W1 w2)
  (hN : ∀ b, w.heap.size ≤ b → b < W1.heap.size → G1 b = 0) (hk3 : Keeps (fun b => w.heap.size ≤ b ∧ b < W1.heap.size) w2 W) : RetCh G i w P (.returned c.val) W := by
 obtain ⟨G', _, h1, h2, h3⟩ := late_turn (o := true) hG hk1 hG1 hC hk2 hN hk3; exact ⟨G', c, rfl, hP, h1, h2, h3⟩
theorem RetKnow.ch {P : ChM → Prop} {G : Nat → Nat} {i : Nat} {w w' : World} {e : Ending} (h : RetKnow G i w P e w') : RetCh G i w P e w' := by
 obtain ⟨G', c, he, hP, hG, hC, hk⟩ := h; exact ⟨G', c, he, hP, hG, hC, hk.more fun _ _ h => h.elim⟩
end Go.Proofs.YtjcbeihoeanhaaaDoor
