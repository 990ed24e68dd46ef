/- From a walk to a row over a chain: an argument of type laws.Chain opened. -/
import Derived.Test.YtcnbephpadmboaaGreatDoorUStF
import Derived.Test.YtcnbephpadmboaaGreatDoorUCxM
set_option linter.unusedVariables false
set_option linter.unusedSimpArgs false
namespace Go.Proofs.YtcnbephpadmboaaGreatDoor
open Go.RowKit Go.ChangeShapes Go.WideShapes Go.ChangeAt Go.Joins Go.Deep

theorem cellsCh : Tryz.prog.cellsOf 31 = 13 := by kernel_rfl
theorem cellsBk : Tryz.prog.cellsOf 24 = 3 := by kernel_rfl
theorem cellsSlI : Tryz.prog.cellsOf 22 = 1 := by kernel_rfl
theorem cellsSlS : Tryz.prog.cellsOf 29 = 1 := by kernel_rfl
section
variable {H : Type} {enc : TypeId × Value → H} {W : World} {base : Nat} {spare : Nat → Bool} {held : Bool} {fuel : Nat}
theorem stm_of_cells {cs : List Value} {y : DataW H × List MemPlace} (hl : cs.length = 7) (h : DataW.trod enc Tryz.prog W base spare held fuel 28 cs = some y) : ∃ s : StM, cs = s.cs ∧ s.At W := by
  obtain ⟨v0, v1, v2, v3, v4, v5, v6, y0, y1, y2, y3, y4, y5, y6, m, rfl, h0, h1, h2, h3, h4, h5, h6⟩ := cells7 Tryz.underlying28 (by kernel_rfl) hl h
  obtain ⟨x0, e0, _, q0⟩ := DataW.trod_int Tryz.underlying3 h0
  simp at e0
  subst e0
  obtain ⟨x1, e1, _, q1⟩ := DataW.trod_int Tryz.underlying3 h1
  simp at e1
  subst e1
  obtain ⟨x2, e2, _, q2⟩ := DataW.trod_int Tryz.underlying3 h2
  simp at e2
  subst e2
  obtain ⟨A1, n1, c1, ps, rfl, p1, m1⟩ := pks_of_trod h3
  obtain ⟨A2, n2, c2, ls, rfl, p2, m2⟩ := bools_of_trod h4
  obtain ⟨A3, n3, c3, bs, rfl, p3, m3⟩ := bools_of_trod h5
  obtain ⟨A4, n4, c4, gs, rfl, p4, m4, _⟩ := ints_of_trod h6
  obtain rfl := p1.1
  obtain rfl := p2.1
  obtain rfl := p3.1
  obtain rfl := p4.1
  exact ⟨⟨⟨x0, x1, x2, ps, ls, bs, gs⟩, A1, A2, A3, A4, c1, c2, c3, c4⟩, rfl, ⟨p1, p2, p3, p4⟩, m1, m2, m3, m4⟩
theorem pas_of_trod {v : Value} {y : DataW H × List MemPlace} (h : DataW.trod enc Tryz.prog W base spare held fuel 29 [v] = some y) :
    ∃ A n c ps, v = .slice A n c ∧ Pas W A n ps ∧ (∀ s ∈ ps, s.At W) ∧ n ≤ maxLen := by
  rcases open_slice Tryz.underlying29 h with ⟨hcs, _⟩ | ⟨a, len, cap, m, f, D, Pl, hcs, _, hl, hm, hmm, _, hi⟩
  · simp at hcs
    subst hcs
    exact ⟨none, 0, 0, [], rfl, Pas.nil _ _, by simp, Nat.zero_le _⟩
  · simp at hcs
    subst hcs
    have hle : len ≤ m := by rw [hmm]; split <;> omega
    have one : ∀ i, i < len → ∃ p : StM, (∀ (j : Nat) c, p.cs[j]? = some c → W.cell? (a.add (i * 7 + j)) = some c) ∧ p.At W := by
      intro i hi'
      obtain ⟨cs, hc, ht⟩ := hi i (by omega)
      rw [cellsSt] at hc
      obtain ⟨_, hcl, hat⟩ := World.cells?_some hc
      obtain ⟨p, rfl, hp⟩ := stm_of_cells hcl ht
      refine ⟨p, fun j c hj => ?_, hp⟩
      rw [← add_add, hat j (List.getElem?_eq_some_iff.1 hj).1]
      exact hj
    obtain ⟨l, hl1, hl2⟩ := list_of len (fun i (p : StM) => (∀ (j : Nat) c, p.cs[j]? = some c → W.cell? (a.add (i * 7 + j)) = some c) ∧ p.At W) one
    refine ⟨some a, len, cap, l, rfl, ⟨hl1, fun hn => ?_⟩, fun s hs => ?_, by omega⟩
    · obtain ⟨b, off, spot⟩ := a
      obtain ⟨p, hp, _⟩ := one 0 hn
      have hc := hp 0 _ rfl
      have hspot : spot = none := by simpa [Addr.add] using World.cell?_spot hc
      subst hspot
      exact ⟨b, off, rfl, World.block_lt_of_cell? W _ (by simpa [Addr.add] using hc), fun j q hq i c hi => add_cell ((hl2 j q hq).1 i c hi)⟩
    · obtain ⟨j, hj⟩ := List.getElem?_of_mem hs
      exact (hl2 j s hj).2
theorem bk_of_cells {cs : List Value} {y : DataW H × List MemPlace} (hl : cs.length = 3) (h : DataW.trod enc Tryz.prog W base spare held fuel 24 cs = some y) :
    ∃ (A1 A2 : Option Addr) (c1 c2 : Nat) (own notes : List Int) (L : Int), cs = [.slice A1 own.length c1, .slice A2 notes.length c2, .int .i64 L] ∧ Ints W A1 own.length own ∧ Ints W A2 notes.length notes ∧ own.length ≤ maxLen ∧ notes.length ≤ maxLen ∧ I64 L := by
  match cs, hl with
  | [c0, c1, c2], _ =>
    obtain ⟨xs, n, _, hx, _, hlen, hg⟩ := DataW.trod_struct Tryz.underlying24 h
    match xs, hlen with
    | [y0, y1, y2], _ =>
      have h0 := hg 0 _ rfl
      have h1 := hg 1 _ rfl
      have h2 := hg 2 _ rfl
      simp [cellsSlI, cellsInt] at h0 h1 h2
      obtain ⟨A1, n1, k1, own, rfl, p1, m1, _⟩ := ints_of_trod h0
      obtain ⟨A2, n2, k2, notes, rfl, p2, m2, _⟩ := ints_of_trod h1
      obtain ⟨L, e2, _, q2⟩ := DataW.trod_int Tryz.underlying3 h2
      simp at e2
      subst e2
      obtain rfl := p1.1
      obtain rfl := p2.1
      exact ⟨A1, A2, k1, k2, own, notes, L, rfl, p1, p2, m1, m2, wf_i64 q2⟩
set_option maxRecDepth 100000 in
theorem ch_of_cells {cs : List Value} {y : DataW H × List MemPlace} (hl : cs.length = 13) (h : DataW.trod enc Tryz.prog W base spare held fuel 31 cs = some y) : ∃ c : ChM, cs = c.cs ∧ ChAt W c ∧ I64 c.bk.b.locked := by
  match cs, hl with
  | [c0, c1, c2, c3, c4, c5, c6, c7, c8, c9, c10, c11, c12], _ =>
    obtain ⟨xs, n, _, hx, _, hlen, hg⟩ := DataW.trod_struct Tryz.underlying31 h
    match xs, hlen with
    | [y0, y1, y2, y3, y4], _ =>
      have h0 := hg 0 _ rfl
      have h1 := hg 1 _ rfl
      have h2 := hg 2 _ rfl
      have h3 := hg 3 _ rfl
      have h4 := hg 4 _ rfl
      simp [cellsSlI, cellsSlS, cellsInt, cellsBk, cellsSt] at h0 h1 h2 h3 h4
      obtain ⟨id, e0, _, q0⟩ := DataW.trod_int Tryz.underlying3 h0
      simp at e0
      subst e0
      obtain ⟨a1, a2, e1, e2, own, notes, lk, eb, b1, b2, m1, m2, b3⟩ := bk_of_cells rfl h1
      obtain ⟨s, es, hs⟩ := stm_of_cells rfl h2
      obtain ⟨pA, pn, pc, ps, rfl, hp, hps, m3⟩ := pas_of_trod h3
      obtain ⟨kA, kn, kc, ks, rfl, hk, m4, _⟩ := ints_of_trod h4
      obtain rfl := hp.1
      obtain rfl := hk.1
      simp only [List.cons.injEq, and_true] at eb
      simp only [StM.cs, List.cons.injEq, and_true] at es
      obtain ⟨rfl, rfl, rfl⟩ := eb
      obtain ⟨rfl, rfl, rfl, rfl, rfl, rfl, rfl⟩ := es
      exact ⟨⟨id, ⟨⟨own, notes, lk⟩, a1, a2, e1, e2⟩, s, ps, pA, pc, ks, kA, kc⟩, rfl, ⟨b1, b2, hs, hp, hps, hk, m1, m2, m3, m4⟩, b3⟩
set_option maxRecDepth 100000 in
theorem ch_of_trod {b0 : Nat} {r : Reach} {v : Value} {d : DataW H} {p : List MemPlace} (hv : Value.okWide Tryz.prog W r b0 31 v) (h : DataW.Trod enc Tryz.prog W base spare held 31 v d p) :
    ∃ c : ChM, v = c.val ∧ ChAt W c ∧ I64 c.bk.b.locked := by
  obtain ⟨cs, rfl, hsz⟩ := okWide_struct Tryz.underlying31 hv
  obtain ⟨fuel, hf⟩ := h
  obtain ⟨c, e, h1, h2⟩ := ch_of_cells (by simpa [Value.cells] using hsz.trans cellsCh) hf
  refine ⟨c, ?_, h1, h2⟩
  unfold ChM.val
  congr 1
  apply Array.toList_inj.1
  simpa [Value.cells, ChM.cs] using e
end
end Go.Proofs.YtcnbephpadmboaaGreatDoor
