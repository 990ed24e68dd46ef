/- markStateS, heldStateS, markChain, heldChain of the laws: a chain of the call's own, whose rows lie in blocks of their own, is marked; a marked one is told. -/
import Derived.Test.YtbgpclicflafaaaDoorCxM
import Derived.Test.YtbgpclicflafaaaDoorUMem
set_option linter.unusedVariables false
set_option linter.unusedSimpArgs false
namespace Go.Proofs.YtbgpclicflafaaaDoor
open Go.RowKit

def StM.Own (w : World) (lo : Nat) (s : StM) : Prop := StOwn w lo s.x s.A1 s.A2 s.A3 s.A4
def StM.Len (s : StM) : Prop := s.x.sent.length ≤ maxLen ∧ s.x.live.length ≤ maxLen ∧ s.x.back.length ≤ maxLen ∧ s.x.got.length ≤ maxLen
theorem StM.Own.at_ {w : World} {lo : Nat} {s : StM} (h : s.Own w lo) (m : s.Len) : s.At w := StOwn.at_ h m.1 m.2.1 m.2.2.1 m.2.2.2
theorem StM.Own.kept {w w' : World} {lo : Nat} {s : StM} (h : s.Own w lo) (hk : Keeps noBlk w w') : s.Own w' lo := StOwn.kept h hk
theorem StM.Own.keeps {S : Nat → Prop} {w w' : World} {lo : Nat} {s : StM} (h : s.Own w lo) (hk : Keeps S w w') (hs : ∀ b, s.bl b → ¬ S b) : s.Own w' lo := StOwn.keeps h hk hs
theorem StM.Own.lt {w : World} {lo : Nat} {s : StM} (h : s.Own w lo) {b : Nat} (hb : s.bl b) : b < w.heap.size := StOwn.lt h hb
theorem StM.Own.ge {w : World} {lo : Nat} {s : StM} (h : s.Own w lo) {b : Nat} (hb : s.bl b) : lo ≤ b := StOwn.ge h hb
theorem StM.Own.less {w : World} {lo lo' : Nat} {s : StM} (h : s.Own w lo) (hl : lo' ≤ lo) : s.Own w lo' := by
  obtain ⟨s1, s2, s3, ⟨h1, h2, h3, h4⟩, q1, q2, q3, e1, e2, e3⟩ := h
  exact ⟨s1, s2, s3, ⟨h1.less hl, h2, h3, h4⟩, q1, q2, q3, by omega, e2, e3⟩
/-- State i of the list is the call's own, its blocks have the role r + i. -/
def SOwn (G : Nat → Nat) (r : Nat) (w : World) (lo : Nat) (ps : List StM) (i : Nat) : Prop := (ps.getD i stm0).Own w lo ∧ ∀ b, (ps.getD i stm0).bl b → G b = r + i
theorem SOwn.keeps {S : Nat → Prop} {G : Nat → Nat} {r : Nat} {w w' : World} {lo : Nat} {ps : List StM} {i : Nat} (h : SOwn G r w lo ps i) (hk : Keeps S w w') (hs : ∀ b, G b = r + i → ¬ S b) : SOwn G r w' lo ps i :=
  ⟨h.1.keeps hk fun b hb => hs b (h.2 b hb), h.2⟩
theorem SOwn.kept {G : Nat → Nat} {r : Nat} {w w' : World} {lo : Nat} {ps : List StM} {i : Nat} (h : SOwn G r w lo ps i) (hk : Keeps noBlk w w') : SOwn G r w' lo ps i := h.keeps hk fun _ _ h => h
theorem getD_set_self {α : Type} {l : List α} {k : Nat} (d s : α) (h : k < l.length) : (l.set k s).getD k d = s := by
  rw [List.getD_eq_getElem?_getD, List.getElem?_set_self h]
  rfl
theorem getD_set_ne {α : Type} {l : List α} {k i : Nat} (d s : α) (h : k ≠ i) : (l.set k s).getD i d = l.getD i d := by
  rw [List.getD_eq_getElem?_getD, List.getElem?_set_ne h, ← List.getD_eq_getElem?_getD]

/-- A state whose memory and three numbers are marked from k on. -/
def smk (s : StM) (k : Int) : StM := { s with x := { stMark s.x (k + 1 + 1 + 1) with way := k, ver := k + 1, want := k + 1 + 1 } }
theorem smk_bl (s : StM) (k : Int) (b : Nat) : (smk s k).bl b ↔ s.bl b := by
  simp only [smk, StM.bl, stBlk, stMark, pmarks_length, bmarks_length, iota_length]
theorem smk_len {s : StM} {k : Int} (h : s.Len) : (smk s k).Len := by
  simpa only [smk, StM.Len, stMark, pmarks_length, bmarks_length, iota_length] using h
def stNi (x : StL) : Int := 7 * (x.sent.length : Int) + x.live.length + x.back.length + x.got.length
/-- How many marks the first i states take. -/
def paN (ps : List StM) : Nat → Int
  | 0 => 0
  | i + 1 => paN ps i + 3 + stNi (ps.getD i stm0).x
theorem stNi_nn (x : StL) : 0 ≤ stNi x := by unfold stNi; omega
theorem paN_nn (ps : List StM) (i : Nat) : 0 ≤ paN ps i := by
  induction i with
  | zero => exact Int.le_refl _
  | succ i ih => have := stNi_nn (ps.getD i stm0).x; simp only [paN]; omega
theorem paN_mono (ps : List StM) {i j : Nat} (h : i ≤ j) : paN ps i ≤ paN ps j := by
  induction h with
  | refl => exact Int.le_refl _
  | @step m _ ih => have := stNi_nn (ps.getD m stm0).x; simp only [paN]; omega
theorem paN_len (ps : List StM) (i : Nat) : 3 * (i : Int) ≤ paN ps i := by
  induction i with
  | zero => exact Int.le_refl _
  | succ i ih => have := stNi_nn (ps.getD i stm0).x; simp only [paN]; omega
/-- The blocks of a slice of states, and of their rows. -/
def pasBlk (A : Option Addr) (ps : List StM) (b : Nat) : Prop := blk A ps.length b ∨ ∃ i, i < ps.length ∧ (ps.getD i stm0).bl b
/-- All marked. -/
def pastMark (ps : List StM) (k : Int) : List StM := (List.range ps.length).map fun i => smk (ps.getD i stm0) (k + paN ps i)
theorem pastMark_length (ps : List StM) (k : Int) : (pastMark ps k).length = ps.length := by simp [pastMark]
theorem pastMark_getD (ps : List StM) (k : Int) {i : Nat} (h : i < ps.length) : (pastMark ps k).getD i stm0 = smk (ps.getD i stm0) (k + paN ps i) := by
  simp only [pastMark, List.getD_eq_getElem?_getD, List.getElem?_map, List.getElem?_range h]
  rfl
theorem ext_getD {l m : List StM} (hl : l.length = m.length) (h : ∀ i, i < l.length → l.getD i stm0 = m.getD i stm0) : l = m := by
  apply List.ext_getElem hl
  intro i h1 h2
  have := h i h1
  rw [List.getD_eq_getElem?_getD, List.getD_eq_getElem?_getD, List.getElem?_eq_getElem h1, List.getElem?_eq_getElem h2] at this
  exact this

set_option maxRecDepth 100000 in
set_option maxHeartbeats 4000000 in
theorem markStateS_any (A : Option Addr) (c lo : Nat) (G : Nat → Nat) (k : Int) (ps : List StM) (w : World) (hr : SRow w lo A ps.length ps) (hg : ∀ b, blk A ps.length b → G b = 3) (hs : ∀ i, i < ps.length → SOwn G 10 w lo ps i)
    (hk0 : 0 ≤ k) (hk : k + paN ps ps.length ≤ 1000000000) :
    Calls Tryd.prog 75 #[.slice A ps.length c, .int .i64 k] w fun e w' => e = .returned (.int .i64 (k + paN ps ps.length)) ∧ SRow w' lo A ps.length (pastMark ps k) ∧ (∀ i, i < ps.length → SOwn G 10 w' lo (pastMark ps k) i) ∧ Keeps (pasBlk A ps) w w' := by
  have hln : (ps.length : Int) ≤ 1000000000 := by have := paN_len ps ps.length; omega
  have hle := Lib.hid (fun j (h : j ≤ ps.length) => paN_mono ps h)
  have hnn := Lib.hid (paN_nn ps)
  have HG := Lib.hid hg
  have HR := Lib.hid hr
  have HS := Lib.hid hs
  clear hr hg hs
  go_enter Tryd.func75, Tryd.ntmps75
  go_wp2
  go_loopw [1, 5] (fun kk i wr => ∃ (j : Nat) (us : List StM), j ≤ ps.length ∧ i = .int .i64 j ∧ kk = .int .i64 (k + paN ps j) ∧ us.length = ps.length ∧ (∀ i, i < ps.length → us.getD i stm0 = if i < j then smk (ps.getD i stm0) (k + paN ps i) else ps.getD i stm0) ∧ SRow wr lo A ps.length us ∧ (∀ i, i < ps.length → SOwn G 10 wr lo us i) ∧ Keeps (pasBlk A ps) w wr) (fun _ i _ => ps.length - (intOf i).toNat)
  case atStart => exact ⟨0, ps, Nat.zero_le _, rfl, by simp [paN], rfl, fun i _ => by rw [if_neg (Nat.not_lt_zero _)], HR.out, HS.out, Keeps.refl _ _⟩
  case round =>
    obtain ⟨j, us, hj, rfl, rfl, hul, hus, hr, hs, hkp⟩ := hrel
    by_cases hlt : j < ps.length
    · obtain ⟨b1, o1, rfl, hb1, z0, z1, z2, z3, z4, z5, z6⟩ := hr.1.at_ hlt
      obtain ⟨b1', o1', e1', _, hf⟩ := hr.2 (by omega)
      injection e1' with e1'
      injection e1' with e1' e2'
      subst e1'
      subst e2'
      have f0 := hf (j * 7) (by omega)
      have f1 := hf (j * 7 + 1) (by omega)
      have f2 := hf (j * 7 + 2) (by omega)
      simp only [← Nat.add_assoc] at f1 f2
      clear hf
      have hsj := hs j hlt
      have huj := hus j hlt
      rw [if_neg (Nat.lt_irrefl _)] at huj
      have gb1 : G b1 = 3 := HG.out b1 ⟨by omega, _, rfl, rfl⟩
      have hst : Hid (paN ps (j + 1) = paN ps j + 3 + stNi (ps.getD j stm0).x) := Lib.hid rfl
      have h1 := hle.out (j + 1) hlt
      have h2 := hnn.out j
      rw [hst.out] at h1
      have hbl : ∀ b, (ps.getD j stm0).bl b → pasBlk (some ⟨b1, o1, none⟩) ps b := fun b hb => .inr ⟨j, hlt, hb⟩
      have hb3 : pasBlk (some ⟨b1, o1, none⟩) ps b1 := .inl ⟨by omega, _, rfl, rfl⟩
      rw [SOwn, huj] at hsj
      rw [huj] at z0 z1 z2 z3 z4 z5 z6
      have hne : Hid (ps.getD j stm0 = us.getD j stm0) := Lib.hid huj.symm
      generalize hp : ps.getD j stm0 = p at hsj z0 z1 z2 z3 z4 z5 z6 hst h1 hbl huj hne
      have HPJ := Lib.hid hp
      clear hp
      obtain ⟨x, A1, A2, A3, A4, c1, c2, c3, c4⟩ := p
      obtain ⟨hown, hgj⟩ := hsj
      dsimp only [StM.Own, StM.bl] at hown hgj z0 z1 z2 z3 z4 z5 z6 hbl
      generalize hK : k + paN ps j = K
      have hK0 : 0 ≤ K := by omega
      have hK1 : K + 3 + 7 * (x.sent.length : Int) + x.live.length + x.back.length + x.got.length ≤ 1000000000 := by
        unfold stNi at h1
        dsimp only at h1
        omega
      have HKK := Lib.hid hK
      clear hK h1 h2
      have n1 : ¬ stBlk x A1 A2 A3 A4 b1 := fun h => by have := hgj _ h; omega
      -- the three stores
      have HK3 := Lib.hid ((((Keeps.refl (fun b => b = b1) wr).setCell (p := ⟨b1, o1 + j * 7, none⟩) (.inr rfl) (.int .i64 K)).setCell (p := ⟨b1, o1 + j * 7 + 1, none⟩) (.inr rfl) (.int .i64 (K + 1))).setCell (p := ⟨b1, o1 + j * 7 + 2, none⟩) (.inr rfl) (.int .i64 (K + 1 + 1)))
      have hR3 := ((hr.put hlt 0 (by omega) (.int .i64 K) ⟨{ x with way := K }, A1, A2, A3, A4, c1, c2, c3, c4⟩ (by rw [huj]; rfl)).put hlt 1 (by omega) (.int .i64 (K + 1)) ⟨{ x with way := K, ver := K + 1 }, A1, A2, A3, A4, c1, c2, c3, c4⟩ (by rw [getD_set_self _ _ (by omega)]; rfl)).put hlt 2 (by omega) (.int .i64 (K + 1 + 1)) (smk ⟨x, A1, A2, A3, A4, c1, c2, c3, c4⟩ K) (by rw [getD_set_self _ _ (by simp; omega)]; simp [StM.cs, smk, stMark, pmarks_length, bmarks_length, iota_length])
      rw [List.set_set, List.set_set, Nat.add_zero] at hR3
      have HR3 := Lib.hid hR3
      clear hR3
      obtain ⟨s1, s2, s3, ⟨h1, h2, h3, h4⟩, q1, q2, q3, e1, e2, e3⟩ := hown
      have H1 := Lib.hid (h1.keeps HK3.out fun b hb e => n1 (by subst e; exact .inl hb))
      have H2 := Lib.hid (h2.keeps HK3.out fun b hb e => n1 (by subst e; exact .inr (.inl hb)))
      have H3 := Lib.hid (h3.keeps HK3.out fun b hb e => n1 (by subst e; exact .inr (.inr (.inl hb))))
      have H4 := Lib.hid (h4.keeps HK3.out fun b hb e => n1 (by subst e; exact .inr (.inr (.inr hb))))
      have d12 : ∀ b, blk A1 x.sent.length b → ¬ blk A2 x.live.length b := fun b h h' => by have := q1 b h; have := h2.ge h'; omega
      have d13 : ∀ b, blk A1 x.sent.length b → ¬ blk A3 x.back.length b := fun b h h' => by have := q1 b h; have := h3.ge h'; omega
      have d14 : ∀ b, blk A1 x.sent.length b → ¬ blk A4 x.got.length b := fun b h h' => by have := q1 b h; have := h4.ge h'; omega
      have d23 : ∀ b, blk A2 x.live.length b → ¬ blk A3 x.back.length b := fun b h h' => by have := q2 b h; have := h3.ge h'; omega
      have d24 : ∀ b, blk A2 x.live.length b → ¬ blk A4 x.got.length b := fun b h h' => by have := q2 b h; have := h4.ge h'; omega
      have d34 : ∀ b, blk A3 x.back.length b → ¬ blk A4 x.got.length b := fun b h h' => by have := q3 b h; have := h4.ge h'; omega
      have D := Lib.hid (And.intro d12 (And.intro d13 (And.intro d14 (And.intro d23 (And.intro d24 d34)))))
      have Q := Lib.hid (And.intro q1 (And.intro q2 (And.intro q3 (And.intro e1 (And.intro e2 e3)))))
      have HUS := Lib.hid hus
      have HSS := Lib.hid hs
      have Hkp := Lib.hid hkp
      have HGJ := Lib.hid hgj
      have HBL := Lib.hid hbl
      have HB3 := Lib.hid hb3
      have HN1 := Lib.hid n1
      have HUL := Lib.hid hul
      have HGB := Lib.hid gb1
      have HLT := Lib.hid hlt
      clear h1 h2 h3 h4 q1 q2 q3 e1 e2 e3 d12 d13 d14 d23 d24 d34 hus hs hkp hgj hbl hb3 n1 hul gb1 huj hr
      go_wp2_with fail
      generalize ((wr.setCell ⟨b1, o1 + j * 7, none⟩ (.int .i64 K)).setCell ⟨b1, o1 + j * 7 + 1, none⟩ (.int .i64 (K + 1))).setCell ⟨b1, o1 + j * 7 + 2, none⟩ (.int .i64 (K + 1 + 1)) = W3 at HK3 HR3 H1 H2 H3 H4 ⊢
      clear z0 z1 z2 z3 z4 z5 z6 f0 f1 f2
      refine (markPacketS_any A1 x.sent.length _ lo _ x.sent _ H1.out (by omega) (by omega)).mono ?_
      rintro e w1 ⟨rfl, hr1, hk1⟩
      have hrow := HR3.out.keeps hk1 (fun b hb h => HN1.out (by obtain ⟨_, a, ea, eb⟩ := hb; injection ea with ea; subst ea; subst eb; exact .inl h))
      obtain ⟨b9, o9, e9, _, _, _, _, _, z4, _, _⟩ := hrow.1.at_ hlt
      injection e9 with e9
      injection e9 with e9 e8
      subst e9
      subst e8
      rw [getD_set_self _ _ (by rw [HUL.out]; exact hlt)] at z4
      simp only [smk, stMark, bmarks_length] at z4
      have HR4 := Lib.hid hrow
      have R1 := Lib.hid hr1
      have R2 := Lib.hid (H2.out.keeps hk1 fun b h h' => D.out.1 b h' h)
      have R3 := Lib.hid (H3.out.keeps hk1 fun b h h' => D.out.2.1 b h' h)
      have R4 := Lib.hid (H4.out.keeps hk1 fun b h h' => D.out.2.2.1 b h' h)
      have HK4 := Lib.hid (((HK3.out.more (T := fun b => b = b1 ∨ stBlk x A1 A2 A3 A4 b) fun _ _ h => .inl h)).then hk1 fun i hi h => .inr (.inl h))
      clear hrow hr1 hk1 H1 H2 H3 H4 HR3 HK3
      go_wp2_with fail
      clear z4
      refine (markBoolS_any A2 x.live.length _ s1 _ x.live _ R2.out (by omega) (by omega)).mono ?_
      rintro e w2 ⟨rfl, hr2, hk2⟩
      have hrow := HR4.out.keeps hk2 (fun b hb h => HN1.out (by obtain ⟨_, a, ea, eb⟩ := hb; injection ea with ea; subst ea; subst eb; exact .inr (.inl h)))
      obtain ⟨b9, o9, e9, _, _, _, _, _, _, z5, _⟩ := hrow.1.at_ hlt
      injection e9 with e9
      injection e9 with e9 e8
      subst e9
      subst e8
      rw [getD_set_self _ _ (by rw [HUL.out]; exact hlt)] at z5
      simp only [smk, stMark, bmarks_length] at z5
      have HR5 := Lib.hid hrow
      have T1 := Lib.hid (R1.out.keeps hk2 fun b h h' => D.out.1 b h h')
      have T2 := Lib.hid hr2
      have T3 := Lib.hid (R3.out.keeps hk2 fun b h h' => D.out.2.2.2.1 b h' h)
      have T4 := Lib.hid (R4.out.keeps hk2 fun b h h' => D.out.2.2.2.2.1 b h' h)
      have HK5 := Lib.hid (HK4.out.then hk2 fun i hi h => .inr (.inr (.inl h)))
      clear hrow hr2 hk2 R1 R2 R3 R4 HR4 HK4
      go_wp2_with fail
      clear z5
      refine (markBoolS_any A3 x.back.length _ s2 _ x.back _ T3.out (by omega) (by omega)).mono ?_
      rintro e w3 ⟨rfl, hr3, hk3⟩
      have hrow := HR5.out.keeps hk3 (fun b hb h => HN1.out (by obtain ⟨_, a, ea, eb⟩ := hb; injection ea with ea; subst ea; subst eb; exact .inr (.inr (.inl h))))
      obtain ⟨b9, o9, e9, _, _, _, _, _, _, _, z6⟩ := hrow.1.at_ hlt
      injection e9 with e9
      injection e9 with e9 e8
      subst e9
      subst e8
      rw [getD_set_self _ _ (by rw [HUL.out]; exact hlt)] at z6
      simp only [smk, stMark, iota_length] at z6
      have HR6 := Lib.hid hrow
      have V1 := Lib.hid (T1.out.keeps hk3 fun b h h' => D.out.2.1 b h h')
      have V2 := Lib.hid (T2.out.keeps hk3 fun b h h' => D.out.2.2.2.1 b h h')
      have V3 := Lib.hid hr3
      have V4 := Lib.hid (T4.out.keeps hk3 fun b h h' => D.out.2.2.2.2.2 b h' h)
      have HK6 := Lib.hid (HK5.out.then hk3 fun i hi h => .inr (.inr (.inr (.inl h))))
      clear hrow hr3 hk3 T1 T2 T3 T4 HR5 HK5
      go_wp2_with fail
      clear z6
      refine (markIntS_any A4 x.got.length _ s3 _ x.got _ V4.out (by omega) (by omega)).mono ?_
      rintro e w4 ⟨rfl, hr4, hk4⟩
      have HR7 := Lib.hid (HR6.out.keeps hk4 (fun b hb h => HN1.out (by obtain ⟨_, a, ea, eb⟩ := hb; injection ea with ea; subst ea; subst eb; exact .inr (.inr (.inr h)))))
      have HK7 := Lib.hid (HK6.out.then hk4 fun i hi h => .inr (.inr (.inr (.inr h))))
      have Y1 := Lib.hid (V1.out.keeps hk4 fun b h h' => D.out.2.2.1 b h h')
      have Y2 := Lib.hid (V2.out.keeps hk4 fun b h h' => D.out.2.2.2.2.1 b h h')
      have Y3 := Lib.hid (V3.out.keeps hk4 fun b h h' => D.out.2.2.2.2.2 b h h')
      have Y4 := Lib.hid hr4
      clear hr4 hk4 V1 V2 V3 V4 HR6 HK6
      go_wp2
      go_roundw
      case rel =>
        refine ⟨j + 1, us.set j (smk ⟨x, A1, A2, A3, A4, c1, c2, c3, c4⟩ K), HLT.out, by go_num, ?_, by rw [List.length_set]; exact HUL.out, ?_, HR7.out, ?_, ?_⟩
        · rw [hst.out, ← HKK.out]
          unfold stNi
          congr 1
          (try dsimp only)
          omega
        · intro i hi
          by_cases hij : j = i
          · subst hij
            rw [getD_set_self _ _ (by rw [HUL.out]; exact hlt), if_pos (Nat.lt_succ_self _), HPJ.out, HKK.out]
          · rw [getD_set_ne _ _ hij, HUS.out i hi]
            by_cases hlt' : i < j
            · rw [if_pos hlt', if_pos (by omega)]
            · rw [if_neg hlt', if_neg (by omega)]
        · intro i hi
          by_cases hij : j = i
          · subst hij
            unfold SOwn
            rw [getD_set_self _ _ (by rw [HUL.out]; exact hlt)]
            refine ⟨⟨s1, s2, s3, ?_, ?_⟩, fun b hb => HGJ.out b ((smk_bl _ _ b).1 hb)⟩
            · simp only [smk, stMark, pmarks_length, bmarks_length, iota_length]
              exact ⟨Y1.out, Y2.out, Y3.out, Y4.out⟩
            · simp only [smk, stMark, pmarks_length, bmarks_length, iota_length]
              exact Q.out
          · have := (HSS.out i hi).keeps HK7.out fun b hb h => by
              rcases h with rfl | h
              · have := HGB.out; omega
              · have := HGJ.out b h; omega
            unfold SOwn at this ⊢
            rw [getD_set_ne _ _ hij]
            exact this
        · exact Hkp.out.then HK7.out fun i hi h => by
            rcases h with rfl | h
            · exact HB3.out
            · exact HBL.out _ h
      case measure => have := HLT.out; simp [intOf]; omega
    · obtain he : j = ps.length := by omega
      obtain rfl : us = pastMark ps k := ext_getD (by rw [pastMark_length, hul]) fun i hi => by
        rw [hul] at hi
        rw [pastMark_getD ps k hi, hus i hi, if_pos (by omega)]
      have hh : Hid (k + paN ps j = k + paN ps ps.length) := Lib.hid (by rw [he])
      clear he
      have Hr := Lib.hid hr
      have Hs := Lib.hid hs
      have Hkp := Lib.hid hkp
      clear hr hs hkp hus hul
      go_wp2
      go_ret
      exact ⟨by first | (rw [hh.out]; done) | (rw [hh.out]; rfl), Hr.out, Hs.out, Hkp.out⟩
end Go.Proofs.YtbgpclicflafaaaDoor
