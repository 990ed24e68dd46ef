/- impl.PacketText hands back the text pkT. -/
import Derived.Test.YtjbllfnfnkghgaaDoorPkI
import Derived.Test.YtjbllfnfnkghgaaDoorShelfT
import Derived.OwnWalk
import Derived.Deep.AppendLies
import Derived.Lib.Join
import Derived.Lib.ItoaNum
set_option linter.unusedVariables false
set_option linter.unusedSimpArgs false
namespace Go.Proofs.YtjbllfnfnkghgaaDoor
open Go.RowKit

/-- The figures of a number that is not negative. -/
def dg (n : Int) : List UInt8 := Lib.decDigits n.toNat
def wdL (s k f t m u v : Int) : List (List UInt8) := [dg s, dg k, dg f, dg t, dg m, dg u, dg v]
def txt (s k f t m u v : Int) : List UInt8 := Lib.join (wdL s k f t m u v) [32]
def pkT (s k f t m u v : Int) : List UInt8 := if pkB s k f t m u v = true then txt s k f t m u v else []
theorem dg_len (n : Int) (h : n < 100) : (dg n).length ≤ 2 := by
  unfold dg
  have h1 : n.toNat < 100 := by omega
  generalize n.toNat = u at h1
  rw [Lib.decDigits]
  split
  · simp
  · rw [Lib.decDigits, dif_pos (by omega)]
    simp
theorem txt_len (s k f t m u v : Int) (h : pkB s k f t m u v = true) : (txt s k f t m u v).length ≤ 100 := by
  obtain ⟨h0, h1, h2, h3, h4, h5, h6⟩ := pkB_parts h
  have e0 := dg_len s (by omega)
  have e1 := dg_len k (by omega)
  have e2 := dg_len f (by omega)
  have e3 := dg_len t (by omega)
  have e4 := dg_len m (by omega)
  have e5 := dg_len u (by omega)
  have e6 := dg_len v (by omega)
  simp only [txt, wdL, Lib.join_cons, Lib.joinTail, List.map_cons, List.map_nil, List.flatten_cons, List.flatten_nil, List.length_append, List.length_cons, List.length_nil]
  omega
def strs (l : List (List UInt8)) : List Value := l.map fun x => Value.string ⟨x.toArray⟩
theorem strs_snoc (l : List (List UInt8)) (x : List UInt8) : strs l ++ [Value.string ⟨x.toArray⟩] = strs (l ++ [x]) := by simp [strs]
theorem infoStr : (Tryd.prog.info? 9).map (fun i => (i.zero, i.size, i.bytes)) = some (some (.string ⟨#[]⟩), 1, 16) := by kernel_rfl

theorem idg_any (n : Int) (h0 : 0 ≤ n) (h1 : n < 100) (w : World) : Calls Tryd.prog 26 #[.int .i64 n] w fun e w' => e = .returned (.string ⟨(dg n).toArray⟩) ∧ w = w' := by
  obtain ⟨u, rfl⟩ := Int.eq_ofNat_of_zero_le h0
  exact (Tryd.strconv_Itoa_small u (by omega) w).mono fun e w' ⟨he, hw⟩ => ⟨by rw [he]; rfl, hw.symm⟩

attribute [local go_sem] idx_0 idx_1 idx_2 idx_3 idx_4 idx_5 idx_6
theorem wdL_take (s k f t m u v : Int) : (wdL s k f t m u v).take 7 = wdL s k f t m u v := rfl
def RetTxt (w : World) (l : List UInt8) (e : Ending) (w' : World) : Prop := e = .returned (.string ⟨l.toArray⟩) ∧ Keeps noBlk w w'

theorem join_any {B : Nat} (s k f t m u v : Int) (g cap : Nat) (w : World) (ho : w.ownsRow B 9 1 (.slice (some ⟨g, 0, none⟩) 7 cap) 7 (strs ((wdL s k f t m u v).take 7))) (hg : g < w.heap.size) (hl : (txt s k f t m u v).length ≤ 100) :
    Calls Tryd.prog 27 #[.slice (some ⟨g, 0, none⟩) 7 cap, .string ⟨#[32]⟩] w (RetTxt w (txt s k f t m u v)) := by
  have hcap : 7 ≤ cap := by
    rcases ho.2 with ⟨h, _⟩ | ⟨g', cap', cur, h, _, _, hc, _⟩
    · cases h
    · cases h; exact hc
  have hc := ho.cells (g := g) rfl
  have e : ((wdL s k f t m u v).map fun x => (⟨x.toArray⟩ : ByteArray)).map (·.data.toList) = wdL s k f t m u v := by simp [List.map_map, Function.comp_def]
  have hcs : ∀ (j : Nat) x, ((wdL s k f t m u v).map fun x => (⟨x.toArray⟩ : ByteArray))[j]? = some x → w.cell? ⟨g, 0 + j, none⟩ = some (.string x) := by
    intro j x hx
    have := hc j (.string x) (by
      rw [wdL_take, strs]
      rw [List.getElem?_map] at hx ⊢
      rcases hq : (wdL s k f t m u v)[j]? with _ | y
      · rw [hq] at hx; cases hx
      · rw [hq] at hx
        simp only [Option.map_some, Option.some.injEq] at hx ⊢
        rw [hx])
    by_cases h0 : j = 0
    · subst h0
      simpa [Addr.add] using this
    · simpa [Addr.add, h0] using this
  have h := Tryd.strings_Join g 0 cap ((wdL s k f t m u v).map fun x => ⟨x.toArray⟩) ⟨#[32]⟩ w hcs hg (by simp [wdL]) (by simpa [wdL] using hcap) (by
    rw [e]
    have : (Lib.join (wdL s k f t m u v) [32]).length ≤ 100 := hl
    have h2 : (⟨#[32]⟩ : ByteArray).data.toList = [32] := rfl
    rw [h2]
    omega)
  rw [e] at h
  exact h.mono fun e w' ⟨he, hb⟩ => ⟨he, Below.keeps hb _⟩

set_option maxRecDepth 100000 in
set_option maxHeartbeats 4000000 in
theorem implText_any (s k f t m u v : Int) (w : World) (ht : Tabs w) : Calls Tryd.prog 13 #[.agg #[.int .i64 s, .int .i64 k, .int .i64 f, .int .i64 t, .int .i64 m, .int .i64 u, .int .i64 v]] w (RetTxt w (pkT s k f t m u v)) := by
  have HT := Lib.hid ht
  clear ht
  have HB0 := Lib.hid (Box.new w _ rfl 24 #[.int .i64 s, .int .i64 k, .int .i64 f, .int .i64 t, .int .i64 m, .int .i64 u, .int .i64 v])
  have HK0 := Lib.hid ((Keeps.refl noBlk w).alloc (.cells #[.int .i64 s, .int .i64 k, .int .i64 f, .int .i64 t, .int .i64 m, .int .i64 u, .int .i64 v] 24))
  rcases Bool.eq_false_or_eq_true (pkB s k f t m u v) with ho | ho
  · have HIM := Lib.hid (fun W hW => (show Calls Tryd.prog 16 #[.agg #[.int .i64 s, .int .i64 k, .int .i64 f, .int .i64 t, .int .i64 m, .int .i64 u, .int .i64 v]] W (fun e w' => e = .returned (.bool true) ∧ Keeps noBlk W w') from by rw [← ho]; exact implPk_any s k f t m u v W hW))
    obtain ⟨⟨p0, p0'⟩, ⟨p1, p1'⟩, ⟨p2, p2'⟩, ⟨p3, p3'⟩, ⟨p4, p4'⟩, ⟨p5, p5'⟩, ⟨p6, p6'⟩⟩ := pkB_parts ho
    have HF := Lib.hid (show pkT s k f t m u v = txt s k f t m u v from if_pos ho)
    have HL := Lib.hid (txt_len s k f t m u v ho)
    clear ho
    obtain ⟨i0, hi, hz0, hz1, hz2⟩ := info_parts infoStr
    have HI := Lib.hid hi
    have HZ0 := Lib.hid hz0
    have HZ1 := Lib.hid hz1
    have HZ2 := Lib.hid hz2
    clear hi hz0 hz1 hz2
    go_enter Tryd.func13, Tryd.ntmps13
    go_wp2_with fail
    refine (HIM.out _ (HT.out.keeps HK0.out)).mono ?_
    rintro e w1 ⟨rfl, hk⟩
    have HB1 := Lib.hid (HB0.out.keeps hk (fun h => h))
    have HK1 := Lib.hid (HK0.out.trans hk)
    clear hk HB0 HK0
    have c0 := HB1.out.cell 0
    have c1 := HB1.out.cell 1
    have c2 := HB1.out.cell 2
    have c3 := HB1.out.cell 3
    have c4 := HB1.out.cell 4
    have c5 := HB1.out.cell 5
    have c6 := HB1.out.cell 6
    simp at c0 c1 c2 c3 c4 c5 c6
    go_wp2_with fail
    refine (fieldsOf_any s k f t m u v _).mono ?_
    rintro e w2 ⟨rfl, hk⟩
    have HK2 := Lib.hid (HK1.out.trans hk)
    clear hk HK1 HB1 c0 c1 c2 c3 c4 c5 c6
    have sz2 := HK2.out.size
    go_wp2_with fail
    go_loopw [3, 11] (fun x i wr => ∃ n : Nat, n ≤ 7 ∧ i = .int .i64 n ∧ wr.ownsRow w2.heap.size 9 1 x n (strs ((wdL s k f t m u v).take n)) ∧ Keeps noBlk w2 wr) (fun _ i _ => 7 - (intOf i).toNat)
    case atStart => exact ⟨0, by omega, rfl, World.ownsRow_nil _ _ _ _, Keeps.refl _ _⟩
    case round =>
      obtain ⟨n, hn, rfl, hown, hk⟩ := hrel
      have HO := Lib.hid hown
      have HK := Lib.hid hk
      have sz := hk.size
      clear hown hk
      obtain hn | hn | hn | hn | hn | hn | hn | hn : n = 0 ∨ n = 1 ∨ n = 2 ∨ n = 3 ∨ n = 4 ∨ n = 5 ∨ n = 6 ∨ n = 7 := by omega
      · subst hn
        go_wp2_with (first
          | (go_at_call 26; refine (idg_any s (by omega) (by omega) _).mono ?_; rintro e w' ⟨rfl, rfl⟩)
          | (at_builtin; refine wpList_append_own _ rfl _ _ 41 rfl w2.heap.size 9 i0 (.string ⟨#[]⟩) 1 16 Tryd.underlying41 HI.out HZ0.out HZ1.out HZ2.out rfl (by decide) _ _ _ rfl (HO.out.alloc _) ⟨wr.heap.size, 0, none⟩ 1 1 [.string ⟨(dg s).toArray⟩] rfl rfl ?a0 ?b0 ?c0 ?d0 ?e0 ?_))
        case a0 =>
          intro j y hj
          match j, hj with
          | 0, hj => simp at hj; subst hj; simp [Addr.add]
        case b0 => intro y hy; simp at hy; subst hy; rfl
        case c0 => unfold maxLen; omega
        case d0 => omega
        case e0 => simp; omega
        intro v1 w3 hown' hgrow _
        have HO3 := Lib.hid hown'
        have HK3 := Lib.hid ((HK.out.alloc _).then (Keeps.of_grown hgrow) (fun j hj hT => by have := (HO.out.lt j hT).1; omega))
        clear hown' hgrow
        go_wp2
        exact ⟨⟨1, by omega, by go_num, HO3.out, HK3.out⟩, by simp [intOf]⟩
      · subst hn
        go_wp2_with (first
          | (go_at_call 26; refine (idg_any k (by omega) (by omega) _).mono ?_; rintro e w' ⟨rfl, rfl⟩)
          | (at_builtin; refine wpList_append_own _ rfl _ _ 41 rfl w2.heap.size 9 i0 (.string ⟨#[]⟩) 1 16 Tryd.underlying41 HI.out HZ0.out HZ1.out HZ2.out rfl (by decide) _ _ _ rfl (HO.out.alloc _) ⟨wr.heap.size, 0, none⟩ 1 1 [.string ⟨(dg k).toArray⟩] rfl rfl ?a1 ?b1 ?c1 ?d1 ?e1 ?_))
        case a1 =>
          intro j y hj
          match j, hj with
          | 0, hj => simp at hj; subst hj; simp [Addr.add]
        case b1 => intro y hy; simp at hy; subst hy; rfl
        case c1 => unfold maxLen; omega
        case d1 => omega
        case e1 => simp; omega
        intro v1 w3 hown' hgrow _
        have HO3 := Lib.hid hown'
        have HK3 := Lib.hid ((HK.out.alloc _).then (Keeps.of_grown hgrow) (fun j hj hT => by have := (HO.out.lt j hT).1; omega))
        clear hown' hgrow
        go_wp2
        exact ⟨⟨2, by omega, by go_num, HO3.out, HK3.out⟩, by simp [intOf]⟩
      · subst hn
        go_wp2_with (first
          | (go_at_call 26; refine (idg_any f (by omega) (by omega) _).mono ?_; rintro e w' ⟨rfl, rfl⟩)
          | (at_builtin; refine wpList_append_own _ rfl _ _ 41 rfl w2.heap.size 9 i0 (.string ⟨#[]⟩) 1 16 Tryd.underlying41 HI.out HZ0.out HZ1.out HZ2.out rfl (by decide) _ _ _ rfl (HO.out.alloc _) ⟨wr.heap.size, 0, none⟩ 1 1 [.string ⟨(dg f).toArray⟩] rfl rfl ?a2 ?b2 ?c2 ?d2 ?e2 ?_))
        case a2 =>
          intro j y hj
          match j, hj with
          | 0, hj => simp at hj; subst hj; simp [Addr.add]
        case b2 => intro y hy; simp at hy; subst hy; rfl
        case c2 => unfold maxLen; omega
        case d2 => omega
        case e2 => simp; omega
        intro v1 w3 hown' hgrow _
        have HO3 := Lib.hid hown'
        have HK3 := Lib.hid ((HK.out.alloc _).then (Keeps.of_grown hgrow) (fun j hj hT => by have := (HO.out.lt j hT).1; omega))
        clear hown' hgrow
        go_wp2
        exact ⟨⟨3, by omega, by go_num, HO3.out, HK3.out⟩, by simp [intOf]⟩
      · subst hn
        go_wp2_with (first
          | (go_at_call 26; refine (idg_any t (by omega) (by omega) _).mono ?_; rintro e w' ⟨rfl, rfl⟩)
          | (at_builtin; refine wpList_append_own _ rfl _ _ 41 rfl w2.heap.size 9 i0 (.string ⟨#[]⟩) 1 16 Tryd.underlying41 HI.out HZ0.out HZ1.out HZ2.out rfl (by decide) _ _ _ rfl (HO.out.alloc _) ⟨wr.heap.size, 0, none⟩ 1 1 [.string ⟨(dg t).toArray⟩] rfl rfl ?a3 ?b3 ?c3 ?d3 ?e3 ?_))
        case a3 =>
          intro j y hj
          match j, hj with
          | 0, hj => simp at hj; subst hj; simp [Addr.add]
        case b3 => intro y hy; simp at hy; subst hy; rfl
        case c3 => unfold maxLen; omega
        case d3 => omega
        case e3 => simp; omega
        intro v1 w3 hown' hgrow _
        have HO3 := Lib.hid hown'
        have HK3 := Lib.hid ((HK.out.alloc _).then (Keeps.of_grown hgrow) (fun j hj hT => by have := (HO.out.lt j hT).1; omega))
        clear hown' hgrow
        go_wp2
        exact ⟨⟨4, by omega, by go_num, HO3.out, HK3.out⟩, by simp [intOf]⟩
      · subst hn
        go_wp2_with (first
          | (go_at_call 26; refine (idg_any m (by omega) (by omega) _).mono ?_; rintro e w' ⟨rfl, rfl⟩)
          | (at_builtin; refine wpList_append_own _ rfl _ _ 41 rfl w2.heap.size 9 i0 (.string ⟨#[]⟩) 1 16 Tryd.underlying41 HI.out HZ0.out HZ1.out HZ2.out rfl (by decide) _ _ _ rfl (HO.out.alloc _) ⟨wr.heap.size, 0, none⟩ 1 1 [.string ⟨(dg m).toArray⟩] rfl rfl ?a4 ?b4 ?c4 ?d4 ?e4 ?_))
        case a4 =>
          intro j y hj
          match j, hj with
          | 0, hj => simp at hj; subst hj; simp [Addr.add]
        case b4 => intro y hy; simp at hy; subst hy; rfl
        case c4 => unfold maxLen; omega
        case d4 => omega
        case e4 => simp; omega
        intro v1 w3 hown' hgrow _
        have HO3 := Lib.hid hown'
        have HK3 := Lib.hid ((HK.out.alloc _).then (Keeps.of_grown hgrow) (fun j hj hT => by have := (HO.out.lt j hT).1; omega))
        clear hown' hgrow
        go_wp2
        exact ⟨⟨5, by omega, by go_num, HO3.out, HK3.out⟩, by simp [intOf]⟩
      · subst hn
        go_wp2_with (first
          | (go_at_call 26; refine (idg_any u (by omega) (by omega) _).mono ?_; rintro e w' ⟨rfl, rfl⟩)
          | (at_builtin; refine wpList_append_own _ rfl _ _ 41 rfl w2.heap.size 9 i0 (.string ⟨#[]⟩) 1 16 Tryd.underlying41 HI.out HZ0.out HZ1.out HZ2.out rfl (by decide) _ _ _ rfl (HO.out.alloc _) ⟨wr.heap.size, 0, none⟩ 1 1 [.string ⟨(dg u).toArray⟩] rfl rfl ?a5 ?b5 ?c5 ?d5 ?e5 ?_))
        case a5 =>
          intro j y hj
          match j, hj with
          | 0, hj => simp at hj; subst hj; simp [Addr.add]
        case b5 => intro y hy; simp at hy; subst hy; rfl
        case c5 => unfold maxLen; omega
        case d5 => omega
        case e5 => simp; omega
        intro v1 w3 hown' hgrow _
        have HO3 := Lib.hid hown'
        have HK3 := Lib.hid ((HK.out.alloc _).then (Keeps.of_grown hgrow) (fun j hj hT => by have := (HO.out.lt j hT).1; omega))
        clear hown' hgrow
        go_wp2
        exact ⟨⟨6, by omega, by go_num, HO3.out, HK3.out⟩, by simp [intOf]⟩
      · subst hn
        go_wp2_with (first
          | (go_at_call 26; refine (idg_any v (by omega) (by omega) _).mono ?_; rintro e w' ⟨rfl, rfl⟩)
          | (at_builtin; refine wpList_append_own _ rfl _ _ 41 rfl w2.heap.size 9 i0 (.string ⟨#[]⟩) 1 16 Tryd.underlying41 HI.out HZ0.out HZ1.out HZ2.out rfl (by decide) _ _ _ rfl (HO.out.alloc _) ⟨wr.heap.size, 0, none⟩ 1 1 [.string ⟨(dg v).toArray⟩] rfl rfl ?a6 ?b6 ?c6 ?d6 ?e6 ?_))
        case a6 =>
          intro j y hj
          match j, hj with
          | 0, hj => simp at hj; subst hj; simp [Addr.add]
        case b6 => intro y hy; simp at hy; subst hy; rfl
        case c6 => unfold maxLen; omega
        case d6 => omega
        case e6 => simp; omega
        intro v1 w3 hown' hgrow _
        have HO3 := Lib.hid hown'
        have HK3 := Lib.hid ((HK.out.alloc _).then (Keeps.of_grown hgrow) (fun j hj hT => by have := (HO.out.lt j hT).1; omega))
        clear hown' hgrow
        go_wp2
        exact ⟨⟨7, by omega, by go_num, HO3.out, HK3.out⟩, by simp [intOf]⟩
      · subst hn
        obtain ⟨g, cap, rfl, hg0, hg1⟩ := HO.out.form (by omega)
        have hJ := join_any s k f t m u v g cap wr HO.out hg1 HL.out
        have HJ := Lib.hid hJ
        clear hJ
        go_wp2_with fail
        refine HJ.out.mono ?_
        rintro e w3 ⟨rfl, hk3⟩
        have HK3 := Lib.hid ((HK2.out.trans HK.out).trans hk3)
        clear hk3
        go_wp2
        go_ret
        exact ⟨by simp [HF.out], HK3.out⟩
  · have HIM := Lib.hid (fun W hW => (show Calls Tryd.prog 16 #[.agg #[.int .i64 s, .int .i64 k, .int .i64 f, .int .i64 t, .int .i64 m, .int .i64 u, .int .i64 v]] W (fun e w' => e = .returned (.bool false) ∧ Keeps noBlk W w') from by rw [← ho]; exact implPk_any s k f t m u v W hW))
    have HF := Lib.hid (show pkT s k f t m u v = [] from if_neg (by rw [ho]; simp))
    clear ho
    go_enter Tryd.func13, Tryd.ntmps13
    go_wp2_with fail
    refine (HIM.out _ (HT.out.keeps HK0.out)).mono ?_
    rintro e w1 ⟨rfl, hk⟩
    have HK1 := Lib.hid (HK0.out.trans hk)
    clear hk
    go_wp2
    go_ret
    exact ⟨by simp [HF.out], HK1.out⟩
end Go.Proofs.YtjbllfnfnkghgaaDoor
