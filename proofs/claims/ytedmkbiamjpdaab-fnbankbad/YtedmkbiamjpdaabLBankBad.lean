/- FnBankBad: a bank with a coin too many, or with a negative amount, is none, whatever is drawn. -/
import Derived.Test.YtedmkbiamjpdaabRows
import Derived.Deep.RegionHeld3
import Derived.Deep.DrawnRows
import Derived.Test.YtedmkbiamjpdaabBOk
import Derived.Test.YtedmkbiamjpdaabMv
import Derived.Test.YtedmkbiamjpdaabDOk
import Derived.Test.YtedmkbiamjpdaabFrameB
import Derived.Test.YtedmkbiamjpdaabGh
set_option linter.unusedVariables false
set_option linter.unusedSimpArgs false
namespace Go.Proofs.Ytedmkbiamjpdaab
open Go.RowKit Go.ChangeShapes Go.WideShapes Go.ChangeAt

theorem three {xs : List Int} (h : xs.length = 3) : ∃ a b c, xs = [a, b, c] := by
  match xs, h with
  | [a, b, c], _ => exact ⟨a, b, c, rfl⟩
theorem sum_set (xs : List Int) (k : Nat) (h : k < xs.length) : sumL (xs.set k (xs.getD k 0 + 1)) = sumL xs + 1 := by
  induction xs generalizing k with
  | nil => simp at h
  | cons a l ih =>
    cases k with
    | zero => simp only [List.set_cons_zero, List.getD_cons_zero, sumL]; omega
    | succ k =>
      have := ih k (by simpa using h)
      simp only [List.set_cons_succ, List.getD_cons_succ, sumL]
      omega
theorem bad_own {xs ys : List Int} {L : Int} {k : Nat} (h : okB ⟨xs, ys, L⟩ = true) (hk : k < 3) : okB ⟨xs.set k (xs.getD k 0 + 1), ys, L⟩ = false := by
  have hl : xs.length = 3 := lst_len h 1
  rw [Bool.eq_false_iff]
  intro h2
  have e1 := (okB_parts h).2.2.2.1
  have e2 := (okB_parts h2).2.2.2.1
  dsimp only at e1 e2
  rw [sum_set xs k (by omega)] at e2
  omega
theorem bad_locked {xs ys : List Int} {L : Int} (h : okB ⟨xs, ys, L⟩ = true) : okB ⟨xs, ys, L + 1⟩ = false := by
  rw [Bool.eq_false_iff]
  intro h2
  have e1 := (okB_parts h).2.2.2.1
  have e2 := (okB_parts h2).2.2.2.1
  dsimp only at e1 e2
  omega
theorem bad_notes {xs ys : List Int} {L : Int} {k : Nat} (h : okB ⟨xs, ys, L⟩ = true) (hk : k < 3) : okB ⟨xs, ys.set k (-1), L⟩ = false := by
  have hl := lst_len h 2
  have hl : ys.length = 3 := hl
  obtain ⟨a, b, c, rfl⟩ := three hl
  match k, hk with
  | 0, _ => simp [okB, partsB, inB]
  | 1, _ => simp [okB, partsB, inB]
  | 2, _ => simp [okB, partsB, inB]
theorem info_int5 : (Try.prog.info? 3).map (fun i => (i.zero, i.size, i.bytes)) = some (some (.int .i64 0), 1, 8) := by kernel_rfl
theorem row_of_new {w : World} {lo n c : Nat} {A : Option Addr} {xs : List Int} (h : w.ownsRow 0 3 1 (.slice A n c) n (vIs xs)) (hn : xs.length = n) (hlo : ∀ g, (Value.slice A n c).ownBlock = some g → lo ≤ g) : Row w lo A n xs := by
  subst hn
  obtain ⟨_, h1, h2⟩ := owns_cells h
  refine ⟨owns_ints h, fun hn => ?_⟩
  cases A with
  | none => have := (h1 rfl).1; omega
  | some a =>
    obtain ⟨g, rfl, _, _, hf⟩ := h2 a rfl
    exact ⟨g, 0, rfl, hlo g rfl, fun j _ => hf j⟩

set_option maxHeartbeats 4000000 in
theorem walk_bankBad (w : World) (a0 : Option Addr) (len0 cap0 : Nat) (z0 : List Int) (h : Bytes w a0 len0 z0) (e0 : len0 ≤ cap0) (f0 : cap0 ≤ maxLen) (a1 : Option Addr) (len1 cap1 : Nat) (_e1 : len1 ≤ cap1) (_f1 : cap1 ≤ maxLen) :
    Calls Try.prog 4 #[.slice a0 len0 cap0, .slice a1 len1 cap1] w fun e w' => e = .returned (.bool true) ∧ Below w.heap.size w w' := by
  have H := Lib.hid h
  clear h
  by_cases hs : (len0 : Int) ≤ 1048576
  · by_cases hs1 : (len1 : Int) ≤ 1048576
    · go_enter Try.func4, Try.ntmps4
      go_wp2_with fail
      refine (drawOk_any a0 len0 _ z0 _ H.out e0 f0).mono ?_
      rintro e w1 ⟨v, ⟨xs, ys, L⟩, rfl, ⟨⟨A1, n1, c1, A2, n2, c2, rfl, hA1, hA2, hAd, k1, k2, m1, m2⟩, hk1, hL1, hL2, ho, hn⟩⟩
      dsimp only at hA1 hA2 hL1 hL2 ho hn ⊢
      obtain rfl : xs.length = n1 := hA1.1.1
      obtain rfl : ys.length = n2 := hA2.1.1
      have hLm : L ≤ 9223372036854775807 := by omega
      have jA1 : xs.length ≤ maxLen := Nat.le_trans k1 m1
      have jA2 : ys.length ≤ maxLen := Nat.le_trans k2 m2
      have noS : ∀ {A : Option Addr} {n : Nat} (b : Nat), blk A n b → ¬ noBlk b := fun _ _ h => h
      have LA1 := Lib.hid (fun i (hi : blk A1 xs.length i) => hA1.lt hi)
      have LA2 := Lib.hid (fun i (hi : blk A2 ys.length i) => hA2.lt hi)
      have HBK := Lib.hid (Box.new w1 _ rfl 25 #[.slice A1 xs.length c1, .slice A2 ys.length c2, .int .i64 L])
      have HA1 := Lib.hid (hA1.alloc (.cells #[.slice A1 xs.length c1, .slice A2 ys.length c2, .int .i64 L] 25))
      have HA2 := Lib.hid (hA2.alloc (.cells #[.slice A1 xs.length c1, .slice A2 ys.length c2, .int .i64 L] 25))
      have HK1 := Lib.hid (hk1.alloc (.cells #[.slice A1 xs.length c1, .slice A2 ys.length c2, .int .i64 L] 25))
      have s1 := hk1.size
      clear hAd hA1 hA2 hk1 k1 k2 m1 m2 H ho
      have HN := Lib.hid hn
      clear hn
      have HIO := Lib.hid (fun (B1 B2 : Option Addr) (d1 d2 : Nat) (W : World) (i1 : Ints W B1 xs.length xs) (i2 : Ints W B2 ys.length ys) => implOk_any B1 B2 xs.length ys.length d1 d2 L xs ys W i1 i2 jA1 jA2)
      have HSO := Lib.hid (fun (B1 B2 : Option Addr) (d1 d2 : Nat) (W : World) (i1 : Ints W B1 xs.length xs) (i2 : Ints W B2 ys.length ys) => specOk_any B1 B2 xs.length ys.length d1 d2 L xs ys W i1 i2 jA1 jA2 hLm)
      obtain ⟨o, hob⟩ : ∃ o, okB ⟨xs, ys, L⟩ = o := ⟨_, rfl⟩
      rw [hob] at HIO HSO
      have HOB := Lib.hid hob
      clear hob
      go_wp2_with fail
      refine (HIO.out A1 A2 _ _ _ HA1.out.ints HA2.out.ints).mono ?_
      rintro e w2 ⟨rfl, hk2⟩
      have hb := HBK.out.keeps hk2 fun h => h
      have b0 := hb.cell 0
      have b1 := hb.cell 1
      have b2 := hb.cell 2
      simp at b0 b1 b2
      have HB2 := Lib.hid hb
      have HK2 := Lib.hid (HK1.out.trans hk2)
      have HA12 := Lib.hid (HA1.out.keeps hk2 noS)
      have HA22 := Lib.hid (HA2.out.keeps hk2 noS)
      clear hb hk2
      go_wp2_with fail
      refine (HSO.out A1 A2 _ _ _ HA12.out.ints HA22.out.ints).mono ?_
      rintro e w3 ⟨rfl, hk3⟩
      have hb := HB2.out.keeps hk3 fun h => h
      clear b0 b1 b2
      have b0 := hb.cell 0
      have b1 := hb.cell 1
      have b2 := hb.cell 2
      simp at b0 b1 b2
      have bz := hb.lt
      have HB3 := Lib.hid hb
      have HK3 := Lib.hid (HK2.out.trans hk3)
      have HA13 := Lib.hid (HA12.out.keeps hk3 noS)
      have HA23 := Lib.hid (HA22.out.keeps hk3 noS)
      clear hb hk3
      cases o with
      | false =>
        go_wp2_with fail
        refine (HSO.out A1 A2 _ _ _ HA13.out.ints HA23.out.ints).mono ?_
        rintro e w4 ⟨rfl, hk4⟩
        have HK4 := Lib.hid (HK3.out.trans hk4)
        clear hk4
        go_wp2
        go_ret
        exact ⟨rfl, HK4.out.below⟩
      | true =>
        have hlx : xs.length = 3 := lst_len HOB.out 1
        have hly : ys.length = 3 := lst_len HOB.out 2
        obtain ⟨k, hk⟩ : ∃ k : Nat, len1 % 3 = k := ⟨_, rfl⟩
        have hk3 : k < 3 := by omega
        have hkI : (len1 : Int) % 3 = (k : Int) := by omega
        have Q1 := Lib.hid (bad_own HOB.out hk3)
        have Q2 := Lib.hid (bad_locked HOB.out)
        have Q3 := Lib.hid (bad_notes HOB.out hk3)
        have HLX := Lib.hid hlx
        have HLY := Lib.hid hly
        have HKX := Lib.hid (show k < xs.length by omega)
        have HKY := Lib.hid (show k < ys.length by omega)
        have hx0 : xs.getD k 0 ≤ 30 ∧ 0 ≤ xs.getD k 0 := by have := has_bounds HOB.out 1 ((k : Int) + 1); rw [has1] at this; omega
        clear hk hlx hly
        have HX3 := Lib.hid (Box.new w3 _ rfl 25 #[.slice A1 xs.length c1, .slice A2 ys.length c2, .int .i64 L])
        have HB3a := Lib.hid (HB3.out.alloc (.cells #[.slice A1 xs.length c1, .slice A2 ys.length c2, .int .i64 L] 25))
        have HA13a := Lib.hid (HA13.out.alloc (.cells #[.slice A1 xs.length c1, .slice A2 ys.length c2, .int .i64 L] 25))
        have HA23a := Lib.hid (HA23.out.alloc (.cells #[.slice A1 xs.length c1, .slice A2 ys.length c2, .int .i64 L] 25))
        have HK3a := Lib.hid (HK3.out.alloc (.cells #[.slice A1 xs.length c1, .slice A2 ys.length c2, .int .i64 L] 25))
        have s3 := HB3.out.lt
        have s3a : w3.heap.size < (w3.alloc (.cells #[.slice A1 xs.length c1, .slice A2 ys.length c2, .int .i64 L] 25)).heap.size := by simp
        go_wp2_with (at_builtin; refine wpList_copy _ rfl _ _ 23 rfl 3 (.int .i64 0) 1 8 Try.underlying23 info_int5 rfl (by decide) _ (by simp) rfl A1 xs.length c1 (vIs xs) rfl ?qa ?qb ?qc ?qd ?qe ?qf ?_)
        case qa =>
          intro hA
          obtain ⟨b, off, e, _⟩ := HA13.out.1.2 (by have := HLX.out; omega)
          rw [hA] at e
          cases e
        case qb => first | exact vIs_length _ | (rw [vIs_length]; omega)
        case qc => exact ints_news HA13a.out.ints
        case qd => exact one_ints
        case qe => exact jA1
        case qf => have := HLX.out; omega
        intro X1 x1 w4 hx4 hk4 hf4
        have hx := HX3.out.keeps hk4 fun h => h
        have hb := HB3a.out.keeps hk4 fun h => h
        have x0 := hx.cell 0
        have x1' := hx.cell 1
        have x2' := hx.cell 2
        have xf := hx.frozen 0
        simp at x0 x1' x2'
        have hR4 := row_of_new hx4 rfl (lo := w3.heap.size + 1) (fun g hg => by have := hf4 g hg; (try simp at this); omega)
        have s4 : w3.heap.size < w4.heap.size := hx.lt
        have s4b : w1.heap.size < w4.heap.size := hb.lt
        obtain ⟨W5, hW5⟩ : ∃ W, w4.setCell ⟨w3.heap.size, 0, none⟩ (.slice X1 xs.length x1) = W := ⟨_, rfl⟩
        have hS5 : Keeps (one w3.heap.size) w4 W5 := by rw [← hW5]; exact (Keeps.refl _ w4).set1 0 _
        have hx5 : Box W5 w3.heap.size 25 #[.slice X1 xs.length x1, .slice A2 ys.length c2, .int .i64 L] := by
          rw [← hW5]
          have := hx.set_ 0 (.slice X1 xs.length x1)
          simpa using this
        have hb5 := hb.keeps hS5 fun h => by have h' : w1.heap.size = w3.heap.size := h; omega
        have hA15 := (HA13a.out.keeps hk4 noS).keeps hS5 fun i hi h => by have h' : i = w3.heap.size := h; have := LA1.out i hi; omega
        have hA25 := (HA23a.out.keeps hk4 noS).keeps hS5 fun i hi h => by have h' : i = w3.heap.size := h; have := LA2.out i hi; omega
        have hR5 := hR4.keeps hS5 fun i hi h => by have h' : i = w3.heap.size := h; have := hR4.ge hi; omega
        have hK5 := (HK3a.out.trans hk4).then hS5 fun i hi h => by have h' : i = w3.heap.size := h; omega
        have HX5 := Lib.hid hx5
        have HB5 := Lib.hid hb5
        have HA15 := Lib.hid hA15
        have HA25 := Lib.hid hA25
        have HR5 := Lib.hid hR5
        have HK5 := Lib.hid hK5
        have HW5 := Lib.hid hW5
        have LR := Lib.hid (fun i (hi : blk X1 xs.length i) => hR4.ge hi)
        clear hx hb hx4 hk4 hf4 hR4 hS5 hx5 hb5 hA15 hA25 hR5 hK5
        go_wp2_with fail
        (try rw [hW5])
        clear hW5 x0 x1' x2' xf b0 b1 b2
        have hx := HX5.out
        have hb := HB5.out
        have x0 := hx.cell 0
        have b0 := hb.cell 0
        simp at x0 b0
        obtain ⟨a1', p1, rfl, _, hl1, hc1, _⟩ := HA15.out.at_ HKX.out
        obtain ⟨r1, q1, rfl, hg1, hl2, hc2, hf2⟩ := HR5.out.at_ HKX.out
        have z1 := hx.lt
        have z2 := hb.lt
        have ne1 : a1' < w1.heap.size := LA1.out a1' ⟨by have := HLX.out; omega, _, rfl, rfl⟩
        have ne2 : w3.heap.size + 1 ≤ r1 := LR.out r1 ⟨by have := HLX.out; omega, _, rfl, rfl⟩
        have hkx := HKX.out
        clear hx hb
        generalize hv : xs.getD k 0 = vv at hc1 hc2 hx0
        have HV := Lib.hid hv
        clear hv
        go_region_held3 (fun w' => w'.cell? ⟨w3.heap.size, 0, none⟩ = some (.slice (some ⟨r1, q1, none⟩) xs.length x1) ∧ w'.cell? ⟨w1.heap.size, 0, none⟩ = some (.slice (some ⟨a1', p1, none⟩) xs.length c1) ∧ w'.cell? ⟨a1', p1 + k, none⟩ = some (.int .i64 vv))
          (((try dsimp only); (repeat' apply And.intro) <;> (first | with_reducible assumption | exact (World.cell?_setCell_other W5 _ _ _ (by intro e; injection e with e _; omega)).trans x0 | exact (World.cell?_setCell_other W5 _ _ _ (by intro e; injection e with e _; omega)).trans b0 | exact (World.cell?_setCell_other W5 _ _ _ (by intro e; injection e with e _; omega)).trans hc1 | (go_keep; done))))
          (fail)
        have hwr : IntKind.i64.wrap (vv + 1) = vv + 1 := IntWalk.i64_in _ (by omega)
        rw [hwr]
        have hS6 : Keeps (one r1) W5 (W5.setCell ⟨r1, q1 + k, none⟩ (.int .i64 (vv + 1))).drew := ((Keeps.refl _ W5).set1 (q1 + k) _).drew
        have hx6 := HX5.out.keeps hS6 fun h => by have h' : w3.heap.size = r1 := h; omega
        have hb6 := HB5.out.keeps hS6 fun h => by have h' : w1.heap.size = r1 := h; omega
        have hA16 := HA15.out.keeps hS6 fun i hi h => by have h' : i = r1 := h; have := LA1.out i hi; omega
        have hA26 := HA25.out.keeps hS6 fun i hi h => by have h' : i = r1 := h; have := LA2.out i hi; omega
        have hR6 : Row (W5.setCell ⟨r1, q1 + k, none⟩ (.int .i64 (vv + 1))).drew (w3.heap.size + 1) (some ⟨r1, q1, none⟩) xs.length (xs.set k (vv + 1)) := (HR5.out.set_ hkx (vv + 1)).drew
        have hK6 := HK5.out.then hS6 fun i hi h => by have h' : i = r1 := h; omega
        have HX6 := Lib.hid hx6
        have HB6 := Lib.hid hb6
        have HA16 := Lib.hid hA16
        have HA26 := Lib.hid hA26
        have HR6 := Lib.hid hR6
        have HK6 := Lib.hid hK6
        clear hS6 hx6 hb6 hA16 hA26 hR6 hK6 hc1 hc2 hf2 x0 b0 z1 z2 HX5 HB5 HA15 HA25 HR5 HK5 hwr
        have HW5' := Lib.hid HW5
        clear HW5 HW5'
        generalize (W5.setCell ⟨r1, q1 + k, none⟩ (.int .i64 (vv + 1))).drew = w6 at HX6 HB6 HA16 HA26 HR6 HK6 ⊢
        have hb := HB6.out
        have b0 := hb.cell 0
        have b1 := hb.cell 1
        have b2 := hb.cell 2
        simp at b0 b1 b2
        have z2 := hb.lt
        have z1 := HX6.out.lt
        have z3 : w1.heap.size < w6.heap.size + 1 := by omega
        have z4 : w1.heap.size < w6.heap.size + 1 + 1 := by omega
        clear hb
        have hL1' : L + 1 ≤ 9223372036854775807 := by omega
        have HY6 := Lib.hid ((Box.new w6 _ rfl 25 #[.slice (some ⟨a1', p1, none⟩) xs.length c1, .slice A2 ys.length c2, .int .i64 (L + 1)]).alloc (.cells #[.slice (some ⟨a1', p1, none⟩) xs.length c1, .slice A2 ys.length c2, .int .i64 L] 25))
        have HZ6 := Lib.hid (Box.new (w6.alloc (.cells #[.slice (some ⟨a1', p1, none⟩) xs.length c1, .slice A2 ys.length c2, .int .i64 (L + 1)] 25)) (w6.heap.size + 1) (by simp) 25 #[.slice (some ⟨a1', p1, none⟩) xs.length c1, .slice A2 ys.length c2, .int .i64 L])
        have HK6a := Lib.hid (((Keeps.refl noBlk w6).alloc (.cells #[.slice (some ⟨a1', p1, none⟩) xs.length c1, .slice A2 ys.length c2, .int .i64 (L + 1)] 25)).alloc (.cells #[.slice (some ⟨a1', p1, none⟩) xs.length c1, .slice A2 ys.length c2, .int .i64 L] 25))
        have s6a : w6.heap.size + 2 ≤ ((w6.alloc (.cells #[.slice (some ⟨a1', p1, none⟩) xs.length c1, .slice A2 ys.length c2, .int .i64 (L + 1)] 25)).alloc (.cells #[.slice (some ⟨a1', p1, none⟩) xs.length c1, .slice A2 ys.length c2, .int .i64 L] 25)).heap.size := by simp
        go_wp2_with (at_builtin; refine wpList_copy _ rfl _ _ 23 rfl 3 (.int .i64 0) 1 8 Try.underlying23 info_int5 rfl (by decide) _ (by simp) rfl A2 ys.length c2 (vIs ys) rfl ?qa ?qb ?qc ?qd ?qe ?qf ?_)
        case qa =>
          intro hA
          obtain ⟨b, off, e, _⟩ := HA26.out.1.2 (by have := HLY.out; omega)
          rw [hA] at e
          cases e
        case qb => first | exact vIs_length _ | (rw [vIs_length]; omega)
        case qc => exact ints_news (HA26.out.keeps HK6a.out noS).ints
        case qd => exact one_ints
        case qe => exact jA2
        case qf => have := HLY.out; omega
        intro Z1 zc w7 hz7 hk7 hf7
        have hk7' := HK6a.out.trans hk7
        have hx7 := HX6.out.keeps hk7' fun h => h
        have hy7 := HY6.out.keeps hk7 fun h => h
        have hzz7 := HZ6.out.keeps hk7 fun h => h
        have hA17 := HA16.out.keeps hk7' noS
        have hA27 := HA26.out.keeps hk7' noS
        have hR7 := HR6.out.keeps hk7' noS
        have hK7 := HK6.out.trans hk7'
        have hZ7 := row_of_new hz7 rfl (lo := w6.heap.size + 2) (fun g hg => by have := hf7 g hg; (try simp at this); omega)
        obtain ⟨zb, zo, rfl, hzg, hzl, hzc, hzf⟩ := hZ7.at_ HKY.out
        have zz0 := hzz7.cell 0
        have zz1 := hzz7.cell 1
        have zz2 := hzz7.cell 2
        have zzf := hzz7.frozen 1
        simp at zz0 zz1 zz2
        have hky := HKY.out
        obtain ⟨W8, hW8⟩ : ∃ W, (w7.setCell ⟨w6.heap.size + 1, 1, none⟩ (.slice (some ⟨zb, zo, none⟩) ys.length zc)).setCell ⟨zb, zo + k, none⟩ (.int .i64 (-1)) = W := ⟨_, rfl⟩
        have hS8 : Keeps (two (w6.heap.size + 1) zb) w7 W8 := by rw [← hW8]; exact ((Keeps.refl _ w7).setA 1 _).setB _ _
        have hzb8 : Box W8 (w6.heap.size + 1) 25 #[.slice (some ⟨a1', p1, none⟩) xs.length c1, .slice (some ⟨zb, zo, none⟩) ys.length zc, .int .i64 L] := by
          rw [← hW8]
          have := (hzz7.set_ 1 (.slice (some ⟨zb, zo, none⟩) ys.length zc)).far (p := ⟨zb, zo + k, none⟩) (by dsimp only; omega) (.int .i64 (-1))
          simpa using this
        have hZ8 : Row W8 (w6.heap.size + 2) (some ⟨zb, zo, none⟩) ys.length (ys.set k (-1)) := by
          rw [← hW8]
          exact (hZ7.far (p := ⟨w6.heap.size + 1, 1, none⟩) (fun h => by have := hZ7.ge h; dsimp only at this; omega) _).set_ hky (-1)
        have s7 : w6.heap.size + 1 < w7.heap.size := hzz7.lt
        have hx8 := hx7.keeps hS8 fun h => by rcases h with h | h <;> omega
        have hy8 := hy7.keeps hS8 fun h => by rcases h with h | h <;> omega
        have hA18 := hA17.keeps hS8 fun i hi h => by have := LA1.out i hi; rcases h with h | h <;> omega
        have hA28 := hA27.keeps hS8 fun i hi h => by have := LA2.out i hi; rcases h with h | h <;> omega
        have hR8 := hR7.keeps hS8 fun i hi h => by have := HR6.out.lt hi; rcases h with h | h <;> omega
        have hK8 := hK7.then hS8 fun i hi h => by rcases h with h | h <;> omega
        have HX8 := Lib.hid hx8
        have HY8 := Lib.hid hy8
        have HZB8 := Lib.hid hzb8
        have HA18 := Lib.hid hA18
        have HA28 := Lib.hid hA28
        have HR8 := Lib.hid hR8
        have HZ8 := Lib.hid hZ8
        have HK8 := Lib.hid hK8
        have x0 := hx8.cell 0
        have x1' := hx8.cell 1
        have x2' := hx8.cell 2
        simp at x0 x1' x2'
        have s7x : w3.heap.size < w7.heap.size := hx7.lt
        clear hz7 hk7 hf7 hk7' hx7 hy7 hzz7 hA17 hA27 hR7 hK7 hZ7 hS8 hzb8 hZ8 hx8 hy8 hA18 hA28 hR8 hK8 HX6 HB6 HY6 HZ6 b0 b1 b2 z1 z2
        have HIX := Lib.hid (fun (B1 B2 : Option Addr) (d1 d2 : Nat) (W : World) (i1 : Ints W B1 xs.length (xs.set k (vv + 1))) (i2 : Ints W B2 ys.length ys) => (show Calls Try.prog 11 #[.agg #[.slice B1 xs.length d1, .slice B2 ys.length d2, .int .i64 L]] W (fun e w' => e = .returned (.bool false) ∧ Keeps noBlk W w') from by have h9 := implOk_any B1 B2 xs.length ys.length d1 d2 L (xs.set k (vv + 1)) ys W i1 i2 jA1 jA2; rw [← HV.out, Q1.out] at h9; exact h9))
        have HIY := Lib.hid (fun (B1 B2 : Option Addr) (d1 d2 : Nat) (W : World) (i1 : Ints W B1 xs.length xs) (i2 : Ints W B2 ys.length ys) => (show Calls Try.prog 11 #[.agg #[.slice B1 xs.length d1, .slice B2 ys.length d2, .int .i64 (L + 1)]] W (fun e w' => e = .returned (.bool false) ∧ Keeps noBlk W w') from by have h9 := implOk_any B1 B2 xs.length ys.length d1 d2 (L + 1) xs ys W i1 i2 jA1 jA2; rw [Q2.out] at h9; exact h9))
        have HIZ := Lib.hid (fun (B1 B2 : Option Addr) (d1 d2 : Nat) (W : World) (i1 : Ints W B1 xs.length xs) (i2 : Ints W B2 ys.length (ys.set k (-1))) => (show Calls Try.prog 11 #[.agg #[.slice B1 xs.length d1, .slice B2 ys.length d2, .int .i64 L]] W (fun e w' => e = .returned (.bool false) ∧ Keeps noBlk W w') from by have h9 := implOk_any B1 B2 xs.length ys.length d1 d2 L xs (ys.set k (-1)) W i1 i2 jA1 jA2; rw [Q3.out] at h9; exact h9))
        go_wp2_with fail
        refine (HIX.out (some ⟨r1, q1, none⟩) A2 _ _ _ HR8.out.ints HA28.out.ints).mono ?_
        rintro e w9 ⟨rfl, hk9⟩
        have HY9 := Lib.hid (HY8.out.keeps hk9 fun h => h)
        have HZB9 := Lib.hid (HZB8.out.keeps hk9 fun h => h)
        have HA19 := Lib.hid (HA18.out.keeps hk9 noS)
        have HA29 := Lib.hid (HA28.out.keeps hk9 noS)
        have HZ9 := Lib.hid (HZ8.out.keeps hk9 noS)
        have HK9 := Lib.hid (HK8.out.trans hk9)
        clear hk9 hW8 x0 x1' x2'
        have y0 := HY9.out.cell 0
        have y1 := HY9.out.cell 1
        have y2 := HY9.out.cell 2
        simp at y0 y1 y2
        go_wp2_with fail
        refine (HIY.out (some ⟨a1', p1, none⟩) A2 _ _ _ HA19.out.ints HA29.out.ints).mono ?_
        rintro e w10 ⟨rfl, hk10⟩
        have HZB10 := Lib.hid (HZB9.out.keeps hk10 fun h => h)
        have HA110 := Lib.hid (HA19.out.keeps hk10 noS)
        have HZ10 := Lib.hid (HZ9.out.keeps hk10 noS)
        have HK10 := Lib.hid (HK9.out.trans hk10)
        clear hk10 y0 y1 y2
        have z0 := HZB10.out.cell 0
        have z1 := HZB10.out.cell 1
        have z2 := HZB10.out.cell 2
        simp at z0 z1 z2
        go_wp2_with fail
        refine (HIZ.out (some ⟨a1', p1, none⟩) (some ⟨zb, zo, none⟩) _ _ _ HA110.out.ints HZ10.out.ints).mono ?_
        rintro e w11 ⟨rfl, hk11⟩
        have HK11 := Lib.hid (HK10.out.trans hk11)
        clear hk11
        go_wp2
        go_ret
        exact ⟨rfl, HK11.out.below⟩
    · go_enter Try.func4, Try.ntmps4
      go_wp2
      go_ret
      exact ⟨rfl, Below.refl _ _⟩
  · go_enter Try.func4, Try.ntmps4
    go_wp2
    go_ret
    exact ⟨rfl, Below.refl _ _⟩

namespace bankBad
set_option maxRecDepth 100000 in
theorem lifted (os : Os) (started : os.Started) (H : Type) (enc : TypeId × Value → H) :
    ReturnsInHanded {} Try.checked os 4 .any (Rows.fnBankBadSpec.pre6 enc Try.prog Try.f4 Rows.fnBankBadRow.domain false) (Rows.fnBankBadSpec.post enc Try.prog Try.f4 false true false false) := by
  refine returnsInHanded_of_change (C := Try.checked) own started (by kernel_rfl) Try.func4
    (ChangeSpec.witness6 (enc := enc) (C := Try.checked) false ⟨#[], #[.slice none 0 0, .slice none 0 0], []⟩ 8 (by kernel_rfl) (by kernel_rfl) (by kernel_rfl) (by kernel_rfl)) ?_
  intro W base args ds gs before hval0 hW hcnd _
  have hval : ∀ (j : Nat) t v, Try.f4.params[j]? = some t → args[j]? = some v → Value.okWide Try.prog W .any base t v := hval0
  have hW' := hW
  obtain ⟨p, q, hA0, hV, rfl, hfz, hnd⟩ := hW
  have hA : DataW.TrodAll enc Try.prog W 0 (fun _ => true) true Try.f4.params.toList args.toList ds p := hA0
  rw [Try.params4 ] at hA hval
  obtain ⟨v0, vs0, d0, ds0, p0, q0, hargs, rfl, rfl, h0, r0⟩ := trodAll_cons hA
  obtain ⟨v1, vs1, d1, ds1, p1, q1, rfl, rfl, rfl, h1, r1⟩ := trodAll_cons r0
  obtain ⟨rfl, rfl, rfl⟩ := trodAll_nil r1
  obtain rfl : args = #[v0, v1] := by cases args; simp_all
  obtain ⟨rfl, rfl⟩ := trodVars_none hV
  obtain ⟨a0, len0, cap0, rfl⟩ := okWide_slice Try.underlying22 (hval 0 22 v0 rfl rfl)
  have k0 := h0
  have lt0 : ∀ x ∈ p0, x.block < W.heap.size := by obtain ⟨m, hm⟩ := k0; exact DataW.trod_lt m _ _ _ hm
  obtain ⟨z0, w0, e0, f0⟩ := bytes_of_trod h0
  obtain ⟨a1, len1, cap1, rfl⟩ := okWide_slice Try.underlying22 (hval 1 22 v1 rfl rfl)
  have k1 := h1
  have lt1 : ∀ x ∈ p1, x.block < W.heap.size := by obtain ⟨m, hm⟩ := k1; exact DataW.trod_lt m _ _ _ hm
  obtain ⟨z1, w1, e1, f1⟩ := bytes_of_trod h1
  clear hA0 hval0
  refine (walk_bankBad W a0 len0 cap0 z0 w0 e0 f0 a1 len1 cap1 e1 f1).mono fun e W' ⟨he, bel⟩ => ?_
  subst he
  exact ⟨_, rfl, _, _, _, [], _, [], hW', trodAll_mk1 (shut_bool Try.underlying4 _), (trodAll_cons_mk (Below.trod laidOut (by kernel_rfl) (of_decide_eq_true (by kernel_rfl)) k0 bel lt0) (trodAll_cons_mk (Below.trod laidOut (by kernel_rfl) (of_decide_eq_true (by kernel_rfl)) k1 bel lt1) trodAll_mk0)), rfl, bel.frame _, fun h => by cases h⟩

theorem over : Rows.fnBankBadRow.holds Try.pinned (OpenSpec.ofChange Rows.fnBankBadSpec) :=
  OpenClaim.holds_of_wide 4 Try.f4 rfl rfl rfl rfl rfl rfl rfl ⟨rfl, rfl, rfl, rfl, rfl⟩ rfl rfl rfl rfl rfl (by kernel_rfl) Try.func4 (by kernel_rfl)
    (of_decide_eq_true (by kernel_rfl)) (by unfold Func.isWrapper; first | (rw [if_pos (by decide +kernel)]; kernel_rfl) | (rw [if_neg (by decide +kernel)]; exact ⟨rfl, rfl⟩))
    (fun os started H enc _ => lifted os started H enc)
end bankBad

theorem fnBankBad_holds : Rows.FnBankBadSaid := bankBad.over
#print axioms fnBankBad_holds
end Go.Proofs.Ytedmkbiamjpdaab
