/- append onto a literal without elements: ints, bools, as rows of the call's own. Nothing here speaks of the program's functions. No condition. FnStateGot2: what became of a packet is none of three others, whatever is drawn. FnStateGot2: what became of a packet is none of three others, whatever is drawn. The tables read as the program's text lays them. -/
import Derived.Test.YtjcbeihoeanhaaaDoorPlU5
import Derived.Test.YtjcbeihoeanhaaaDoorUSte
set_option maxRecDepth 100000
set_option maxHeartbeats 8000000
set_option linter.unusedVariables false
set_option linter.unusedSimpArgs false
/-! LCop -/
namespace Go.Proofs.YtjcbeihoeanhaaaDoor
open Go.RowKit
theorem cpI_own {w : World} {e lo : Nat} {A : Option Addr} {c : Nat} {xs : List Int} (h : w.ownsRow 0 e 1 (.slice A xs.length c) xs.length (vIs xs)) (hf : ∀ g, (Value.slice A xs.length c).ownBlock = some g → lo ≤ g) : Row w lo A xs.length xs := by
 refine ⟨owns_ints h, fun hn => ?_⟩; obtain ⟨_, h1, h2⟩ := owns_cells h
 cases A with
 | none => have := (h1 rfl).1; omega
 | some a =>
  obtain ⟨g, rfl, hg, hc, hz⟩ := h2 a rfl; exact ⟨g, 0, rfl, hf g rfl, fun j _ => hz j⟩
theorem cpB_own {w : World} {e lo : Nat} {A : Option Addr} {c : Nat} {xs : List Bool} (h : w.ownsRow 0 e 1 (.slice A xs.length c) xs.length (vBs xs)) (hf : ∀ g, (Value.slice A xs.length c).ownBlock = some g → lo ≤ g) : BRow w lo A xs.length xs := by
 refine ⟨owns_bools h, fun hn => ?_⟩; obtain ⟨_, h1, h2⟩ := owns_cells h
 cases A with
 | none => have := (h1 rfl).1; omega
 | some a =>
  obtain ⟨g, rfl, hg, hc, hz⟩ := h2 a rfl; exact ⟨g, 0, rfl, hf g rfl, fun j _ => hz j⟩
theorem wpList_cpI (W : World) {ops : Array Oper} {rest : List Oper} {o : Oper} {a : Act} {Q : Exit → Act → World → Prop}
  (hg : o.guard = none) (s x : Operand) (hop : o.op = Op.call { callee := Callee.builtin Builtin.append, args := #[s, x], argTypes := #[ 25, 25 ] })
  (g : Nat) (hgW : g = W.heap.size) (hs : a.eval s = .slice (some ⟨g, 0, none⟩) 0 0) (A : Option Addr) (c : Nat) (xs : List Int) (hx : a.eval x = .slice A xs.length c) (hi : Ints W A xs.length xs) (hm : xs.length ≤ 1048576)
  (hK : ∀ A' c' w', Row w' W.heap.size A' xs.length xs → Keeps noBlk W w' → wpList Tryd.prog ops Q rest (a.put o.dst (.slice A' xs.length c')) w') :
  wpList Tryd.prog ops Q (o :: rest) a (W.alloc (.cells #[] 3)) := by
 refine wpList_copy (P := Tryd.prog) W hg s x 25 hop 3 (.int .i64 0) 1 8 Tryd.underlying25 info_int3 rfl (by decide) g hgW hs A xs.length c (vIs xs) hx (ints_none hi) (by rw [vIs_length]; omega) (ints_news hi) one_ints (by unfold maxLen; omega) (by omega) fun A' c' w' ho hk hf => ?_
 exact hK A' c' w' (cpI_own ho hf) hk
theorem wpList_cpB (W : World) {ops : Array Oper} {rest : List Oper} {o : Oper} {a : Act} {Q : Exit → Act → World → Prop}
  (hg : o.guard = none) (s x : Operand) (hop : o.op = Op.call { callee := Callee.builtin Builtin.append, args := #[s, x], argTypes := #[ 24, 24 ] })
  (g : Nat) (hgW : g = W.heap.size) (hs : a.eval s = .slice (some ⟨g, 0, none⟩) 0 0) (A : Option Addr) (c : Nat) (xs : List Bool) (hx : a.eval x = .slice A xs.length c) (hi : Bools W A xs.length xs) (hm : xs.length ≤ 1048576)
  (hK : ∀ A' c' w', BRow w' W.heap.size A' xs.length xs → Keeps noBlk W w' → wpList Tryd.prog ops Q rest (a.put o.dst (.slice A' xs.length c')) w') :
  wpList Tryd.prog ops Q (o :: rest) a (W.alloc (.cells #[] 4)) := by
 refine wpList_copy (P := Tryd.prog) W hg s x 24 hop 4 (.bool false) 1 1 Tryd.underlying24 info_bool rfl (by decide) g hgW hs A xs.length c (vBs xs) hx (bools_none hi) (by rw [vBs_length]; omega) (bools_news hi) one_bools (by unfold maxLen; omega) (by omega) fun A' c' w' ho hk hf => ?_
 exact hK A' c' w' (cpB_own ho hf) hk
open Go.RowKit Go.ChangeShapes Go.WideShapes Go.ChangeAt Go.Joins
theorem stB_got3 {x : StL} {k : Nat} (h : stB x = true) (hk : k < 8) : stB { x with got := x.got.set k 3 } = false := by
 unfold stB
 refine decide_eq_false fun h9 => ?_
 have h1 := h9.2.2.2.2 k hk; have hl := (stB_ok h).2.2.2.1; dsimp only at h1; rw [List.getD_eq_getElem?_getD, List.getElem?_set_self (by omega)] at h1
 revert h1
 decide
theorem stB_got1 {x : StL} {k : Nat} (h : stB x = true) (hk : k < 8) : stB { x with got := x.got.set k 1 } = true := by
 have h0 := stB_ok h; unfold stB; refine decide_eq_true ⟨h0.1, h0.2.1, h0.2.2.1, by simpa using h0.2.2.2.1, fun i hi => ?_⟩; dsimp only
 by_cases hik : i = k
 ·subst hik
  rw [List.getD_eq_getElem?_getD, List.getElem?_set_self (by have := h0.2.2.2.1; omega)]
  decide
 ·rw [List.getD_eq_getElem?_getD, List.getElem?_set_ne (by omega), ← List.getD_eq_getElem?_getD]
  exact h0.2.2.2.2 i hi
theorem stB_both {x : StL} (h : stB x = true) (h0 : 0 < x.sent.length) : stB { x with live := x.live.set 0 true, back := x.back.set 0 true } = false := by
 have hf := (stB_ok h).2.2.1; unfold stB
 refine decide_eq_false fun h9 => ?_
 refine h9.2.2.1.2.2 0 h0 ⟨?_, ?_⟩
 ·rw [List.getD_eq_getElem?_getD, List.getElem?_set_self (by have := hf.1; omega)]
  rfl
 ·rw [List.getD_eq_getElem?_getD, List.getElem?_set_self (by have := hf.2.1; omega)]
  rfl
theorem walk_lstgottwo (w : World) (ht : Tabs w) (a0 : Option Addr) (len0 cap0 : Nat) (z0 : List Int) (h : Bytes w a0 len0 z0) (e0 : len0 ≤ cap0) (f0 : cap0 ≤ maxLen) (a1 : Option Addr) (len1 cap1 : Nat) (e1 : len1 ≤ cap1) (f1 : cap1 ≤ maxLen) :
  Calls Tryd.prog 10 #[.slice a0 len0 cap0, .slice a1 len1 cap1] w fun e w' => e = .returned (.bool true) ∧ Below w.heap.size w w' := by
 have HT := hH ht; have HD := hH (drawStOk_any a0 len0 cap0 z0 w h e0 f0); clear h ht e0 f0
 by_cases hs : (len0 : Int) ≤ 1048576
 case neg =>
  go_enter Tryd.func10, Tryd.ntmps10
  go_wp2; go_ret; exact ⟨rfl, Below.refl _ _⟩
 by_cases hs1 : (len1 : Int) ≤ 1048576
 case neg =>
  go_enter Tryd.func10, Tryd.ntmps10
  go_wp2; go_ret; exact ⟨rfl, Below.refl _ _⟩
 go_enter Tryd.func10, Tryd.ntmps10
 go_wp2_with fail; refine HD.out.mono ?_; rintro e w1 ⟨s, rfl, hat, hk1⟩; have HA := hH hat; have HK := hH hk1; have sz1 := hk1.size; clear hat hk1 HD; dsimp only [StM.val]; replace HA := hH ((HA.out).kept ((Keeps.refl noBlk w1).alloc (.cells (smC s) 27))); replace HK := hH (HK.out.alloc (.cells (smC s) 27)); have HBs := hH (Box.new w1 _ rfl 27 (smC s)); go_wp2_with fail; refine (implSt_any s.x s.A1 s.A2 s.A3 s.A4 s.c1 s.c2 s.c3 s.c4 _ HA.out (HT.out.keeps HK.out)).mono ?_; rintro e w2 ⟨rfl, hk2⟩; replace HBs := hH (HBs.out.keeps hk2 (fun h => h)); replace HA := hH ((HA.out).kept hk2); replace HK := hH (HK.out.trans hk2); have sz2 := hk2.size
 (try simp at sz2)
 clear hk2; have hb := HBs.out; obtain ⟨s0, s1, s2, s3, s4, s5, s6⟩ := hb.cells7; have zs := hb.lt; clear hb
 rcases Bool.eq_false_or_eq_true (stB s.x) with ho | ho
 ·skip
  go_wp2_with fail; refine (specSt_any s.x s.A1 s.A2 s.A3 s.A4 s.c1 s.c2 s.c3 s.c4 _ HA.out).mono ?_; rintro e w3 ⟨rfl, hk3⟩; clear s0 s1 s2 s3 s4 s5 s6 zs; replace HBs := hH (HBs.out.keeps hk3 (fun h => h)); replace HA := hH ((HA.out).kept hk3); replace HK := hH (HK.out.trans hk3); have sz3 := hk3.size
  (try simp at sz3)
  clear hk3; have hb := HBs.out; obtain ⟨s0, s1, s2, s3, s4, s5, s6⟩ := hb.cells7; have zs := hb.lt; clear hb; obtain ⟨k, hk8, hkm⟩ : ∃ k : Nat, k < 8 ∧ (len1 : Int).tmod 8 = (k : Int) := ⟨(len1 : Int).tmod 8 |>.toNat, by have := Int.tmod_nonneg 8 (show (0 : Int) ≤ len1 by omega); have := Int.tmod_lt_of_pos (len1 : Int) (show (0 : Int) < 8 by omega); omega, by have := Int.tmod_nonneg 8 (show (0 : Int) ≤ len1 by omega); omega⟩
  have hke : (len1 : Int) % 8 = (k : Int) := by rw [← hkm, Int.tmod_eq_emod_of_nonneg (by omega)]
  have hgl : 8 ≤ s.x.got.length := by have := (stB_ok ho).2.2.2.1; omega
  have hgl2 : s.x.got.length ≤ 8 := by have := (stB_ok ho).2.2.2.1; omega
  have HO := hH ho
  go_upto_region 8 with fail
  clear ho hkm hke; clear s0 s1 s2 s3 s4 s5 s6 zs; have HKB := hH (Keeps.refl noBlk w3); have zsb := HBs.out.lt; have hb := HBs.out.keeps HKB.out (fun h => h); obtain ⟨s0, s1, s2, s3, s4, s5, s6⟩ := hb.cells7; have zs := hb.lt; clear hb; replace HKB := hH (HKB.out.trans ((Keeps.refl noBlk w3).alloc (.cells (smC s) 27))); have HBx := hH (Box.new w3 _ rfl 27 (smC s)); have HI := hH ((HA.out.kept HKB.out).1.2.2.2)
  have hm9 : s.x.got.length ≤ 1048576 := by omega
  go_wp2_with (at_builtin; refine wpList_cpI _ rfl _ _ rfl _ (by simp) rfl s.A4 s.c4 s.x.got rfl HI.out hm9 ?_)
  intro B1 d1 v1 hr hk; clear HI hm9; clear s0 s1 s2 s3 s4 s5 s6 zs; replace HBx := hH (HBx.out.keeps hk (fun h => h)); replace HKB := hH (HKB.out.trans hk); have HR1 := hH hr; have lo1 : (w3.alloc (.cells (smC s) 27)).heap.size ≤ v1.heap.size := hk.size
  (try simp at lo1)
  clear hr hk; have hb := HBs.out.keeps HKB.out (fun h => h); obtain ⟨s0, s1, s2, s3, s4, s5, s6⟩ := hb.cells7; have zs := hb.lt; clear hb; have hb := HBx.out; obtain ⟨x0, x1, x2, x3, x4, x5, x6⟩ := hb.cells7; obtain ⟨xf0, xf1, xf2, xf3, xf4, xf5, xf6⟩ := hb.fz7; have zx := hb.lt; clear hb
  go_upto_region 10 with fail
  clear s0 s1 s2 s3 s4 s5 s6 zs x0 x1 x2 x3 x4 x5 x6 xf0 xf1 xf2 xf3 xf4 xf5 xf6 zx; have hb := HBx.out.set_ 6 (.slice B1 s.x.got.length d1); simp only [sx] at hb; have hrow := HR1.out.far (p := ⟨w3.heap.size, 6, none⟩) (fun h => by have := HR1.out.ge h; simp at this; omega) (.slice B1 s.x.got.length d1); replace HBx := hH hb; replace HR1 := hH hrow; clear hb hrow; replace HKB := hH (HKB.out.new (g := w3.heap.size) (by omega) 6 (.slice B1 s.x.got.length d1))
  have zz : (v1.setCell ⟨w3.heap.size, 6, none⟩ (.slice B1 s.x.got.length d1)).heap.size = v1.heap.size := by simp
  generalize (v1.setCell ⟨w3.heap.size, 6, none⟩ (.slice B1 s.x.got.length d1)) = v1a at HBx HR1 HKB zz ⊢
  have lv1a : v1.heap.size ≤ v1a.heap.size := by omega
  clear zz; obtain ⟨b1, o1, e1, hlo1, hlt1, _, _⟩ := HR1.out.at_ (show k < s.x.got.length by omega); subst e1
  (try simp at hlo1)
  obtain ⟨b9, o9, e9, _, hlt9, c1, f1⟩ := HR1.out.at_ (show k < s.x.got.length by omega)
  injection e9 with e9
  injection e9 with e8 e7
  subst e8; subst e7
  have hkn1 : (k : Int) < (s.x.got.length : Int) := by omega
  have hb := HBx.out; obtain ⟨x0, x1, x2, x3, x4, x5, x6⟩ := hb.cells7; have zx := hb.lt; clear hb
  go_upto_region 11 with fail
  clear x0 x1 x2 x3 x4 x5 x6 zx; replace HR1 := hH (show Row (v1a.setCell ⟨b1, o1 + k, none⟩ (.int .i64 3)) _ _ _ _ from HR1.out.set_ (show k < s.x.got.length by omega) 3); replace HBx := hH (HBx.out.far (p := ⟨b1, o1 + k, none⟩) (by dsimp only; omega) (.int .i64 3)); replace HKB := hH (HKB.out.new (g := b1) (by omega) (o1 + k) (.int .i64 3))
  have zz : (v1a.setCell ⟨b1, o1 + k, none⟩ (.int .i64 3)).heap.size = v1a.heap.size := by simp
  generalize (v1a.setCell ⟨b1, o1 + k, none⟩ (.int .i64 3)) = v1ap at HBx HR1 HKB zz ⊢
  have lv1ap : v1a.heap.size ≤ v1ap.heap.size := by omega
  clear zz hlt9 hkn1 c1 f1; have hb := HBs.out.keeps HKB.out (fun h => h); obtain ⟨s0, s1, s2, s3, s4, s5, s6⟩ := hb.cells7; have zs := hb.lt; clear hb; replace HBx := hH (HBx.out.keeps ((Keeps.refl noBlk v1ap).alloc (.cells (smC s) 27)) (fun h => h)); replace HR1 := hH (HR1.out.keeps ((Keeps.refl noBlk v1ap).alloc (.cells (smC s) 27)) (fun _ _ h => h)); replace HKB := hH (HKB.out.trans ((Keeps.refl noBlk v1ap).alloc (.cells (smC s) 27))); have HBy := hH (Box.new v1ap _ rfl 27 (smC s)); have HI := hH ((HA.out.kept HKB.out).1.2.2.2)
  have hm9 : s.x.got.length ≤ 1048576 := by omega
  go_wp2_with (at_builtin; refine wpList_cpI _ rfl _ _ rfl _ (by simp) rfl s.A4 s.c4 s.x.got rfl HI.out hm9 ?_)
  intro B2 d2 v2 hr hk; clear HI hm9; clear s0 s1 s2 s3 s4 s5 s6 zs; replace HBx := hH (HBx.out.keeps hk (fun h => h)); replace HBy := hH (HBy.out.keeps hk (fun h => h)); replace HR1 := hH (HR1.out.keeps hk (fun _ _ h => h)); replace HKB := hH (HKB.out.trans hk); have HR2 := hH hr; have lo2 : (v1ap.alloc (.cells (smC s) 27)).heap.size ≤ v2.heap.size := hk.size
  (try simp at lo2)
  clear hr hk; have hb := HBs.out.keeps HKB.out (fun h => h); obtain ⟨s0, s1, s2, s3, s4, s5, s6⟩ := hb.cells7; have zs := hb.lt; clear hb; have hb := HBy.out; obtain ⟨y0, y1, y2, y3, y4, y5, y6⟩ := hb.cells7; obtain ⟨yf0, yf1, yf2, yf3, yf4, yf5, yf6⟩ := hb.fz7; have zy := hb.lt; clear hb
  go_upto_region 13 with fail
  clear s0 s1 s2 s3 s4 s5 s6 zs y0 y1 y2 y3 y4 y5 y6 yf0 yf1 yf2 yf3 yf4 yf5 yf6 zy; have hb := HBy.out.set_ 6 (.slice B2 s.x.got.length d2); simp only [sx] at hb; have hrow := HR2.out.far (p := ⟨v1ap.heap.size, 6, none⟩) (fun h => by have := HR2.out.ge h; simp at this; omega) (.slice B2 s.x.got.length d2); replace HBx := hH (HBx.out.far (p := ⟨v1ap.heap.size, 6, none⟩) (by dsimp only; omega) (.slice B2 s.x.got.length d2)); replace HR1 := hH (HR1.out.far (p := ⟨v1ap.heap.size, 6, none⟩) (fun h => by first | (have h9 := blk_some h; dsimp only at h9; omega) | (have h9 := HR1.out.ge h; (try simp at h9); omega)) (.slice B2 s.x.got.length d2)); replace HBy := hH hb; replace HR2 := hH hrow; clear hb hrow; replace HKB := hH (HKB.out.new (g := v1ap.heap.size) (by omega) 6 (.slice B2 s.x.got.length d2))
  have zz : (v2.setCell ⟨v1ap.heap.size, 6, none⟩ (.slice B2 s.x.got.length d2)).heap.size = v2.heap.size := by simp
  generalize (v2.setCell ⟨v1ap.heap.size, 6, none⟩ (.slice B2 s.x.got.length d2)) = v2a at HBx HBy HR1 HR2 HKB zz ⊢
  have lv2a : v2.heap.size ≤ v2a.heap.size := by omega
  clear zz; obtain ⟨b2, o2, e2, hlo2, hlt2, _, _⟩ := HR2.out.at_ (show k < s.x.got.length by omega); subst e2
  (try simp at hlo2)
  obtain ⟨b9, o9, e9, _, hlt9, c2, f2⟩ := HR2.out.at_ (show k < s.x.got.length by omega)
  injection e9 with e9
  injection e9 with e8 e7
  subst e8; subst e7
  have hkn2 : (k : Int) < (s.x.got.length : Int) := by omega
  have hb := HBy.out; obtain ⟨y0, y1, y2, y3, y4, y5, y6⟩ := hb.cells7; have zy := hb.lt; clear hb
  go_upto_region 14 with fail
  clear y0 y1 y2 y3 y4 y5 y6 zy; replace HR2 := hH (show Row (v2a.setCell ⟨b2, o2 + k, none⟩ (.int .i64 1)) _ _ _ _ from HR2.out.set_ (show k < s.x.got.length by omega) 1); replace HBx := hH (HBx.out.far (p := ⟨b2, o2 + k, none⟩) (by dsimp only; omega) (.int .i64 1)); replace HBy := hH (HBy.out.far (p := ⟨b2, o2 + k, none⟩) (by dsimp only; omega) (.int .i64 1)); replace HR1 := hH (HR1.out.far (p := ⟨b2, o2 + k, none⟩) (fun h => by first | (have h9 := blk_some h; dsimp only at h9; omega) | (have h9 := HR1.out.ge h; (try simp at h9); omega)) (.int .i64 1)); replace HKB := hH (HKB.out.new (g := b2) (by omega) (o2 + k) (.int .i64 1))
  have zz : (v2a.setCell ⟨b2, o2 + k, none⟩ (.int .i64 1)).heap.size = v2a.heap.size := by simp
  generalize (v2a.setCell ⟨b2, o2 + k, none⟩ (.int .i64 1)) = v2ap at HBx HBy HR1 HR2 HKB zz ⊢
  have lv2ap : v2a.heap.size ≤ v2ap.heap.size := by omega
  clear zz hlt9 hkn2 c2 f2; have Fx := hH (fun W (h : StAt W { s.x with got := s.x.got.set k 3 } s.A1 s.A2 s.A3 (some ⟨b1, o1, none⟩)) (hT : Tabs W) => (show Calls Tryd.prog 31 #[.agg #[.int .i64 s.x.way, .int .i64 s.x.ver, .int .i64 s.x.want, .slice s.A1 s.x.sent.length s.c1, .slice s.A2 s.x.live.length s.c2, .slice s.A3 s.x.back.length s.c3, .slice (some ⟨b1, o1, none⟩) s.x.got.length d1]] W (fun e w' => e = .returned (.bool false) ∧ Keeps noBlk W w') from by have h9 := implSt_any { s.x with got := s.x.got.set k 3 } s.A1 s.A2 s.A3 (some ⟨b1, o1, none⟩) s.c1 s.c2 s.c3 d1 W h hT; rw [stB_got3 HO.out hk8] at h9; simpa only [stV, List.length_set] using h9)); have Fy := hH (fun W (h : StAt W { s.x with got := s.x.got.set k 1 } s.A1 s.A2 s.A3 (some ⟨b2, o2, none⟩)) (hT : Tabs W) => (show Calls Tryd.prog 31 #[.agg #[.int .i64 s.x.way, .int .i64 s.x.ver, .int .i64 s.x.want, .slice s.A1 s.x.sent.length s.c1, .slice s.A2 s.x.live.length s.c2, .slice s.A3 s.x.back.length s.c3, .slice (some ⟨b2, o2, none⟩) s.x.got.length d2]] W (fun e w' => e = .returned (.bool true) ∧ Keeps noBlk W w') from by have h9 := implSt_any { s.x with got := s.x.got.set k 1 } s.A1 s.A2 s.A3 (some ⟨b2, o2, none⟩) s.c1 s.c2 s.c3 d2 W h hT; rw [stB_got1 HO.out hk8] at h9; simpa only [stV, List.length_set] using h9))
  by_cases hz : s.x.sent.length = 0
  ·have hzi : ((s.x.sent.length : Int) == 0) = true := by simp [hz]
   have hzj : (s.x.sent.length : Int) = 0 := by omega
   clear hz; have hb := HBs.out.keeps HKB.out (fun h => h); obtain ⟨s0, s1, s2, s3, s4, s5, s6⟩ := hb.cells7; have zs := hb.lt; clear hb; have hb := HBx.out; obtain ⟨x0, x1, x2, x3, x4, x5, x6⟩ := hb.cells7; have zx := hb.lt; clear hb; go_wp2_with fail; refine (Fx.out _ ⟨⟨(HA.out.kept HKB.out).1.1, (HA.out.kept HKB.out).1.2.1, (HA.out.kept HKB.out).1.2.2.1, by have h9 := HR1.out.ints; simpa only [List.length_set] using h9⟩, HA.out.2.1, HA.out.2.2.1, HA.out.2.2.2.1, by have h9 := HA.out.2.2.2.2; simpa only [List.length_set] using h9⟩ (HT.out.keeps (HK.out.trans HKB.out))).mono ?_; rintro e u3 ⟨rfl, hk⟩; clear s0 s1 s2 s3 s4 s5 s6 zs x0 x1 x2 x3 x4 x5 x6 zx; replace HBx := hH (HBx.out.keeps hk (fun h => h)); replace HBy := hH (HBy.out.keeps hk (fun h => h)); replace HR1 := hH (HR1.out.keeps hk (fun _ _ h => h)); replace HR2 := hH (HR2.out.keeps hk (fun _ _ h => h)); replace HKB := hH (HKB.out.trans hk); clear hk; have hb := HBy.out; obtain ⟨y0, y1, y2, y3, y4, y5, y6⟩ := hb.cells7; have zy := hb.lt; clear hb; go_wp2_with fail; refine (Fy.out _ ⟨⟨(HA.out.kept HKB.out).1.1, (HA.out.kept HKB.out).1.2.1, (HA.out.kept HKB.out).1.2.2.1, by have h9 := HR2.out.ints; simpa only [List.length_set] using h9⟩, HA.out.2.1, HA.out.2.2.1, HA.out.2.2.2.1, by have h9 := HA.out.2.2.2.2; simpa only [List.length_set] using h9⟩ (HT.out.keeps (HK.out.trans HKB.out))).mono ?_; rintro e u4 ⟨rfl, hk⟩; clear y0 y1 y2 y3 y4 y5 y6 zy; replace HBx := hH (HBx.out.keeps hk (fun h => h)); replace HBy := hH (HBy.out.keeps hk (fun h => h)); replace HR1 := hH (HR1.out.keeps hk (fun _ _ h => h)); replace HR2 := hH (HR2.out.keeps hk (fun _ _ h => h)); replace HKB := hH (HKB.out.trans hk); clear hk; go_wp2; go_ret; exact ⟨rfl, (HK.out.trans HKB.out).below⟩
  ·have hzi : ((s.x.sent.length : Int) == 0) = false := by rw [beq_eq_false_iff_ne]; omega
   have hzp : 0 < s.x.sent.length := by omega
   have hll := (stB_ok HO.out).2.2.1.1; have hbl := (stB_ok HO.out).2.2.1.2.1; have hs8 := (stB_ok HO.out).2.1.small
   have hl1 : 0 < s.x.live.length := by omega
   have hb1 : 0 < s.x.back.length := by omega
   have hl2 : s.x.live.length ≤ 8 := by omega
   have hb2 : s.x.back.length ≤ 8 := by omega
   clear hz hll hbl; have hb := HBs.out.keeps HKB.out (fun h => h); obtain ⟨s0, s1, s2, s3, s4, s5, s6⟩ := hb.cells7; have zs := hb.lt; clear hb; replace HBx := hH (HBx.out.keeps ((Keeps.refl noBlk v2ap).alloc (.cells (smC s) 27)) (fun h => h)); replace HBy := hH (HBy.out.keeps ((Keeps.refl noBlk v2ap).alloc (.cells (smC s) 27)) (fun h => h)); replace HR1 := hH (HR1.out.keeps ((Keeps.refl noBlk v2ap).alloc (.cells (smC s) 27)) (fun _ _ h => h)); replace HR2 := hH (HR2.out.keeps ((Keeps.refl noBlk v2ap).alloc (.cells (smC s) 27)) (fun _ _ h => h)); replace HKB := hH (HKB.out.trans ((Keeps.refl noBlk v2ap).alloc (.cells (smC s) 27))); have HBz := hH (Box.new v2ap _ rfl 27 (smC s)); have HI := hH ((HA.out.kept HKB.out).1.2.1)
   have hm9 : s.x.live.length ≤ 1048576 := by omega
   go_wp2_with (at_builtin; refine wpList_cpB _ rfl _ _ rfl _ (by simp) rfl s.A2 s.c2 s.x.live rfl HI.out hm9 ?_)
   intro B3 d3 v3 hr hk; clear HI hm9; clear s0 s1 s2 s3 s4 s5 s6 zs; replace HBx := hH (HBx.out.keeps hk (fun h => h)); replace HBy := hH (HBy.out.keeps hk (fun h => h)); replace HBz := hH (HBz.out.keeps hk (fun h => h)); replace HR1 := hH (HR1.out.keeps hk (fun _ _ h => h)); replace HR2 := hH (HR2.out.keeps hk (fun _ _ h => h)); replace HKB := hH (HKB.out.trans hk); have HR3 := hH hr; have lo3 : (v2ap.alloc (.cells (smC s) 27)).heap.size ≤ v3.heap.size := hk.size
   (try simp at lo3)
   clear hr hk; have hb := HBs.out.keeps HKB.out (fun h => h); obtain ⟨s0, s1, s2, s3, s4, s5, s6⟩ := hb.cells7; have zs := hb.lt; clear hb; have hb := HBz.out; obtain ⟨z0, z1, z2, z3, z4, z5, z6⟩ := hb.cells7; obtain ⟨zf0, zf1, zf2, zf3, zf4, zf5, zf6⟩ := hb.fz7; have zz := hb.lt; clear hb
   go_upto_region 18 with fail
   clear s0 s1 s2 s3 s4 s5 s6 zs z0 z1 z2 z3 z4 z5 z6 zf0 zf1 zf2 zf3 zf4 zf5 zf6 zz; have hb := HBz.out.set_ 4 (.slice B3 s.x.live.length d3); simp only [sx] at hb; have hrow := HR3.out.far (p := ⟨v2ap.heap.size, 4, none⟩) (fun h => by have := HR3.out.ge h; simp at this; omega) (.slice B3 s.x.live.length d3); replace HBx := hH (HBx.out.far (p := ⟨v2ap.heap.size, 4, none⟩) (by dsimp only; omega) (.slice B3 s.x.live.length d3)); replace HBy := hH (HBy.out.far (p := ⟨v2ap.heap.size, 4, none⟩) (by dsimp only; omega) (.slice B3 s.x.live.length d3)); replace HR1 := hH (HR1.out.far (p := ⟨v2ap.heap.size, 4, none⟩) (fun h => by first | (have h9 := blk_some h; dsimp only at h9; omega) | (have h9 := HR1.out.ge h; (try simp at h9); omega)) (.slice B3 s.x.live.length d3)); replace HR2 := hH (HR2.out.far (p := ⟨v2ap.heap.size, 4, none⟩) (fun h => by first | (have h9 := blk_some h; dsimp only at h9; omega) | (have h9 := HR2.out.ge h; (try simp at h9); omega)) (.slice B3 s.x.live.length d3)); replace HBz := hH hb; replace HR3 := hH hrow; clear hb hrow; replace HKB := hH (HKB.out.new (g := v2ap.heap.size) (by omega) 4 (.slice B3 s.x.live.length d3))
   have zz : (v3.setCell ⟨v2ap.heap.size, 4, none⟩ (.slice B3 s.x.live.length d3)).heap.size = v3.heap.size := by simp
   generalize (v3.setCell ⟨v2ap.heap.size, 4, none⟩ (.slice B3 s.x.live.length d3)) = v3a at HBx HBy HBz HR1 HR2 HR3 HKB zz ⊢
   have lv3a : v3.heap.size ≤ v3a.heap.size := by omega
   clear zz; obtain ⟨b3, o3, e3, hlo3, hlt3, _, _⟩ := HR3.out.at_ (show 0 < s.x.live.length by omega); subst e3
   (try simp at hlo3)
   have hb := HBs.out.keeps HKB.out (fun h => h); obtain ⟨s0, s1, s2, s3, s4, s5, s6⟩ := hb.cells7; have zs := hb.lt; clear hb; have HI := hH ((HA.out.kept HKB.out).1.2.2.1)
   have hm9 : s.x.back.length ≤ 1048576 := by omega
   go_wp2_with (at_builtin; refine wpList_cpB _ rfl _ _ rfl _ (by simp) rfl s.A3 s.c3 s.x.back rfl HI.out hm9 ?_)
   intro B4 d4 v4 hr hk; clear HI hm9; clear s0 s1 s2 s3 s4 s5 s6 zs; replace HBx := hH (HBx.out.keeps hk (fun h => h)); replace HBy := hH (HBy.out.keeps hk (fun h => h)); replace HBz := hH (HBz.out.keeps hk (fun h => h)); replace HR1 := hH (HR1.out.keeps hk (fun _ _ h => h)); replace HR2 := hH (HR2.out.keeps hk (fun _ _ h => h)); replace HR3 := hH (HR3.out.keeps hk (fun _ _ h => h)); replace HKB := hH (HKB.out.trans hk); have HR4 := hH hr; have lo4 : v3a.heap.size ≤ v4.heap.size := hk.size
   (try simp at lo4)
   clear hr hk; have hb := HBs.out.keeps HKB.out (fun h => h); obtain ⟨s0, s1, s2, s3, s4, s5, s6⟩ := hb.cells7; have zs := hb.lt; clear hb; have hb := HBz.out; obtain ⟨z0, z1, z2, z3, z4, z5, z6⟩ := hb.cells7; obtain ⟨zf0, zf1, zf2, zf3, zf4, zf5, zf6⟩ := hb.fz7; have zz := hb.lt; clear hb
   go_upto_region 19 with fail
   clear s0 s1 s2 s3 s4 s5 s6 zs z0 z1 z2 z3 z4 z5 z6 zf0 zf1 zf2 zf3 zf4 zf5 zf6 zz; have hb := HBz.out.set_ 5 (.slice B4 s.x.back.length d4); simp only [sx] at hb; have hrow := HR4.out.far (p := ⟨v2ap.heap.size, 5, none⟩) (fun h => by have := HR4.out.ge h; simp at this; omega) (.slice B4 s.x.back.length d4); replace HBx := hH (HBx.out.far (p := ⟨v2ap.heap.size, 5, none⟩) (by dsimp only; omega) (.slice B4 s.x.back.length d4)); replace HBy := hH (HBy.out.far (p := ⟨v2ap.heap.size, 5, none⟩) (by dsimp only; omega) (.slice B4 s.x.back.length d4)); replace HR1 := hH (HR1.out.far (p := ⟨v2ap.heap.size, 5, none⟩) (fun h => by first | (have h9 := blk_some h; dsimp only at h9; omega) | (have h9 := HR1.out.ge h; (try simp at h9); omega)) (.slice B4 s.x.back.length d4)); replace HR2 := hH (HR2.out.far (p := ⟨v2ap.heap.size, 5, none⟩) (fun h => by first | (have h9 := blk_some h; dsimp only at h9; omega) | (have h9 := HR2.out.ge h; (try simp at h9); omega)) (.slice B4 s.x.back.length d4)); replace HR3 := hH (HR3.out.far (p := ⟨v2ap.heap.size, 5, none⟩) (fun h => by first | (have h9 := blk_some h; dsimp only at h9; omega) | (have h9 := HR3.out.ge h; (try simp at h9); omega)) (.slice B4 s.x.back.length d4)); replace HBz := hH hb; replace HR4 := hH hrow; clear hb hrow; replace HKB := hH (HKB.out.new (g := v2ap.heap.size) (by omega) 5 (.slice B4 s.x.back.length d4))
   have zz : (v4.setCell ⟨v2ap.heap.size, 5, none⟩ (.slice B4 s.x.back.length d4)).heap.size = v4.heap.size := by simp
   generalize (v4.setCell ⟨v2ap.heap.size, 5, none⟩ (.slice B4 s.x.back.length d4)) = v4a at HBx HBy HBz HR1 HR2 HR3 HR4 HKB zz ⊢
   have lv4a : v4.heap.size ≤ v4a.heap.size := by omega
   clear zz; obtain ⟨b4, o4, e4, hlo4, hlt4, _, _⟩ := HR4.out.at_ (show 0 < s.x.back.length by omega); subst e4
   (try simp at hlo4)
   obtain ⟨b9, o9, e9, _, hlt9, c3, f3⟩ := HR3.out.at_ (show 0 < s.x.live.length by omega)
   injection e9 with e9
   injection e9 with e8 e7
   subst e8; subst e7; simp only [Nat.add_zero] at c3 f3
   have hkn3 : (0 : Int) < (s.x.live.length : Int) := by omega
   have hb := HBz.out; obtain ⟨z0, z1, z2, z3, z4, z5, z6⟩ := hb.cells7; have zz := hb.lt; clear hb
   go_upto_region 20 with fail
   clear z0 z1 z2 z3 z4 z5 z6 zz; replace HR3 := hH (show BRow (v4a.setCell ⟨b3, o3, none⟩ (.bool true)) _ _ _ _ from HR3.out.set_ (show 0 < s.x.live.length by omega) true); replace HBx := hH (HBx.out.far (p := ⟨b3, o3, none⟩) (by dsimp only; omega) (.bool true)); replace HBy := hH (HBy.out.far (p := ⟨b3, o3, none⟩) (by dsimp only; omega) (.bool true)); replace HBz := hH (HBz.out.far (p := ⟨b3, o3, none⟩) (by dsimp only; omega) (.bool true)); replace HR1 := hH (HR1.out.far (p := ⟨b3, o3, none⟩) (fun h => by first | (have h9 := blk_some h; dsimp only at h9; omega) | (have h9 := HR1.out.ge h; (try simp at h9); omega)) (.bool true)); replace HR2 := hH (HR2.out.far (p := ⟨b3, o3, none⟩) (fun h => by first | (have h9 := blk_some h; dsimp only at h9; omega) | (have h9 := HR2.out.ge h; (try simp at h9); omega)) (.bool true)); replace HR4 := hH (HR4.out.far (p := ⟨b3, o3, none⟩) (fun h => by first | (have h9 := blk_some h; dsimp only at h9; omega) | (have h9 := HR4.out.ge h; (try simp at h9); omega)) (.bool true)); replace HKB := hH (HKB.out.new (g := b3) (by omega) (o3) (.bool true))
   have zz : (v4a.setCell ⟨b3, o3, none⟩ (.bool true)).heap.size = v4a.heap.size := by simp
   generalize (v4a.setCell ⟨b3, o3, none⟩ (.bool true)) = v4ap at HBx HBy HBz HR1 HR2 HR3 HR4 HKB zz ⊢
   have lv4ap : v4a.heap.size ≤ v4ap.heap.size := by omega
   clear zz hlt9 hkn3 c3 f3; obtain ⟨b9, o9, e9, _, hlt9, c4, f4⟩ := HR4.out.at_ (show 0 < s.x.back.length by omega)
   injection e9 with e9
   injection e9 with e8 e7
   subst e8; subst e7; simp only [Nat.add_zero] at c4 f4
   have hkn4 : (0 : Int) < (s.x.back.length : Int) := by omega
   have hb := HBz.out; obtain ⟨z0, z1, z2, z3, z4, z5, z6⟩ := hb.cells7; have zz := hb.lt; clear hb
   go_upto_region 21 with fail
   clear z0 z1 z2 z3 z4 z5 z6 zz; replace HR4 := hH (show BRow (v4ap.setCell ⟨b4, o4, none⟩ (.bool true)) _ _ _ _ from HR4.out.set_ (show 0 < s.x.back.length by omega) true); replace HBx := hH (HBx.out.far (p := ⟨b4, o4, none⟩) (by dsimp only; omega) (.bool true)); replace HBy := hH (HBy.out.far (p := ⟨b4, o4, none⟩) (by dsimp only; omega) (.bool true)); replace HBz := hH (HBz.out.far (p := ⟨b4, o4, none⟩) (by dsimp only; omega) (.bool true)); replace HR1 := hH (HR1.out.far (p := ⟨b4, o4, none⟩) (fun h => by first | (have h9 := blk_some h; dsimp only at h9; omega) | (have h9 := HR1.out.ge h; (try simp at h9); omega)) (.bool true)); replace HR2 := hH (HR2.out.far (p := ⟨b4, o4, none⟩) (fun h => by first | (have h9 := blk_some h; dsimp only at h9; omega) | (have h9 := HR2.out.ge h; (try simp at h9); omega)) (.bool true)); replace HR3 := hH (HR3.out.far (p := ⟨b4, o4, none⟩) (fun h => by first | (have h9 := blk_some h; dsimp only at h9; omega) | (have h9 := HR3.out.ge h; (try simp at h9); omega)) (.bool true)); replace HKB := hH (HKB.out.new (g := b4) (by omega) (o4) (.bool true))
   have zz : (v4ap.setCell ⟨b4, o4, none⟩ (.bool true)).heap.size = v4ap.heap.size := by simp
   generalize (v4ap.setCell ⟨b4, o4, none⟩ (.bool true)) = v4app at HBx HBy HBz HR1 HR2 HR3 HR4 HKB zz ⊢
   have lv4app : v4ap.heap.size ≤ v4app.heap.size := by omega
   clear zz hlt9 hkn4 c4 f4; have Fz := hH (fun W (h : StAt W { s.x with live := s.x.live.set 0 true, back := s.x.back.set 0 true } s.A1 (some ⟨b3, o3, none⟩) (some ⟨b4, o4, none⟩) s.A4) (hT : Tabs W) => (show Calls Tryd.prog 31 #[.agg #[.int .i64 s.x.way, .int .i64 s.x.ver, .int .i64 s.x.want, .slice s.A1 s.x.sent.length s.c1, .slice (some ⟨b3, o3, none⟩) s.x.live.length d3, .slice (some ⟨b4, o4, none⟩) s.x.back.length d4, .slice s.A4 s.x.got.length s.c4]] W (fun e w' => e = .returned (.bool false) ∧ Keeps noBlk W w') from by have h9 := implSt_any { s.x with live := s.x.live.set 0 true, back := s.x.back.set 0 true } s.A1 (some ⟨b3, o3, none⟩) (some ⟨b4, o4, none⟩) s.A4 s.c1 d3 d4 s.c4 W h hT; rw [stB_both HO.out hzp] at h9; simpa only [stV, List.length_set] using h9)); have hb := HBx.out; obtain ⟨x0, x1, x2, x3, x4, x5, x6⟩ := hb.cells7; have zx := hb.lt; clear hb; go_wp2_with fail; refine (Fx.out _ ⟨⟨(HA.out.kept HKB.out).1.1, (HA.out.kept HKB.out).1.2.1, (HA.out.kept HKB.out).1.2.2.1, by have h9 := HR1.out.ints; simpa only [List.length_set] using h9⟩, HA.out.2.1, HA.out.2.2.1, HA.out.2.2.2.1, by have h9 := HA.out.2.2.2.2; simpa only [List.length_set] using h9⟩ (HT.out.keeps (HK.out.trans HKB.out))).mono ?_; rintro e u5 ⟨rfl, hk⟩; clear x0 x1 x2 x3 x4 x5 x6 zx; replace HBx := hH (HBx.out.keeps hk (fun h => h)); replace HBy := hH (HBy.out.keeps hk (fun h => h)); replace HBz := hH (HBz.out.keeps hk (fun h => h)); replace HR1 := hH (HR1.out.keeps hk (fun _ _ h => h)); replace HR2 := hH (HR2.out.keeps hk (fun _ _ h => h)); replace HR3 := hH (HR3.out.keeps hk (fun _ _ h => h)); replace HR4 := hH (HR4.out.keeps hk (fun _ _ h => h)); replace HKB := hH (HKB.out.trans hk); clear hk; have hb := HBy.out; obtain ⟨y0, y1, y2, y3, y4, y5, y6⟩ := hb.cells7; have zy := hb.lt; clear hb; go_wp2_with fail; refine (Fy.out _ ⟨⟨(HA.out.kept HKB.out).1.1, (HA.out.kept HKB.out).1.2.1, (HA.out.kept HKB.out).1.2.2.1, by have h9 := HR2.out.ints; simpa only [List.length_set] using h9⟩, HA.out.2.1, HA.out.2.2.1, HA.out.2.2.2.1, by have h9 := HA.out.2.2.2.2; simpa only [List.length_set] using h9⟩ (HT.out.keeps (HK.out.trans HKB.out))).mono ?_; rintro e u6 ⟨rfl, hk⟩; clear y0 y1 y2 y3 y4 y5 y6 zy; replace HBx := hH (HBx.out.keeps hk (fun h => h)); replace HBy := hH (HBy.out.keeps hk (fun h => h)); replace HBz := hH (HBz.out.keeps hk (fun h => h)); replace HR1 := hH (HR1.out.keeps hk (fun _ _ h => h)); replace HR2 := hH (HR2.out.keeps hk (fun _ _ h => h)); replace HR3 := hH (HR3.out.keeps hk (fun _ _ h => h)); replace HR4 := hH (HR4.out.keeps hk (fun _ _ h => h)); replace HKB := hH (HKB.out.trans hk); clear hk; have hb := HBz.out; obtain ⟨z0, z1, z2, z3, z4, z5, z6⟩ := hb.cells7; have zz := hb.lt; clear hb; go_wp2_with fail; refine (Fz.out _ ⟨⟨(HA.out.kept HKB.out).1.1, by have h9 := HR3.out.bools; simpa only [List.length_set] using h9, by have h9 := HR4.out.bools; simpa only [List.length_set] using h9, (HA.out.kept HKB.out).1.2.2.2⟩, HA.out.2.1, by have h9 := HA.out.2.2.1; simpa only [List.length_set] using h9, by have h9 := HA.out.2.2.2.1; simpa only [List.length_set] using h9, HA.out.2.2.2.2⟩ (HT.out.keeps (HK.out.trans HKB.out))).mono ?_; rintro e u7 ⟨rfl, hk⟩; clear z0 z1 z2 z3 z4 z5 z6 zz; replace HBx := hH (HBx.out.keeps hk (fun h => h)); replace HBy := hH (HBy.out.keeps hk (fun h => h)); replace HBz := hH (HBz.out.keeps hk (fun h => h)); replace HR1 := hH (HR1.out.keeps hk (fun _ _ h => h)); replace HR2 := hH (HR2.out.keeps hk (fun _ _ h => h)); replace HR3 := hH (HR3.out.keeps hk (fun _ _ h => h)); replace HR4 := hH (HR4.out.keeps hk (fun _ _ h => h)); replace HKB := hH (HKB.out.trans hk); clear hk; go_wp2; go_ret; exact ⟨rfl, (HK.out.trans HKB.out).below⟩
 ·skip
  go_wp2_with fail; refine (specSt_any s.x s.A1 s.A2 s.A3 s.A4 s.c1 s.c2 s.c3 s.c4 _ HA.out).mono ?_; rintro e w3 ⟨rfl, hk3⟩; clear s0 s1 s2 s3 s4 s5 s6 zs; replace HBs := hH (HBs.out.keeps hk3 (fun h => h)); replace HA := hH ((HA.out).kept hk3); replace HK := hH (HK.out.trans hk3); have sz3 := hk3.size
  (try simp at sz3)
  clear hk3; have hb := HBs.out; obtain ⟨s0, s1, s2, s3, s4, s5, s6⟩ := hb.cells7; have zs := hb.lt; clear hb; go_wp2_with fail; refine (specSt_any s.x s.A1 s.A2 s.A3 s.A4 s.c1 s.c2 s.c3 s.c4 _ HA.out).mono ?_; rintro e w4 ⟨rfl, hk4⟩; clear s0 s1 s2 s3 s4 s5 s6 zs; replace HBs := hH (HBs.out.keeps hk4 (fun h => h)); replace HA := hH ((HA.out).kept hk4); replace HK := hH (HK.out.trans hk4); have sz4 := hk4.size
  (try simp at sz4)
  clear hk4; go_wp2; go_ret; exact ⟨rfl, HK.out.below⟩
namespace lstgottwo
theorem lifted (os : Os) (started : os.Started) (H : Type) (enc : TypeId × Value → H) :
  ReturnsInHanded {} Tryd.checked os 10 .any (fun w args => (Rows.fnStateGot2Spec.pre enc Tryd.prog Tryd.f10 [] false w args ∧ laidMetH Tryd.prog Rows.fnStateGot2Row.laid w) ∧ sizedMet enc Tryd.prog Tryd.f10 (OpenSpec.ofChange Rows.fnStateGot2Spec) false w args)
   (Rows.fnStateGot2Spec.post enc Tryd.prog Tryd.f10 false true false false) := by
 refine returnsInHanded_of_change_and (C := Tryd.checked) (X := fun w _ => laidMetH Tryd.prog Rows.fnStateGot2Row.laid w) (fun _ _ _ hh h => h.of_heap hh) own started (by kernel_rfl) Tryd.func10
  (ChangeSpec.witness_shaped (enc := enc) (C := Tryd.checked) (os := os) (X := fun w _ => laidMetH Tryd.prog Rows.fnStateGot2Row.laid w) false (World.doorLaid Tryd.prog 101 os) #[.slice none 0 0, .slice none 0 0] 8 rfl (World.shaped_of_RefB (by kernel_rfl) (by kernel_rfl)) (by kernel_rfl) (by kernel_rfl) (by kernel_rfl) (door_met os _)) ?_
 intro W base args ds gs before hval0 hW _ _ hL _; have hval : ∀ (j : Nat) t v, Tryd.f10.params[j]? = some t → args[j]? = some v → Value.okWide Tryd.prog W .any base t v := hval0; have hW' := hW; obtain ⟨p, q, hA0, hV, rfl, hfz, hnd⟩ := hW; have hA : DataW.TrodAll enc Tryd.prog W 0 (fun _ => true) true Tryd.f10.params.toList args.toList ds p := hA0; rw [Tryd.params10 ] at hA hval; obtain ⟨g0, g1, rfl⟩ := vars2 hV; obtain ⟨v0, vs0, d0, ds0, p0, q0, hargs, rfl, rfl, h0, r0⟩ := trodAll_cons hA; obtain ⟨v1, vs1, d1, ds1, p1, q1, rfl, rfl, rfl, h1, r1⟩ := trodAll_cons r0; obtain ⟨rfl, rfl, rfl⟩ := trodAll_nil r1
 obtain rfl : args = #[v0, v1] := by cases args; simp_all
 obtain ⟨a0, len0, cap0, rfl⟩ := okWide_slice Tryd.underlying22 (hval 0 22 v0 rfl rfl); have k0 := h0
 have lt0 : ∀ x ∈ p0, x.block < W.heap.size := by obtain ⟨m, hm⟩ := k0; exact DataW.trod_lt m _ _ _ hm
 obtain ⟨z0, w0, e0, f0⟩ := bytes_of_trod h0; obtain ⟨a1, len1, cap1, rfl⟩ := okWide_slice Tryd.underlying22 (hval 1 22 v1 rfl rfl); have k1 := h1
 have lt1 : ∀ x ∈ p1, x.block < W.heap.size := by obtain ⟨m, hm⟩ := k1; exact DataW.trod_lt m _ _ _ hm
 obtain ⟨z1, w1, e1, f1⟩ := bytes_of_trod h1; clear hA0 hval0
 refine (walk_lstgottwo W (tabs_of_laid hL) a0 len0 cap0 z0 w0 e0 f0 a1 len1 cap1 e1 f1).mono fun e W' ⟨he, bel⟩ => ?_
 subst he; exact ⟨_, rfl, _, _, _, [], _, _, hW', trodAll_mk1 (shut_bool Tryd.underlying4 _), (trodAll_cons_mk (Below.trod laidOut (by kernel_rfl) (of_decide_eq_true (by kernel_rfl)) k0 bel lt0) (trodAll_cons_mk (Below.trod laidOut (by kernel_rfl) (of_decide_eq_true (by kernel_rfl)) k1 bel lt1) trodAll_mk0)), Below.trodVars laidOut bel (by kernel_rfl) hV, bel.frame _, fun h => by cases h⟩
end lstgottwo

theorem fnStateGot2_row : Rows.FnStateGot2Said :=
 OpenClaim.holds_of_wide 10 Tryd.f10 rfl rfl rfl rfl rfl rfl rfl ⟨rfl, rfl, rfl, rfl, rfl⟩ rfl rfl rfl rfl rfl (by kernel_rfl) Tryd.func10 (by kernel_rfl)
  (of_decide_eq_true (by kernel_rfl)) (by unfold Func.isWrapper; first | (rw [if_pos (by decide +kernel)]; kernel_rfl) | (rw [if_neg (by decide +kernel)]; exact ⟨rfl, rfl⟩))
  (fun os started H enc _ => lstgottwo.lifted os started H enc)

theorem fnStateGot2_card : Rows.FnStateGot2CardSaid :=
 Claim7.holds_tied_plain_at .later [] Rows.fnStateGot2Card.laidKinds true Rows.fnStateGot2Card.stood.harness true
  fnStateGot2_row (fun _ h => by cases h) (by kernel_rfl) (fun _ h => by cases h) fnStateGot2_row_tie rfl ⟨rfl, rfl⟩ (by kernel_rfl) rfl
  (fun g fn hg hfn => by
   obtain rfl : g = 10 := Option.some.inj ((show Tryd.prog.funcNamed Rows.fnStateGot2Row.func = some 10 by kernel_rfl).symm.trans hg) |>.symm
   obtain rfl : fn = Tryd.f10 := (Option.some.inj (Tryd.func10.symm.trans hfn)).symm; refine ⟨by kernel_rfl, fun j t ht => ?_⟩; have h3 : ∀ t ∈ Tryd.f10.params.toList, Tryd.prog.wantsStandIn t = false := of_decide_eq_true (by kernel_rfl)
   exact h3 t (Array.mem_toList_iff.2 (Array.mem_of_getElem? ht)))
  (by kernel_rfl)
#print axioms fnStateGot2_card
end Go.Proofs.YtjcbeihoeanhaaaDoor
