/- l1Away and l1Back of the model, which turn a bank in place. -/
import Derived.Test.YtedmkbiamjpdaabSMove
set_option linter.unusedVariables false
set_option linter.unusedSimpArgs false
namespace Go.Proofs.Ytedmkbiamjpdaab
open Go.RowKit

/-- A bank that was turned in place: the same rows, other numbers. -/
def RetTurn (w : World) (lo : Nat) (A1 A2 : Option Addr) (c1 c2 : Nat) (b : BankL) (ok : Bool) (e : Ending) (w' : World) : Prop :=
  e = .returned (.tuple #[.agg #[.slice A1 3 c1, .slice A2 3 c2, .int .i64 b.locked], .bool ok]) ∧ Row w' lo A1 3 b.own ∧ Row w' lo A2 3 b.notes ∧ Keeps (fun i => blk A1 3 i ∨ blk A2 3 i) w w'

theorem awayed_1 (xs ys : List Int) (L : Int) (u : Nat) (sm : Int) : awayed ⟨xs, ys, L⟩ 1 (u + 1) sm = ⟨xs.set u (xs.getD u 0 - sm), ys, L + sm⟩ := by
  simp only [awayed, lock, give, put, has, lst, if_true, ix]
  rfl
theorem awayed_2 (xs ys : List Int) (L : Int) (u : Nat) (sm : Int) : awayed ⟨xs, ys, L⟩ 2 (u + 1) sm = ⟨xs, ys.set u (ys.getD u 0 - sm), L⟩ := by
  have h : ¬ (2 : Int) = 1 := by omega
  simp only [awayed, lock, give, put, has, lst, if_neg h, ix]
  rfl
theorem backed_1 (xs ys : List Int) (L : Int) (u : Nat) (sm : Int) : backed ⟨xs, ys, L⟩ 1 (u + 1) sm = ⟨xs.set u (xs.getD u 0 + sm), ys, L - sm⟩ := by
  simp only [backed, lock, give, put, has, lst, if_true, ix]
  rfl
theorem backed_2 (xs ys : List Int) (L : Int) (u : Nat) (sm : Int) : backed ⟨xs, ys, L⟩ 2 (u + 1) sm = ⟨xs, ys.set u (ys.getD u 0 + sm), L⟩ := by
  have h : ¬ (2 : Int) = 1 := by omega
  simp only [backed, lock, give, put, has, lst, if_neg h, ix]

set_option maxHeartbeats 1000000 in
theorem l1Away_ok_1 (A1 A2 : Option Addr) (c1 c2 lo : Nat) (L : Int) (xs ys : List Int) (w : World) (hr1 : Row w lo A1 3 xs) (hr2 : Row w lo A2 3 ys) (hd : ∀ i, blk A1 3 i → ¬ blk A2 3 i)
    (u : Nat) (sm : Int) (q1 : okB ⟨xs, ys, L⟩ = true) (q3 : userB ((u : Int) + 1) = true) (hs0 : 0 ≤ sm) (hs1 : sm ≤ 1000) (q6 : sm ≤ xs.getD u 0) :
    Calls Try.prog 36 #[.agg #[.slice A1 3 c1, .slice A2 3 c2, .int .i64 L], .int .i64 1, .int .i64 ((u : Int) + 1), .int .i64 sm] w (RetTurn w lo A1 A2 c1 c2 (awayed ⟨xs, ys, L⟩ 1 (u + 1) sm) true) := by
  have hu := user_range q3
  have hun : (u : Int) < 3 := by omega
  have hx : 0 ≤ xs.getD u 0 ∧ xs.getD u 0 ≤ 30 := by simpa [has, lst, ix] using has_bounds q1 1 ((u : Int) + 1)
  have hLb := locked_bounds q1
  dsimp only at hLb
  have HM : Hid (awayed ⟨xs, ys, L⟩ 1 (u + 1) sm = ⟨xs.set u (xs.getD u 0 - sm), ys, L + sm⟩) := by
    show _ = _
    exact awayed_1 xs ys L u sm
  rw [HM.out]
  obtain ⟨g, og, e1, hgl, hg, hc, hf⟩ := hr1.at_ (k := u) (by omega)
  subst e1
  have hrs := hr1.set_ (k := u) (by omega) (xs.getD u 0 - sm)
  have HRS := Lib.hid hrs
  clear hrs HM
  have d6 : decide (xs.getD u 0 < sm) = false := by simpa using q6
  have hg1 : g < w.heap.size + 1 := by omega
  have hg2 : g < w.heap.size + 1 + 1 := by omega
  have HR1 := Lib.hid hr1
  have HR2 := Lib.hid hr2
  have HD := Lib.hid hd
  clear hr1 hr2 hd
  generalize xs.getD u 0 = x at *
  go_enter Try.func36, Try.ntmps36
  go_wp2_with fail
  refine (l1List_own _ _ 3 3 _ _ L _).mono ?_
  rintro e w' ⟨rfl, rfl⟩
  go_wp2
  refine bodyPost_ret (v := .tuple #[.agg #[.slice (some ⟨g, og, none⟩) 3 c1, .slice A2 3 c2, .int .i64 (L + sm)], .bool true]) (by simp [results, Try.results36, go_sem]) rfl ?_
  refine ⟨rfl, ((HRS.out.alloc _).alloc _).alloc _, (((HR2.out.keeps ((Keeps.refl (one g) w).set1 (og + u) (.int .i64 (x - sm))) fun i hi h => HD.out i (h ▸ blk_mk (by omega)) hi).alloc _).alloc _).alloc _, ?_⟩
  exact ((((Keeps.refl _ w).setCell (p := ⟨g, og + u, none⟩) (.inr (.inl (blk_mk (by omega)))) _).alloc _).alloc _).alloc _

set_option maxHeartbeats 1000000 in
theorem l1Away_no_1 (A1 A2 : Option Addr) (c1 c2 lo : Nat) (L : Int) (xs ys : List Int) (w : World) (hr1 : Row w lo A1 3 xs) (hr2 : Row w lo A2 3 ys) (hd : ∀ i, blk A1 3 i → ¬ blk A2 3 i)
    (u : Nat) (sm : Int) (q1 : okB ⟨xs, ys, L⟩ = true) (q3 : userB ((u : Int) + 1) = true) (hs0 : 0 ≤ sm) (hs1 : sm ≤ 1000) (q6 : xs.getD u 0 < sm) :
    Calls Try.prog 36 #[.agg #[.slice A1 3 c1, .slice A2 3 c2, .int .i64 L], .int .i64 1, .int .i64 ((u : Int) + 1), .int .i64 sm] w (RetTurn w lo A1 A2 c1 c2 ⟨xs, ys, L⟩ false) := by
  have hu := user_range q3
  have hun : (u : Int) < 3 := by omega
  have hx : 0 ≤ xs.getD u 0 ∧ xs.getD u 0 ≤ 30 := by simpa [has, lst, ix] using has_bounds q1 1 ((u : Int) + 1)
  have hLb := locked_bounds q1
  dsimp only at hLb
  obtain ⟨g, og, e1, hgl, hg, hc, hf⟩ := hr1.at_ (k := u) (by omega)
  subst e1
  have d6 : decide (xs.getD u 0 < sm) = true := by simpa using q6
  have hg1 : g < w.heap.size + 1 := by omega
  have hg2 : g < w.heap.size + 1 + 1 := by omega
  have HR1 := Lib.hid hr1
  have HR2 := Lib.hid hr2
  have HD := Lib.hid hd
  clear hr1 hr2 hd
  generalize xs.getD u 0 = x at *
  go_enter Try.func36, Try.ntmps36
  go_wp2_with fail
  refine (l1List_own _ _ 3 3 _ _ L _).mono ?_
  rintro e w' ⟨rfl, rfl⟩
  go_wp2
  refine bodyPost_ret (v := .tuple #[.agg #[.slice (some ⟨g, og, none⟩) 3 c1, .slice A2 3 c2, .int .i64 (L)], .bool false]) (by simp [results, Try.results36, go_sem]) rfl ?_
  exact ⟨rfl, ((HR1.out.alloc _).alloc _).alloc _, ((HR2.out.alloc _).alloc _).alloc _, (((Keeps.refl _ _).alloc _).alloc _).alloc _⟩

set_option maxHeartbeats 1000000 in
theorem l1Away_ok_2 (A1 A2 : Option Addr) (c1 c2 lo : Nat) (L : Int) (xs ys : List Int) (w : World) (hr1 : Row w lo A1 3 xs) (hr2 : Row w lo A2 3 ys) (hd : ∀ i, blk A1 3 i → ¬ blk A2 3 i)
    (u : Nat) (sm : Int) (q1 : okB ⟨xs, ys, L⟩ = true) (q3 : userB ((u : Int) + 1) = true) (hs0 : 0 ≤ sm) (hs1 : sm ≤ 1000) (q6 : sm ≤ ys.getD u 0) :
    Calls Try.prog 36 #[.agg #[.slice A1 3 c1, .slice A2 3 c2, .int .i64 L], .int .i64 2, .int .i64 ((u : Int) + 1), .int .i64 sm] w (RetTurn w lo A1 A2 c1 c2 (awayed ⟨xs, ys, L⟩ 2 (u + 1) sm) true) := by
  have hu := user_range q3
  have hun : (u : Int) < 3 := by omega
  have hx : 0 ≤ ys.getD u 0 ∧ ys.getD u 0 ≤ 30 := by simpa [has, lst, ix] using has_bounds q1 2 ((u : Int) + 1)
  have hLb := locked_bounds q1
  dsimp only at hLb
  have HM : Hid (awayed ⟨xs, ys, L⟩ 2 (u + 1) sm = ⟨xs, ys.set u (ys.getD u 0 - sm), L⟩) := by
    show _ = _
    exact awayed_2 xs ys L u sm
  rw [HM.out]
  obtain ⟨g, og, e1, hgl, hg, hc, hf⟩ := hr2.at_ (k := u) (by omega)
  subst e1
  have hrs := hr2.set_ (k := u) (by omega) (ys.getD u 0 - sm)
  have HRS := Lib.hid hrs
  clear hrs HM
  have d6 : decide (ys.getD u 0 < sm) = false := by simpa using q6
  have hg1 : g < w.heap.size + 1 := by omega
  have hg2 : g < w.heap.size + 1 + 1 := by omega
  have HR1 := Lib.hid hr1
  have HR2 := Lib.hid hr2
  have HD := Lib.hid hd
  clear hr1 hr2 hd
  generalize ys.getD u 0 = x at *
  go_enter Try.func36, Try.ntmps36
  go_wp2_with fail
  refine (l1List_note _ _ 3 3 _ _ L _).mono ?_
  rintro e w' ⟨rfl, rfl⟩
  go_wp2
  refine bodyPost_ret (v := .tuple #[.agg #[.slice A1 3 c1, .slice (some ⟨g, og, none⟩) 3 c2, .int .i64 (L)], .bool true]) (by simp [results, Try.results36, go_sem]) rfl ?_
  refine ⟨rfl, (((HR1.out.keeps ((Keeps.refl (one g) w).set1 (og + u) (.int .i64 (x - sm))) fun i hi h => HD.out i hi (h ▸ blk_mk (by omega))).alloc _).alloc _).alloc _, ((HRS.out.alloc _).alloc _).alloc _, ?_⟩
  exact ((((Keeps.refl _ w).setCell (p := ⟨g, og + u, none⟩) (.inr (.inr (blk_mk (by omega)))) _).alloc _).alloc _).alloc _

set_option maxHeartbeats 1000000 in
theorem l1Away_no_2 (A1 A2 : Option Addr) (c1 c2 lo : Nat) (L : Int) (xs ys : List Int) (w : World) (hr1 : Row w lo A1 3 xs) (hr2 : Row w lo A2 3 ys) (hd : ∀ i, blk A1 3 i → ¬ blk A2 3 i)
    (u : Nat) (sm : Int) (q1 : okB ⟨xs, ys, L⟩ = true) (q3 : userB ((u : Int) + 1) = true) (hs0 : 0 ≤ sm) (hs1 : sm ≤ 1000) (q6 : ys.getD u 0 < sm) :
    Calls Try.prog 36 #[.agg #[.slice A1 3 c1, .slice A2 3 c2, .int .i64 L], .int .i64 2, .int .i64 ((u : Int) + 1), .int .i64 sm] w (RetTurn w lo A1 A2 c1 c2 ⟨xs, ys, L⟩ false) := by
  have hu := user_range q3
  have hun : (u : Int) < 3 := by omega
  have hx : 0 ≤ ys.getD u 0 ∧ ys.getD u 0 ≤ 30 := by simpa [has, lst, ix] using has_bounds q1 2 ((u : Int) + 1)
  have hLb := locked_bounds q1
  dsimp only at hLb
  obtain ⟨g, og, e1, hgl, hg, hc, hf⟩ := hr2.at_ (k := u) (by omega)
  subst e1
  have d6 : decide (ys.getD u 0 < sm) = true := by simpa using q6
  have hg1 : g < w.heap.size + 1 := by omega
  have hg2 : g < w.heap.size + 1 + 1 := by omega
  have HR1 := Lib.hid hr1
  have HR2 := Lib.hid hr2
  have HD := Lib.hid hd
  clear hr1 hr2 hd
  generalize ys.getD u 0 = x at *
  go_enter Try.func36, Try.ntmps36
  go_wp2_with fail
  refine (l1List_note _ _ 3 3 _ _ L _).mono ?_
  rintro e w' ⟨rfl, rfl⟩
  go_wp2
  refine bodyPost_ret (v := .tuple #[.agg #[.slice A1 3 c1, .slice (some ⟨g, og, none⟩) 3 c2, .int .i64 (L)], .bool false]) (by simp [results, Try.results36, go_sem]) rfl ?_
  exact ⟨rfl, ((HR1.out.alloc _).alloc _).alloc _, ((HR2.out.alloc _).alloc _).alloc _, (((Keeps.refl _ _).alloc _).alloc _).alloc _⟩

set_option maxHeartbeats 1000000 in
theorem l1Back_ok_1 (A1 A2 : Option Addr) (c1 c2 lo : Nat) (L : Int) (xs ys : List Int) (w : World) (hr1 : Row w lo A1 3 xs) (hr2 : Row w lo A2 3 ys) (hd : ∀ i, blk A1 3 i → ¬ blk A2 3 i)
    (u : Nat) (sm : Int) (q1 : okB ⟨xs, ys, L⟩ = true) (q3 : userB ((u : Int) + 1) = true) (hs0 : 0 ≤ sm) (hs1 : sm ≤ 1000) (q6 : sm ≤ L) :
    Calls Try.prog 17 #[.agg #[.slice A1 3 c1, .slice A2 3 c2, .int .i64 L], .int .i64 1, .int .i64 ((u : Int) + 1), .int .i64 sm] w (RetTurn w lo A1 A2 c1 c2 (backed ⟨xs, ys, L⟩ 1 (u + 1) sm) true) := by
  have hu := user_range q3
  have hun : (u : Int) < 3 := by omega
  have hx : 0 ≤ xs.getD u 0 ∧ xs.getD u 0 ≤ 30 := by simpa [has, lst, ix] using has_bounds q1 1 ((u : Int) + 1)
  have hLb := locked_bounds q1
  have hNb := notes_bounds q1
  have HS2 := Lib.hid (lst_small q1 2)
  simp only [lst] at HS2
  dsimp only at hLb hNb
  have HM : Hid (backed ⟨xs, ys, L⟩ 1 (u + 1) sm = ⟨xs.set u (xs.getD u 0 + sm), ys, L - sm⟩) := by
    show _ = _
    exact backed_1 xs ys L u sm
  rw [HM.out]
  obtain ⟨g, og, e1, hgl, hg, hc, hf⟩ := hr1.at_ (k := u) (by omega)
  subst e1
  have hrs := hr1.set_ (k := u) (by omega) (xs.getD u 0 + sm)
  have HRS := Lib.hid hrs
  clear hrs HM
  have d6 : decide (L < sm) = false := by simp; omega
  have hg1 : g < w.heap.size + 1 := by omega
  have hg2 : g < w.heap.size + 1 + 1 := by omega
  have HR1 := Lib.hid hr1
  have HR2 := Lib.hid hr2
  have HD := Lib.hid hd
  clear hr1 hr2 hd
  generalize xs.getD u 0 = x at *
  go_enter Try.func17, Try.ntmps17
  go_wp2_with fail
  refine (l1List_own _ _ 3 3 _ _ L _).mono ?_
  rintro e w' ⟨rfl, rfl⟩
  go_wp2
  refine bodyPost_ret (v := .tuple #[.agg #[.slice (some ⟨g, og, none⟩) 3 c1, .slice A2 3 c2, .int .i64 (L - sm)], .bool true]) (by simp [results, Try.results17, go_sem]) rfl ?_
  refine ⟨rfl, ((HRS.out.alloc _).alloc _).alloc _, (((HR2.out.keeps ((Keeps.refl (one g) w).set1 (og + u) (.int .i64 (x + sm))) fun i hi h => HD.out i (h ▸ blk_mk (by omega)) hi).alloc _).alloc _).alloc _, ?_⟩
  exact ((((Keeps.refl _ w).setCell (p := ⟨g, og + u, none⟩) (.inr (.inl (blk_mk (by omega)))) _).alloc _).alloc _).alloc _

set_option maxHeartbeats 1000000 in
theorem l1Back_no_1 (A1 A2 : Option Addr) (c1 c2 lo : Nat) (L : Int) (xs ys : List Int) (w : World) (hr1 : Row w lo A1 3 xs) (hr2 : Row w lo A2 3 ys) (hd : ∀ i, blk A1 3 i → ¬ blk A2 3 i)
    (u : Nat) (sm : Int) (q1 : okB ⟨xs, ys, L⟩ = true) (q3 : userB ((u : Int) + 1) = true) (hs0 : 0 ≤ sm) (hs1 : sm ≤ 1000) (q6 : L < sm) :
    Calls Try.prog 17 #[.agg #[.slice A1 3 c1, .slice A2 3 c2, .int .i64 L], .int .i64 1, .int .i64 ((u : Int) + 1), .int .i64 sm] w (RetTurn w lo A1 A2 c1 c2 ⟨xs, ys, L⟩ false) := by
  have hu := user_range q3
  have hun : (u : Int) < 3 := by omega
  have hx : 0 ≤ xs.getD u 0 ∧ xs.getD u 0 ≤ 30 := by simpa [has, lst, ix] using has_bounds q1 1 ((u : Int) + 1)
  have hLb := locked_bounds q1
  have hNb := notes_bounds q1
  have HS2 := Lib.hid (lst_small q1 2)
  simp only [lst] at HS2
  dsimp only at hLb hNb
  obtain ⟨g, og, e1, hgl, hg, hc, hf⟩ := hr1.at_ (k := u) (by omega)
  subst e1
  have d6 : decide (L < sm) = true := by simp; omega
  have hg1 : g < w.heap.size + 1 := by omega
  have hg2 : g < w.heap.size + 1 + 1 := by omega
  have HR1 := Lib.hid hr1
  have HR2 := Lib.hid hr2
  have HD := Lib.hid hd
  clear hr1 hr2 hd
  generalize xs.getD u 0 = x at *
  go_enter Try.func17, Try.ntmps17
  go_wp2
  refine bodyPost_ret (v := .tuple #[.agg #[.slice (some ⟨g, og, none⟩) 3 c1, .slice A2 3 c2, .int .i64 (L)], .bool false]) (by simp [results, Try.results17, go_sem]) rfl ?_
  exact ⟨rfl, (HR1.out.alloc _).alloc _, (HR2.out.alloc _).alloc _, ((Keeps.refl _ _).alloc _).alloc _⟩

set_option maxHeartbeats 1000000 in
theorem l1Back_ok_2 (A1 A2 : Option Addr) (c1 c2 lo : Nat) (L : Int) (xs ys : List Int) (w : World) (hr1 : Row w lo A1 3 xs) (hr2 : Row w lo A2 3 ys) (hd : ∀ i, blk A1 3 i → ¬ blk A2 3 i)
    (u : Nat) (sm : Int) (q1 : okB ⟨xs, ys, L⟩ = true) (q3 : userB ((u : Int) + 1) = true) (hs0 : 0 ≤ sm) (hs1 : sm ≤ 1000) (q6 : sumL ys + sm ≤ 30) :
    Calls Try.prog 17 #[.agg #[.slice A1 3 c1, .slice A2 3 c2, .int .i64 L], .int .i64 2, .int .i64 ((u : Int) + 1), .int .i64 sm] w (RetTurn w lo A1 A2 c1 c2 (backed ⟨xs, ys, L⟩ 2 (u + 1) sm) true) := by
  have hu := user_range q3
  have hun : (u : Int) < 3 := by omega
  have hx : 0 ≤ ys.getD u 0 ∧ ys.getD u 0 ≤ 30 := by simpa [has, lst, ix] using has_bounds q1 2 ((u : Int) + 1)
  have hLb := locked_bounds q1
  have hNb := notes_bounds q1
  have HS2 := Lib.hid (lst_small q1 2)
  simp only [lst] at HS2
  dsimp only at hLb hNb
  have HM : Hid (backed ⟨xs, ys, L⟩ 2 (u + 1) sm = ⟨xs, ys.set u (ys.getD u 0 + sm), L⟩) := by
    show _ = _
    exact backed_2 xs ys L u sm
  rw [HM.out]
  obtain ⟨g, og, e1, hgl, hg, hc, hf⟩ := hr2.at_ (k := u) (by omega)
  subst e1
  have hrs := hr2.set_ (k := u) (by omega) (ys.getD u 0 + sm)
  have HRS := Lib.hid hrs
  clear hrs HM
  have d6 : decide (30 < sumL ys + sm) = false := by simp; omega
  have hg1 : g < w.heap.size + 1 := by omega
  have hg2 : g < w.heap.size + 1 + 1 := by omega
  have HR1 := Lib.hid hr1
  have HR2 := Lib.hid hr2
  have HD := Lib.hid hd
  clear hr1 hr2 hd
  generalize ys.getD u 0 = x at *
  go_enter Try.func17, Try.ntmps17
  go_wp2_with fail
  refine (specAll_any _ 3 _ ys _ (((HR2.out.alloc _).alloc _).ints) HS2.out (by omega)).mono ?_
  rintro e w' ⟨rfl, rfl⟩
  go_wp2_with fail
  refine (l1List_note _ _ 3 3 _ _ L _).mono ?_
  rintro e w' ⟨rfl, rfl⟩
  go_wp2
  refine bodyPost_ret (v := .tuple #[.agg #[.slice A1 3 c1, .slice (some ⟨g, og, none⟩) 3 c2, .int .i64 (L)], .bool true]) (by simp [results, Try.results17, go_sem]) rfl ?_
  refine ⟨rfl, (((HR1.out.keeps ((Keeps.refl (one g) w).set1 (og + u) (.int .i64 (x + sm))) fun i hi h => HD.out i hi (h ▸ blk_mk (by omega))).alloc _).alloc _).alloc _, ((HRS.out.alloc _).alloc _).alloc _, ?_⟩
  exact ((((Keeps.refl _ w).setCell (p := ⟨g, og + u, none⟩) (.inr (.inr (blk_mk (by omega)))) _).alloc _).alloc _).alloc _

set_option maxHeartbeats 1000000 in
theorem l1Back_no_2 (A1 A2 : Option Addr) (c1 c2 lo : Nat) (L : Int) (xs ys : List Int) (w : World) (hr1 : Row w lo A1 3 xs) (hr2 : Row w lo A2 3 ys) (hd : ∀ i, blk A1 3 i → ¬ blk A2 3 i)
    (u : Nat) (sm : Int) (q1 : okB ⟨xs, ys, L⟩ = true) (q3 : userB ((u : Int) + 1) = true) (hs0 : 0 ≤ sm) (hs1 : sm ≤ 1000) (q6 : 30 < sumL ys + sm) :
    Calls Try.prog 17 #[.agg #[.slice A1 3 c1, .slice A2 3 c2, .int .i64 L], .int .i64 2, .int .i64 ((u : Int) + 1), .int .i64 sm] w (RetTurn w lo A1 A2 c1 c2 ⟨xs, ys, L⟩ false) := by
  have hu := user_range q3
  have hun : (u : Int) < 3 := by omega
  have hx : 0 ≤ ys.getD u 0 ∧ ys.getD u 0 ≤ 30 := by simpa [has, lst, ix] using has_bounds q1 2 ((u : Int) + 1)
  have hLb := locked_bounds q1
  have hNb := notes_bounds q1
  have HS2 := Lib.hid (lst_small q1 2)
  simp only [lst] at HS2
  dsimp only at hLb hNb
  obtain ⟨g, og, e1, hgl, hg, hc, hf⟩ := hr2.at_ (k := u) (by omega)
  subst e1
  have d6 : decide (30 < sumL ys + sm) = true := by simp; omega
  have hg1 : g < w.heap.size + 1 := by omega
  have hg2 : g < w.heap.size + 1 + 1 := by omega
  have HR1 := Lib.hid hr1
  have HR2 := Lib.hid hr2
  have HD := Lib.hid hd
  clear hr1 hr2 hd
  generalize ys.getD u 0 = x at *
  go_enter Try.func17, Try.ntmps17
  go_wp2_with fail
  refine (specAll_any _ 3 _ ys _ (((HR2.out.alloc _).alloc _).ints) HS2.out (by omega)).mono ?_
  rintro e w' ⟨rfl, rfl⟩
  go_wp2
  refine bodyPost_ret (v := .tuple #[.agg #[.slice A1 3 c1, .slice (some ⟨g, og, none⟩) 3 c2, .int .i64 (L)], .bool false]) (by simp [results, Try.results17, go_sem]) rfl ?_
  exact ⟨rfl, (HR1.out.alloc _).alloc _, (HR2.out.alloc _).alloc _, ((Keeps.refl _ _).alloc _).alloc _⟩

/-- Whatever the sum: the bank turned, or as it was. -/
def turnA (b : BankL) (k f s : Int) : BankL := if s ≤ has b k f then awayed b k f s else b
def turnB (b : BankL) (k t s : Int) : BankL := if s ≤ room b k then backed b k t s else b

theorem l1Away_any (A1 A2 : Option Addr) (c1 c2 lo : Nat) (L : Int) (xs ys : List Int) (w : World) (hr1 : Row w lo A1 3 xs) (hr2 : Row w lo A2 3 ys) (hd : ∀ i, blk A1 3 i → ¬ blk A2 3 i)
    (kd f sm : Int) (q1 : okB ⟨xs, ys, L⟩ = true) (q2 : kindB kd = true) (q3 : userB f = true) (hs0 : 0 ≤ sm) (hs1 : sm ≤ 1000) :
    Calls Try.prog 36 #[.agg #[.slice A1 3 c1, .slice A2 3 c2, .int .i64 L], .int .i64 kd, .int .i64 f, .int .i64 sm] w (RetTurn w lo A1 A2 c1 c2 (turnA ⟨xs, ys, L⟩ kd f sm) (decide (sm ≤ has ⟨xs, ys, L⟩ kd f))) := by
  obtain ⟨u, rfl⟩ := nat_of_user q3
  by_cases h : sm ≤ has ⟨xs, ys, L⟩ kd ((u : Int) + 1)
  · rw [turnA, if_pos h, decide_eq_true h]
    rcases kind_cases q2 with rfl | rfl
    · exact l1Away_ok_1 A1 A2 c1 c2 lo L xs ys w hr1 hr2 hd u sm q1 q3 hs0 hs1 (by simpa [has, lst, ix] using h)
    · exact l1Away_ok_2 A1 A2 c1 c2 lo L xs ys w hr1 hr2 hd u sm q1 q3 hs0 hs1 (by simpa [has, lst, ix] using h)
  · rw [turnA, if_neg h, decide_eq_false h]
    rcases kind_cases q2 with rfl | rfl
    · exact l1Away_no_1 A1 A2 c1 c2 lo L xs ys w hr1 hr2 hd u sm q1 q3 hs0 hs1 (by simpa [has, lst, ix] using h)
    · exact l1Away_no_2 A1 A2 c1 c2 lo L xs ys w hr1 hr2 hd u sm q1 q3 hs0 hs1 (by simpa [has, lst, ix] using h)

theorem l1Back_any (A1 A2 : Option Addr) (c1 c2 lo : Nat) (L : Int) (xs ys : List Int) (w : World) (hr1 : Row w lo A1 3 xs) (hr2 : Row w lo A2 3 ys) (hd : ∀ i, blk A1 3 i → ¬ blk A2 3 i)
    (kd f sm : Int) (q1 : okB ⟨xs, ys, L⟩ = true) (q2 : kindB kd = true) (q3 : userB f = true) (hs0 : 0 ≤ sm) (hs1 : sm ≤ 1000) :
    Calls Try.prog 17 #[.agg #[.slice A1 3 c1, .slice A2 3 c2, .int .i64 L], .int .i64 kd, .int .i64 f, .int .i64 sm] w (RetTurn w lo A1 A2 c1 c2 (turnB ⟨xs, ys, L⟩ kd f sm) (decide (sm ≤ room ⟨xs, ys, L⟩ kd))) := by
  obtain ⟨u, rfl⟩ := nat_of_user q3
  by_cases h : sm ≤ room ⟨xs, ys, L⟩ kd
  · rw [turnB, if_pos h, decide_eq_true h]
    rcases kind_cases q2 with rfl | rfl
    · exact l1Back_ok_1 A1 A2 c1 c2 lo L xs ys w hr1 hr2 hd u sm q1 q3 hs0 hs1 (by simpa [room] using h)
    · exact l1Back_ok_2 A1 A2 c1 c2 lo L xs ys w hr1 hr2 hd u sm q1 q3 hs0 hs1 (by simp [room] at h; omega)
  · rw [turnB, if_neg h, decide_eq_false h]
    rcases kind_cases q2 with rfl | rfl
    · exact l1Back_no_1 A1 A2 c1 c2 lo L xs ys w hr1 hr2 hd u sm q1 q3 hs0 hs1 (by simpa [room] using h)
    · exact l1Back_no_2 A1 A2 c1 c2 lo L xs ys w hr1 hr2 hd u sm q1 q3 hs0 hs1 (by simp [room] at h; omega)

end Go.Proofs.Ytedmkbiamjpdaab
