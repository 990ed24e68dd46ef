/- spec.PacketOk answers pkB. -/
import Derived.Test.YtifocngajndnnaaDoorPk0
set_option linter.unusedVariables false
set_option linter.unusedSimpArgs false
namespace Go.Proofs.YtifocngajndnnaaDoor
open Go.RowKit

set_option maxHeartbeats 2000000 in
theorem specPk_any (s k f t m u v : Int) (w : World) : Calls Tryd.prog 72 #[.agg #[.int .i64 s, .int .i64 k, .int .i64 f, .int .i64 t, .int .i64 m, .int .i64 u, .int .i64 v]] w fun e w' => e = .returned (.bool (pkB s k f t m u v)) ∧ Keeps noBlk w w' := by
  rcases Bool.eq_false_or_eq_true (in2 s 1 8) with h0 | h0
  · rcases Bool.eq_false_or_eq_true (in2 k 1 2) with h1 | h1
    · rcases Bool.eq_false_or_eq_true (in2 f 1 3) with h2 | h2
      · rcases Bool.eq_false_or_eq_true (in2 t 0 3) with h3 | h3
        · rcases Bool.eq_false_or_eq_true (in2 m 1 9) with h4 | h4
          · rcases Bool.eq_false_or_eq_true (in2 u 1 90) with h5 | h5
            · rcases Bool.eq_false_or_eq_true (in2 v 1 9) with h6 | h6
              · have HF := Lib.hid (pkB_yes h0 h1 h2 h3 h4 h5 h6)
                go_enter Tryd.func72, Tryd.ntmps72
                go_wp2_with (first | (go_at_call 71; refine (l6In_any _ _ _ _).mono ?_; rintro e w' ⟨rfl, rfl⟩) | (go_at_call 95; refine (l1User_any _ _).mono ?_; rintro e w' ⟨rfl, rfl⟩))
                go_ret
                exact ⟨by simp [HF.out], (Keeps.refl _ _).alloc _⟩
              · have HF := Lib.hid ((pkB_no6 h6 : pkB s k f t m u v = false))
                go_enter Tryd.func72, Tryd.ntmps72
                go_wp2_with (first | (go_at_call 71; refine (l6In_any _ _ _ _).mono ?_; rintro e w' ⟨rfl, rfl⟩) | (go_at_call 95; refine (l1User_any _ _).mono ?_; rintro e w' ⟨rfl, rfl⟩))
                go_ret
                exact ⟨by simp [HF.out], (Keeps.refl _ _).alloc _⟩
            · have HF := Lib.hid ((pkB_no5 h5 : pkB s k f t m u v = false))
              go_enter Tryd.func72, Tryd.ntmps72
              go_wp2_with (first | (go_at_call 71; refine (l6In_any _ _ _ _).mono ?_; rintro e w' ⟨rfl, rfl⟩) | (go_at_call 95; refine (l1User_any _ _).mono ?_; rintro e w' ⟨rfl, rfl⟩))
              go_ret
              exact ⟨by simp [HF.out], (Keeps.refl _ _).alloc _⟩
          · have HF := Lib.hid ((pkB_no4 h4 : pkB s k f t m u v = false))
            go_enter Tryd.func72, Tryd.ntmps72
            go_wp2_with (first | (go_at_call 71; refine (l6In_any _ _ _ _).mono ?_; rintro e w' ⟨rfl, rfl⟩) | (go_at_call 95; refine (l1User_any _ _).mono ?_; rintro e w' ⟨rfl, rfl⟩))
            go_ret
            exact ⟨by simp [HF.out], (Keeps.refl _ _).alloc _⟩
        · have HF := Lib.hid ((pkB_no3 h3 : pkB s k f t m u v = false))
          go_enter Tryd.func72, Tryd.ntmps72
          go_wp2_with (first | (go_at_call 71; refine (l6In_any _ _ _ _).mono ?_; rintro e w' ⟨rfl, rfl⟩) | (go_at_call 95; refine (l1User_any _ _).mono ?_; rintro e w' ⟨rfl, rfl⟩))
          go_ret
          exact ⟨by simp [HF.out], (Keeps.refl _ _).alloc _⟩
      · have HF := Lib.hid ((pkB_no2 h2 : pkB s k f t m u v = false))
        go_enter Tryd.func72, Tryd.ntmps72
        go_wp2_with (first | (go_at_call 71; refine (l6In_any _ _ _ _).mono ?_; rintro e w' ⟨rfl, rfl⟩) | (go_at_call 95; refine (l1User_any _ _).mono ?_; rintro e w' ⟨rfl, rfl⟩))
        go_ret
        exact ⟨by simp [HF.out], (Keeps.refl _ _).alloc _⟩
    · have HF := Lib.hid ((pkB_no1 h1 : pkB s k f t m u v = false))
      go_enter Tryd.func72, Tryd.ntmps72
      go_wp2_with (first | (go_at_call 71; refine (l6In_any _ _ _ _).mono ?_; rintro e w' ⟨rfl, rfl⟩) | (go_at_call 95; refine (l1User_any _ _).mono ?_; rintro e w' ⟨rfl, rfl⟩))
      go_ret
      exact ⟨by simp [HF.out], (Keeps.refl _ _).alloc _⟩
  · have HF := Lib.hid ((pkB_no0 h0 : pkB s k f t m u v = false))
    go_enter Tryd.func72, Tryd.ntmps72
    go_wp2_with (first | (go_at_call 71; refine (l6In_any _ _ _ _).mono ?_; rintro e w' ⟨rfl, rfl⟩) | (go_at_call 95; refine (l1User_any _ _).mono ?_; rintro e w' ⟨rfl, rfl⟩))
    go_ret
    exact ⟨by simp [HF.out], (Keeps.refl _ _).alloc _⟩
end Go.Proofs.YtifocngajndnnaaDoor
