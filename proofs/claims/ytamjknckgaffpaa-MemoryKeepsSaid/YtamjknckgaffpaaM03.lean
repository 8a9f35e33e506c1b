/- Contracts of layer 3: the program's functions on addresses. -/
import Derived.Test.YtamjknckgaffpaaP03b
set_option linter.unusedSimpArgs false
set_option linter.unusedVariables false
namespace Go.Proofs.Ytamjknckgaffpaa
open Go.ChangeShapes Go.WideShapes Go.ChangeAt Go.RowKit
theorem mwithin_yes (n m : Int) (h : 0 ≤ n ∧ n < m) (w : World) : Calls Try.prog 36 #[.int .i64 n, .int .i64 m] w fun e w' => e = .returned (.bool true) ∧ w = w' := by
  obtain ⟨h0, h1⟩ := h
  go_enter Try.func36, Try.ntmps36
  go_wp2
  go_ret
  exact ⟨rfl, rfl⟩
theorem mwithin_no (n m : Int) (h : ¬ (0 ≤ n ∧ n < m)) (w : World) : Calls Try.prog 36 #[.int .i64 n, .int .i64 m] w fun e w' => e = .returned (.bool false) ∧ w = w' := by
  by_cases h0 : 0 ≤ n
  · have h1 : ¬ n < m := fun c => h ⟨h0, c⟩
    clear h
    go_enter Try.func36, Try.ntmps36
    go_wp2
    go_ret
    exact ⟨rfl, rfl⟩
  · clear h
    go_enter Try.func36, Try.ntmps36
    go_wp2
    go_ret
    exact ⟨rfl, rfl⟩
theorem selectable_yes (eb fb : Int) (h : 0 ≤ eb ∧ eb ≤ 7 ∧ 0 ≤ fb ∧ fb ≤ 35) (w : World) : Calls Try.prog 38 #[.int .i64 eb, .int .i64 fb] w fun e w' => e = .returned (.bool true) ∧ w = w' := by
  go_enter Try.func38, Try.ntmps38
  go_wp2_with (first | (go_at_call 36; refine (mwithin_yes _ _ (by omega) _).mono ?_; rintro e w1 ⟨rfl, rfl⟩))
  go_ret
  exact ⟨rfl, rfl⟩
theorem selectable_no (eb fb : Int) (h : ¬ (0 ≤ eb ∧ eb ≤ 7 ∧ 0 ≤ fb ∧ fb ≤ 35)) (w : World) : Calls Try.prog 38 #[.int .i64 eb, .int .i64 fb] w fun e w' => e = .returned (.bool false) ∧ w = w' := by
  by_cases h0 : 0 ≤ eb ∧ eb ≤ 7
  · go_enter Try.func38, Try.ntmps38
    go_wp2_with (first | (go_at_call 36; refine (mwithin_yes _ _ (by omega) _).mono ?_; rintro e w1 ⟨rfl, rfl⟩) | (go_at_call 36; refine (mwithin_no _ _ (by omega) _).mono ?_; rintro e w1 ⟨rfl, rfl⟩))
    go_ret
    exact ⟨rfl, rfl⟩
  · go_enter Try.func38, Try.ntmps38
    go_wp2_with (first | (go_at_call 36; refine (mwithin_no _ _ (by omega) _).mono ?_; rintro e w1 ⟨rfl, rfl⟩))
    go_ret
    exact ⟨rfl, rfl⟩
set_option maxHeartbeats 2000000 in
theorem Bank_any (fb su : Int) (f0 : -9223372036854775808 ≤ fb) (f1 : fb ≤ 9223372036854775807) (s0 : -9223372036854775808 ≤ su) (s1 : su ≤ 9223372036854775807) (w : World) :
    Calls Try.prog 10 #[.int .i64 fb, .int .i64 su] w fun e w' => e = .returned (.tuple #[.int .i64 (mBankV fb su), .int .i64 (mBankE fb su)]) ∧ w = w' := by
  by_cases hc0 : 0 ≤ fb
  · by_cases hc1 : fb ≤ 31
    · by_cases hc2 : 0 ≤ su
      · by_cases hc3 : su ≤ 7
        · by_cases hc4 : 24 ≤ fb
          · by_cases hc5 : 4 ≤ su
            · by_cases hc6 : fb ≤ 27
              · go_enter Try.func10, Try.ntmps10
                go_wp2_with (first | (go_at_call 36; refine (mwithin_yes _ _ (by omega) _).mono ?_; rintro e w1 ⟨rfl, rfl⟩) | (go_at_call 36; refine (mwithin_no _ _ (by omega) _).mono ?_; rintro e w1 ⟨rfl, rfl⟩))
                go_ret2
                exact ⟨ret_tup2 (by unfold mBankV; repeat (first | rfl | omega | rw [if_pos (by omega)] | rw [if_neg (by omega)])) (by unfold mBankE; repeat (first | rfl | omega | rw [if_pos (by omega)] | rw [if_neg (by omega)])), rfl⟩
              · go_enter Try.func10, Try.ntmps10
                go_wp2_with (first | (go_at_call 36; refine (mwithin_yes _ _ (by omega) _).mono ?_; rintro e w1 ⟨rfl, rfl⟩) | (go_at_call 36; refine (mwithin_no _ _ (by omega) _).mono ?_; rintro e w1 ⟨rfl, rfl⟩))
                go_ret2
                exact ⟨ret_tup2 (by unfold mBankV; repeat (first | rfl | omega | rw [if_pos (by omega)] | rw [if_neg (by omega)])) (by unfold mBankE; repeat (first | rfl | omega | rw [if_pos (by omega)] | rw [if_neg (by omega)])), rfl⟩
            · go_enter Try.func10, Try.ntmps10
              go_wp2_with (first | (go_at_call 36; refine (mwithin_yes _ _ (by omega) _).mono ?_; rintro e w1 ⟨rfl, rfl⟩) | (go_at_call 36; refine (mwithin_no _ _ (by omega) _).mono ?_; rintro e w1 ⟨rfl, rfl⟩))
              go_ret2
              exact ⟨ret_tup2 (by unfold mBankV; repeat (first | rfl | omega | rw [if_pos (by omega)] | rw [if_neg (by omega)])) (by unfold mBankE; repeat (first | rfl | omega | rw [if_pos (by omega)] | rw [if_neg (by omega)])), rfl⟩
          · go_enter Try.func10, Try.ntmps10
            go_wp2_with (first | (go_at_call 36; refine (mwithin_yes _ _ (by omega) _).mono ?_; rintro e w1 ⟨rfl, rfl⟩) | (go_at_call 36; refine (mwithin_no _ _ (by omega) _).mono ?_; rintro e w1 ⟨rfl, rfl⟩))
            go_ret2
            exact ⟨ret_tup2 (by unfold mBankV; repeat (first | rfl | omega | rw [if_pos (by omega)] | rw [if_neg (by omega)])) (by unfold mBankE; repeat (first | rfl | omega | rw [if_pos (by omega)] | rw [if_neg (by omega)])), rfl⟩
        · go_enter Try.func10, Try.ntmps10
          go_wp2_with (first | (go_at_call 36; refine (mwithin_yes _ _ (by omega) _).mono ?_; rintro e w1 ⟨rfl, rfl⟩) | (go_at_call 36; refine (mwithin_no _ _ (by omega) _).mono ?_; rintro e w1 ⟨rfl, rfl⟩))
          go_ret2
          exact ⟨ret_tup2 (by unfold mBankV; repeat (first | rfl | omega | rw [if_pos (by omega)] | rw [if_neg (by omega)])) (by unfold mBankE; repeat (first | rfl | omega | rw [if_pos (by omega)] | rw [if_neg (by omega)])), rfl⟩
      · go_enter Try.func10, Try.ntmps10
        go_wp2_with (first | (go_at_call 36; refine (mwithin_yes _ _ (by omega) _).mono ?_; rintro e w1 ⟨rfl, rfl⟩) | (go_at_call 36; refine (mwithin_no _ _ (by omega) _).mono ?_; rintro e w1 ⟨rfl, rfl⟩))
        go_ret2
        exact ⟨ret_tup2 (by unfold mBankV; repeat (first | rfl | omega | rw [if_pos (by omega)] | rw [if_neg (by omega)])) (by unfold mBankE; repeat (first | rfl | omega | rw [if_pos (by omega)] | rw [if_neg (by omega)])), rfl⟩
    · go_enter Try.func10, Try.ntmps10
      go_wp2_with (first | (go_at_call 36; refine (mwithin_yes _ _ (by omega) _).mono ?_; rintro e w1 ⟨rfl, rfl⟩) | (go_at_call 36; refine (mwithin_no _ _ (by omega) _).mono ?_; rintro e w1 ⟨rfl, rfl⟩))
      go_ret2
      exact ⟨ret_tup2 (by unfold mBankV; repeat (first | rfl | omega | rw [if_pos (by omega)] | rw [if_neg (by omega)])) (by unfold mBankE; repeat (first | rfl | omega | rw [if_pos (by omega)] | rw [if_neg (by omega)])), rfl⟩
  · go_enter Try.func10, Try.ntmps10
    go_wp2_with (first | (go_at_call 36; refine (mwithin_yes _ _ (by omega) _).mono ?_; rintro e w1 ⟨rfl, rfl⟩) | (go_at_call 36; refine (mwithin_no _ _ (by omega) _).mono ?_; rintro e w1 ⟨rfl, rfl⟩))
    go_ret2
    exact ⟨ret_tup2 (by unfold mBankV; repeat (first | rfl | omega | rw [if_pos (by omega)] | rw [if_neg (by omega)])) (by unfold mBankE; repeat (first | rfl | omega | rw [if_pos (by omega)] | rw [if_neg (by omega)])), rfl⟩
set_option maxHeartbeats 2000000 in
theorem Absolute_any (k eb fb : Int) (k0 : -9223372036854775808 ≤ k) (k1 : k ≤ 9223372036854775807) (e0 : -9223372036854775808 ≤ eb) (e1 : eb ≤ 9223372036854775807) (f0 : -9223372036854775808 ≤ fb) (f1 : fb ≤ 9223372036854775807) (w : World) :
    Calls Try.prog 12 #[.int .i64 k, .int .i64 eb, .int .i64 fb] w fun e w' => e = .returned (.tuple #[.int .u8 (mAbsS k eb fb), .int .i64 (mAbsA k eb fb), .int .i64 (mAbsE k eb fb)]) ∧ w = w' := by
  by_cases hc0 : 0 ≤ k
  · by_cases hc1 : k ≤ 4095
    · by_cases hc2 : 0 ≤ eb
      · by_cases hc3 : eb ≤ 7
        · by_cases hc4 : 0 ≤ fb
          · by_cases hc5 : fb ≤ 35
            · by_cases hc6 : k ≤ 767
              · go_enter Try.func12, Try.ntmps12
                go_wp2_with (first | (go_at_call 36; refine (mwithin_yes _ _ (by omega) _).mono ?_; rintro e w1 ⟨rfl, rfl⟩) | (go_at_call 36; refine (mwithin_no _ _ (by omega) _).mono ?_; rintro e w1 ⟨rfl, rfl⟩) | (go_at_call 38; refine (selectable_yes _ _ (by omega) _).mono ?_; rintro e w1 ⟨rfl, rfl⟩) | (go_at_call 38; refine (selectable_no _ _ (by omega) _).mono ?_; rintro e w1 ⟨rfl, rfl⟩))
                go_ret3
                exact ⟨ret_tup3 (by unfold mAbsS; repeat (first | rfl | omega | rw [if_pos (by unfold mAbsOk; omega)] | rw [if_neg (by unfold mAbsOk; omega)] | rw [if_pos (by omega)] | rw [if_neg (by omega)])) (by unfold mAbsA; repeat (first | rfl | omega | rw [if_pos (by unfold mAbsOk; omega)] | rw [if_neg (by unfold mAbsOk; omega)] | rw [if_pos (by omega)] | rw [if_neg (by omega)])) (by unfold mAbsE; repeat (first | rfl | omega | rw [if_pos (by unfold mAbsOk; omega)] | rw [if_neg (by unfold mAbsOk; omega)])), rfl⟩
              · by_cases hc7 : k ≤ 1023
                · go_enter Try.func12, Try.ntmps12
                  go_wp2_with (first | (go_at_call 36; refine (mwithin_yes _ _ (by omega) _).mono ?_; rintro e w1 ⟨rfl, rfl⟩) | (go_at_call 36; refine (mwithin_no _ _ (by omega) _).mono ?_; rintro e w1 ⟨rfl, rfl⟩) | (go_at_call 38; refine (selectable_yes _ _ (by omega) _).mono ?_; rintro e w1 ⟨rfl, rfl⟩) | (go_at_call 38; refine (selectable_no _ _ (by omega) _).mono ?_; rintro e w1 ⟨rfl, rfl⟩))
                  go_ret3
                  exact ⟨ret_tup3 (by unfold mAbsS; repeat (first | rfl | omega | rw [if_pos (by unfold mAbsOk; omega)] | rw [if_neg (by unfold mAbsOk; omega)] | rw [if_pos (by omega)] | rw [if_neg (by omega)])) (by unfold mAbsA; repeat (first | rfl | omega | rw [if_pos (by unfold mAbsOk; omega)] | rw [if_neg (by unfold mAbsOk; omega)] | rw [if_pos (by omega)] | rw [if_neg (by omega)])) (by unfold mAbsE; repeat (first | rfl | omega | rw [if_pos (by unfold mAbsOk; omega)] | rw [if_neg (by unfold mAbsOk; omega)])), rfl⟩
                · by_cases hc8 : k ≤ 2047
                  · go_enter Try.func12, Try.ntmps12
                    go_wp2_with (first | (go_at_call 36; refine (mwithin_yes _ _ (by omega) _).mono ?_; rintro e w1 ⟨rfl, rfl⟩) | (go_at_call 36; refine (mwithin_no _ _ (by omega) _).mono ?_; rintro e w1 ⟨rfl, rfl⟩) | (go_at_call 38; refine (selectable_yes _ _ (by omega) _).mono ?_; rintro e w1 ⟨rfl, rfl⟩) | (go_at_call 38; refine (selectable_no _ _ (by omega) _).mono ?_; rintro e w1 ⟨rfl, rfl⟩))
                    go_ret3
                    exact ⟨ret_tup3 (by unfold mAbsS; repeat (first | rfl | omega | rw [if_pos (by unfold mAbsOk; omega)] | rw [if_neg (by unfold mAbsOk; omega)] | rw [if_pos (by omega)] | rw [if_neg (by omega)])) (by unfold mAbsA; repeat (first | rfl | omega | rw [if_pos (by unfold mAbsOk; omega)] | rw [if_neg (by unfold mAbsOk; omega)] | rw [if_pos (by omega)] | rw [if_neg (by omega)])) (by unfold mAbsE; repeat (first | rfl | omega | rw [if_pos (by unfold mAbsOk; omega)] | rw [if_neg (by unfold mAbsOk; omega)])), rfl⟩
                  · go_enter Try.func12, Try.ntmps12
                    go_wp2_with (first | (go_at_call 36; refine (mwithin_yes _ _ (by omega) _).mono ?_; rintro e w1 ⟨rfl, rfl⟩) | (go_at_call 36; refine (mwithin_no _ _ (by omega) _).mono ?_; rintro e w1 ⟨rfl, rfl⟩) | (go_at_call 38; refine (selectable_yes _ _ (by omega) _).mono ?_; rintro e w1 ⟨rfl, rfl⟩) | (go_at_call 38; refine (selectable_no _ _ (by omega) _).mono ?_; rintro e w1 ⟨rfl, rfl⟩))
                    go_ret3
                    exact ⟨ret_tup3 (by unfold mAbsS; repeat (first | rfl | omega | rw [if_pos (by unfold mAbsOk; omega)] | rw [if_neg (by unfold mAbsOk; omega)] | rw [if_pos (by omega)] | rw [if_neg (by omega)])) (by unfold mAbsA; repeat (first | rfl | omega | rw [if_pos (by unfold mAbsOk; omega)] | rw [if_neg (by unfold mAbsOk; omega)] | rw [if_pos (by omega)] | rw [if_neg (by omega)])) (by unfold mAbsE; repeat (first | rfl | omega | rw [if_pos (by unfold mAbsOk; omega)] | rw [if_neg (by unfold mAbsOk; omega)])), rfl⟩
            · go_enter Try.func12, Try.ntmps12
              go_wp2_with (first | (go_at_call 36; refine (mwithin_yes _ _ (by omega) _).mono ?_; rintro e w1 ⟨rfl, rfl⟩) | (go_at_call 36; refine (mwithin_no _ _ (by omega) _).mono ?_; rintro e w1 ⟨rfl, rfl⟩) | (go_at_call 38; refine (selectable_yes _ _ (by omega) _).mono ?_; rintro e w1 ⟨rfl, rfl⟩) | (go_at_call 38; refine (selectable_no _ _ (by omega) _).mono ?_; rintro e w1 ⟨rfl, rfl⟩))
              go_ret3
              exact ⟨ret_tup3 (by unfold mAbsS; repeat (first | rfl | omega | rw [if_pos (by unfold mAbsOk; omega)] | rw [if_neg (by unfold mAbsOk; omega)] | rw [if_pos (by omega)] | rw [if_neg (by omega)])) (by unfold mAbsA; repeat (first | rfl | omega | rw [if_pos (by unfold mAbsOk; omega)] | rw [if_neg (by unfold mAbsOk; omega)] | rw [if_pos (by omega)] | rw [if_neg (by omega)])) (by unfold mAbsE; repeat (first | rfl | omega | rw [if_pos (by unfold mAbsOk; omega)] | rw [if_neg (by unfold mAbsOk; omega)])), rfl⟩
          · go_enter Try.func12, Try.ntmps12
            go_wp2_with (first | (go_at_call 36; refine (mwithin_yes _ _ (by omega) _).mono ?_; rintro e w1 ⟨rfl, rfl⟩) | (go_at_call 36; refine (mwithin_no _ _ (by omega) _).mono ?_; rintro e w1 ⟨rfl, rfl⟩) | (go_at_call 38; refine (selectable_yes _ _ (by omega) _).mono ?_; rintro e w1 ⟨rfl, rfl⟩) | (go_at_call 38; refine (selectable_no _ _ (by omega) _).mono ?_; rintro e w1 ⟨rfl, rfl⟩))
            go_ret3
            exact ⟨ret_tup3 (by unfold mAbsS; repeat (first | rfl | omega | rw [if_pos (by unfold mAbsOk; omega)] | rw [if_neg (by unfold mAbsOk; omega)] | rw [if_pos (by omega)] | rw [if_neg (by omega)])) (by unfold mAbsA; repeat (first | rfl | omega | rw [if_pos (by unfold mAbsOk; omega)] | rw [if_neg (by unfold mAbsOk; omega)] | rw [if_pos (by omega)] | rw [if_neg (by omega)])) (by unfold mAbsE; repeat (first | rfl | omega | rw [if_pos (by unfold mAbsOk; omega)] | rw [if_neg (by unfold mAbsOk; omega)])), rfl⟩
        · go_enter Try.func12, Try.ntmps12
          go_wp2_with (first | (go_at_call 36; refine (mwithin_yes _ _ (by omega) _).mono ?_; rintro e w1 ⟨rfl, rfl⟩) | (go_at_call 36; refine (mwithin_no _ _ (by omega) _).mono ?_; rintro e w1 ⟨rfl, rfl⟩) | (go_at_call 38; refine (selectable_yes _ _ (by omega) _).mono ?_; rintro e w1 ⟨rfl, rfl⟩) | (go_at_call 38; refine (selectable_no _ _ (by omega) _).mono ?_; rintro e w1 ⟨rfl, rfl⟩))
          go_ret3
          exact ⟨ret_tup3 (by unfold mAbsS; repeat (first | rfl | omega | rw [if_pos (by unfold mAbsOk; omega)] | rw [if_neg (by unfold mAbsOk; omega)] | rw [if_pos (by omega)] | rw [if_neg (by omega)])) (by unfold mAbsA; repeat (first | rfl | omega | rw [if_pos (by unfold mAbsOk; omega)] | rw [if_neg (by unfold mAbsOk; omega)] | rw [if_pos (by omega)] | rw [if_neg (by omega)])) (by unfold mAbsE; repeat (first | rfl | omega | rw [if_pos (by unfold mAbsOk; omega)] | rw [if_neg (by unfold mAbsOk; omega)])), rfl⟩
      · go_enter Try.func12, Try.ntmps12
        go_wp2_with (first | (go_at_call 36; refine (mwithin_yes _ _ (by omega) _).mono ?_; rintro e w1 ⟨rfl, rfl⟩) | (go_at_call 36; refine (mwithin_no _ _ (by omega) _).mono ?_; rintro e w1 ⟨rfl, rfl⟩) | (go_at_call 38; refine (selectable_yes _ _ (by omega) _).mono ?_; rintro e w1 ⟨rfl, rfl⟩) | (go_at_call 38; refine (selectable_no _ _ (by omega) _).mono ?_; rintro e w1 ⟨rfl, rfl⟩))
        go_ret3
        exact ⟨ret_tup3 (by unfold mAbsS; repeat (first | rfl | omega | rw [if_pos (by unfold mAbsOk; omega)] | rw [if_neg (by unfold mAbsOk; omega)] | rw [if_pos (by omega)] | rw [if_neg (by omega)])) (by unfold mAbsA; repeat (first | rfl | omega | rw [if_pos (by unfold mAbsOk; omega)] | rw [if_neg (by unfold mAbsOk; omega)] | rw [if_pos (by omega)] | rw [if_neg (by omega)])) (by unfold mAbsE; repeat (first | rfl | omega | rw [if_pos (by unfold mAbsOk; omega)] | rw [if_neg (by unfold mAbsOk; omega)])), rfl⟩
    · go_enter Try.func12, Try.ntmps12
      go_wp2_with (first | (go_at_call 36; refine (mwithin_yes _ _ (by omega) _).mono ?_; rintro e w1 ⟨rfl, rfl⟩) | (go_at_call 36; refine (mwithin_no _ _ (by omega) _).mono ?_; rintro e w1 ⟨rfl, rfl⟩) | (go_at_call 38; refine (selectable_yes _ _ (by omega) _).mono ?_; rintro e w1 ⟨rfl, rfl⟩) | (go_at_call 38; refine (selectable_no _ _ (by omega) _).mono ?_; rintro e w1 ⟨rfl, rfl⟩))
      go_ret3
      exact ⟨ret_tup3 (by unfold mAbsS; repeat (first | rfl | omega | rw [if_pos (by unfold mAbsOk; omega)] | rw [if_neg (by unfold mAbsOk; omega)] | rw [if_pos (by omega)] | rw [if_neg (by omega)])) (by unfold mAbsA; repeat (first | rfl | omega | rw [if_pos (by unfold mAbsOk; omega)] | rw [if_neg (by unfold mAbsOk; omega)] | rw [if_pos (by omega)] | rw [if_neg (by omega)])) (by unfold mAbsE; repeat (first | rfl | omega | rw [if_pos (by unfold mAbsOk; omega)] | rw [if_neg (by unfold mAbsOk; omega)])), rfl⟩
  · go_enter Try.func12, Try.ntmps12
    go_wp2_with (first | (go_at_call 36; refine (mwithin_yes _ _ (by omega) _).mono ?_; rintro e w1 ⟨rfl, rfl⟩) | (go_at_call 36; refine (mwithin_no _ _ (by omega) _).mono ?_; rintro e w1 ⟨rfl, rfl⟩) | (go_at_call 38; refine (selectable_yes _ _ (by omega) _).mono ?_; rintro e w1 ⟨rfl, rfl⟩) | (go_at_call 38; refine (selectable_no _ _ (by omega) _).mono ?_; rintro e w1 ⟨rfl, rfl⟩))
    go_ret3
    exact ⟨ret_tup3 (by unfold mAbsS; repeat (first | rfl | omega | rw [if_pos (by unfold mAbsOk; omega)] | rw [if_neg (by unfold mAbsOk; omega)] | rw [if_pos (by omega)] | rw [if_neg (by omega)])) (by unfold mAbsA; repeat (first | rfl | omega | rw [if_pos (by unfold mAbsOk; omega)] | rw [if_neg (by unfold mAbsOk; omega)] | rw [if_pos (by omega)] | rw [if_neg (by omega)])) (by unfold mAbsE; repeat (first | rfl | omega | rw [if_pos (by unfold mAbsOk; omega)] | rw [if_neg (by unfold mAbsOk; omega)])), rfl⟩
set_option maxHeartbeats 2000000 in
theorem erasableOperand_any (a eb : Int) (a0 : -9223372036854775808 ≤ a) (a1 : a ≤ 9223372036854775807) (e0 : 0 ≤ eb) (e1 : eb ≤ 7) (fb : Int) (f0 : 0 ≤ fb) (f1 : fb ≤ 35) (w : World) :
    Calls Try.prog 39 #[.int .i64 a, .int .i64 eb] w fun e w' => e = .returned (.tuple #[.int .i64 (mOpV 1 a eb fb), .int .i64 (mOpE 1 a eb fb)]) ∧ w = w' := by
  by_cases hc0 : 0 ≤ a
  · by_cases hc1 : a ≤ 2047
    · by_cases hc2 : a ≤ 767
      · go_enter Try.func39, Try.ntmps39
        go_wp2_with (first | (go_at_call 36; refine (mwithin_yes _ _ (by omega) _).mono ?_; rintro e w1 ⟨rfl, rfl⟩) | (go_at_call 36; refine (mwithin_no _ _ (by omega) _).mono ?_; rintro e w1 ⟨rfl, rfl⟩))
        go_ret2
        first
          | exact ⟨ret_tup2 (mOpV_no 1 a eb fb (fun h => by have := (mOpOk1 a eb fb).1 h.2; omega)) (mOpE_no 1 a eb fb (.inl rfl) (fun h => by have := (mOpOk1 a eb fb).1 h; omega)), rfl⟩
          | exact ⟨ret_tup2 (mOpV_yes 1 a eb fb _ ⟨.inl rfl, (mOpOk1 a eb fb).2 (by omega)⟩ (by unfold mOp; repeat (first | rfl | omega | rw [if_pos (by omega)] | rw [if_neg (by omega)])) (by omega)) (mOpE_yes 1 a eb fb (.inl rfl) ((mOpOk1 a eb fb).2 (by omega)) (by unfold mOp; repeat (first | rfl | omega | rw [if_pos (by omega)] | rw [if_neg (by omega)]))), rfl⟩
          | exact ⟨ret_tup2 (mOpV_none 1 a eb fb (by unfold mOp; repeat (first | rfl | omega | rw [if_pos (by omega)] | rw [if_neg (by omega)]))) (mOpE_none 1 a eb fb (.inl rfl) (by unfold mOp; repeat (first | rfl | omega | rw [if_pos (by omega)] | rw [if_neg (by omega)]))), rfl⟩
      · by_cases hc3 : a / 256 = eb
        · go_enter Try.func39, Try.ntmps39
          go_wp2_with (first | (go_at_call 36; refine (mwithin_yes _ _ (by omega) _).mono ?_; rintro e w1 ⟨rfl, rfl⟩) | (go_at_call 36; refine (mwithin_no _ _ (by omega) _).mono ?_; rintro e w1 ⟨rfl, rfl⟩))
          go_ret2
          first
            | exact ⟨ret_tup2 (mOpV_no 1 a eb fb (fun h => by have := (mOpOk1 a eb fb).1 h.2; omega)) (mOpE_no 1 a eb fb (.inl rfl) (fun h => by have := (mOpOk1 a eb fb).1 h; omega)), rfl⟩
            | exact ⟨ret_tup2 (mOpV_yes 1 a eb fb _ ⟨.inl rfl, (mOpOk1 a eb fb).2 (by omega)⟩ (by unfold mOp; repeat (first | rfl | omega | rw [if_pos (by omega)] | rw [if_neg (by omega)])) (by omega)) (mOpE_yes 1 a eb fb (.inl rfl) ((mOpOk1 a eb fb).2 (by omega)) (by unfold mOp; repeat (first | rfl | omega | rw [if_pos (by omega)] | rw [if_neg (by omega)]))), rfl⟩
            | exact ⟨ret_tup2 (mOpV_none 1 a eb fb (by unfold mOp; repeat (first | rfl | omega | rw [if_pos (by omega)] | rw [if_neg (by omega)]))) (mOpE_none 1 a eb fb (.inl rfl) (by unfold mOp; repeat (first | rfl | omega | rw [if_pos (by omega)] | rw [if_neg (by omega)]))), rfl⟩
        · go_enter Try.func39, Try.ntmps39
          go_wp2_with (first | (go_at_call 36; refine (mwithin_yes _ _ (by omega) _).mono ?_; rintro e w1 ⟨rfl, rfl⟩) | (go_at_call 36; refine (mwithin_no _ _ (by omega) _).mono ?_; rintro e w1 ⟨rfl, rfl⟩))
          go_ret2
          first
            | exact ⟨ret_tup2 (mOpV_no 1 a eb fb (fun h => by have := (mOpOk1 a eb fb).1 h.2; omega)) (mOpE_no 1 a eb fb (.inl rfl) (fun h => by have := (mOpOk1 a eb fb).1 h; omega)), rfl⟩
            | exact ⟨ret_tup2 (mOpV_yes 1 a eb fb _ ⟨.inl rfl, (mOpOk1 a eb fb).2 (by omega)⟩ (by unfold mOp; repeat (first | rfl | omega | rw [if_pos (by omega)] | rw [if_neg (by omega)])) (by omega)) (mOpE_yes 1 a eb fb (.inl rfl) ((mOpOk1 a eb fb).2 (by omega)) (by unfold mOp; repeat (first | rfl | omega | rw [if_pos (by omega)] | rw [if_neg (by omega)]))), rfl⟩
            | exact ⟨ret_tup2 (mOpV_none 1 a eb fb (by unfold mOp; repeat (first | rfl | omega | rw [if_pos (by omega)] | rw [if_neg (by omega)]))) (mOpE_none 1 a eb fb (.inl rfl) (by unfold mOp; repeat (first | rfl | omega | rw [if_pos (by omega)] | rw [if_neg (by omega)]))), rfl⟩
    · go_enter Try.func39, Try.ntmps39
      go_wp2_with (first | (go_at_call 36; refine (mwithin_yes _ _ (by omega) _).mono ?_; rintro e w1 ⟨rfl, rfl⟩) | (go_at_call 36; refine (mwithin_no _ _ (by omega) _).mono ?_; rintro e w1 ⟨rfl, rfl⟩))
      go_ret2
      first
        | exact ⟨ret_tup2 (mOpV_no 1 a eb fb (fun h => by have := (mOpOk1 a eb fb).1 h.2; omega)) (mOpE_no 1 a eb fb (.inl rfl) (fun h => by have := (mOpOk1 a eb fb).1 h; omega)), rfl⟩
        | exact ⟨ret_tup2 (mOpV_yes 1 a eb fb _ ⟨.inl rfl, (mOpOk1 a eb fb).2 (by omega)⟩ (by unfold mOp; repeat (first | rfl | omega | rw [if_pos (by omega)] | rw [if_neg (by omega)])) (by omega)) (mOpE_yes 1 a eb fb (.inl rfl) ((mOpOk1 a eb fb).2 (by omega)) (by unfold mOp; repeat (first | rfl | omega | rw [if_pos (by omega)] | rw [if_neg (by omega)]))), rfl⟩
        | exact ⟨ret_tup2 (mOpV_none 1 a eb fb (by unfold mOp; repeat (first | rfl | omega | rw [if_pos (by omega)] | rw [if_neg (by omega)]))) (mOpE_none 1 a eb fb (.inl rfl) (by unfold mOp; repeat (first | rfl | omega | rw [if_pos (by omega)] | rw [if_neg (by omega)]))), rfl⟩
  · go_enter Try.func39, Try.ntmps39
    go_wp2_with (first | (go_at_call 36; refine (mwithin_yes _ _ (by omega) _).mono ?_; rintro e w1 ⟨rfl, rfl⟩) | (go_at_call 36; refine (mwithin_no _ _ (by omega) _).mono ?_; rintro e w1 ⟨rfl, rfl⟩))
    go_ret2
    first
      | exact ⟨ret_tup2 (mOpV_no 1 a eb fb (fun h => by have := (mOpOk1 a eb fb).1 h.2; omega)) (mOpE_no 1 a eb fb (.inl rfl) (fun h => by have := (mOpOk1 a eb fb).1 h; omega)), rfl⟩
      | exact ⟨ret_tup2 (mOpV_yes 1 a eb fb _ ⟨.inl rfl, (mOpOk1 a eb fb).2 (by omega)⟩ (by unfold mOp; repeat (first | rfl | omega | rw [if_pos (by omega)] | rw [if_neg (by omega)])) (by omega)) (mOpE_yes 1 a eb fb (.inl rfl) ((mOpOk1 a eb fb).2 (by omega)) (by unfold mOp; repeat (first | rfl | omega | rw [if_pos (by omega)] | rw [if_neg (by omega)]))), rfl⟩
      | exact ⟨ret_tup2 (mOpV_none 1 a eb fb (by unfold mOp; repeat (first | rfl | omega | rw [if_pos (by omega)] | rw [if_neg (by omega)]))) (mOpE_none 1 a eb fb (.inl rfl) (by unfold mOp; repeat (first | rfl | omega | rw [if_pos (by omega)] | rw [if_neg (by omega)]))), rfl⟩
set_option maxHeartbeats 4000000 in
theorem fixedOperand_any (a fb : Int) (a0 : -9223372036854775808 ≤ a) (a1 : a ≤ 9223372036854775807) (f0 : 0 ≤ fb) (f1 : fb ≤ 35) (eb : Int) (e0 : 0 ≤ eb) (e1 : eb ≤ 7) (w : World) :
    Calls Try.prog 40 #[.int .i64 a, .int .i64 fb] w fun e w' => e = .returned (.tuple #[.int .i64 (mOpV 2 a eb fb), .int .i64 (mOpE 2 a eb fb)]) ∧ w = w' := by
  by_cases hc0 : 0 ≤ a
  · by_cases hc1 : a ≤ 36863
    · by_cases hc2 : 2048 ≤ a ∧ a ≤ 4095
      · go_enter Try.func40, Try.ntmps40
        go_wp2_with (first | (go_at_call 36; refine (mwithin_yes _ _ (by omega) _).mono ?_; rintro e w1 ⟨rfl, rfl⟩) | (go_at_call 36; refine (mwithin_no _ _ (by omega) _).mono ?_; rintro e w1 ⟨rfl, rfl⟩))
        go_ret2
        first
          | exact ⟨ret_tup2 (mOpV_no 2 a eb fb (fun h => by have := (mOpOk2 a eb fb).1 h.2; omega)) (mOpE_no 2 a eb fb (.inr rfl) (fun h => by have := (mOpOk2 a eb fb).1 h; omega)), rfl⟩
          | exact ⟨ret_tup2 (mOpV_yes 2 a eb fb _ ⟨.inr rfl, (mOpOk2 a eb fb).2 (by omega)⟩ (by unfold mOp; repeat (first | rfl | omega | rw [if_pos (by omega)] | rw [if_neg (by omega)])) (by omega)) (mOpE_yes 2 a eb fb (.inr rfl) ((mOpOk2 a eb fb).2 (by omega)) (by unfold mOp; repeat (first | rfl | omega | rw [if_pos (by omega)] | rw [if_neg (by omega)]))), rfl⟩
          | exact ⟨ret_tup2 (mOpV_none 2 a eb fb (by unfold mOp; repeat (first | rfl | omega | rw [if_pos (by omega)] | rw [if_neg (by omega)]))) (mOpE_none 2 a eb fb (.inr rfl) (by unfold mOp; repeat (first | rfl | omega | rw [if_pos (by omega)] | rw [if_neg (by omega)]))), rfl⟩
      · by_cases hc3 : 2048 ≤ a ∧ a / 1024 = fb
        · go_enter Try.func40, Try.ntmps40
          go_wp2_with (first | (go_at_call 36; refine (mwithin_yes _ _ (by omega) _).mono ?_; rintro e w1 ⟨rfl, rfl⟩) | (go_at_call 36; refine (mwithin_no _ _ (by omega) _).mono ?_; rintro e w1 ⟨rfl, rfl⟩))
          go_ret2
          first
            | exact ⟨ret_tup2 (mOpV_no 2 a eb fb (fun h => by have := (mOpOk2 a eb fb).1 h.2; omega)) (mOpE_no 2 a eb fb (.inr rfl) (fun h => by have := (mOpOk2 a eb fb).1 h; omega)), rfl⟩
            | exact ⟨ret_tup2 (mOpV_yes 2 a eb fb _ ⟨.inr rfl, (mOpOk2 a eb fb).2 (by omega)⟩ (by unfold mOp; repeat (first | rfl | omega | rw [if_pos (by omega)] | rw [if_neg (by omega)])) (by omega)) (mOpE_yes 2 a eb fb (.inr rfl) ((mOpOk2 a eb fb).2 (by omega)) (by unfold mOp; repeat (first | rfl | omega | rw [if_pos (by omega)] | rw [if_neg (by omega)]))), rfl⟩
            | exact ⟨ret_tup2 (mOpV_none 2 a eb fb (by unfold mOp; repeat (first | rfl | omega | rw [if_pos (by omega)] | rw [if_neg (by omega)]))) (mOpE_none 2 a eb fb (.inr rfl) (by unfold mOp; repeat (first | rfl | omega | rw [if_pos (by omega)] | rw [if_neg (by omega)]))), rfl⟩
        · by_cases hc4 : a < 2048 ∧ a / 1024 = fb
          · go_enter Try.func40, Try.ntmps40
            go_wp2_with (first | (go_at_call 36; refine (mwithin_yes _ _ (by omega) _).mono ?_; rintro e w1 ⟨rfl, rfl⟩) | (go_at_call 36; refine (mwithin_no _ _ (by omega) _).mono ?_; rintro e w1 ⟨rfl, rfl⟩))
            go_ret2
            first
              | exact ⟨ret_tup2 (mOpV_no 2 a eb fb (fun h => by have := (mOpOk2 a eb fb).1 h.2; omega)) (mOpE_no 2 a eb fb (.inr rfl) (fun h => by have := (mOpOk2 a eb fb).1 h; omega)), rfl⟩
              | exact ⟨ret_tup2 (mOpV_yes 2 a eb fb _ ⟨.inr rfl, (mOpOk2 a eb fb).2 (by omega)⟩ (by unfold mOp; repeat (first | rfl | omega | rw [if_pos (by omega)] | rw [if_neg (by omega)])) (by omega)) (mOpE_yes 2 a eb fb (.inr rfl) ((mOpOk2 a eb fb).2 (by omega)) (by unfold mOp; repeat (first | rfl | omega | rw [if_pos (by omega)] | rw [if_neg (by omega)]))), rfl⟩
              | exact ⟨ret_tup2 (mOpV_none 2 a eb fb (by unfold mOp; repeat (first | rfl | omega | rw [if_pos (by omega)] | rw [if_neg (by omega)]))) (mOpE_none 2 a eb fb (.inr rfl) (by unfold mOp; repeat (first | rfl | omega | rw [if_pos (by omega)] | rw [if_neg (by omega)]))), rfl⟩
          · by_cases hc5 : 2048 ≤ a
            · go_enter Try.func40, Try.ntmps40
              go_wp2_with (first | (go_at_call 36; refine (mwithin_yes _ _ (by omega) _).mono ?_; rintro e w1 ⟨rfl, rfl⟩) | (go_at_call 36; refine (mwithin_no _ _ (by omega) _).mono ?_; rintro e w1 ⟨rfl, rfl⟩))
              go_ret2
              first
                | exact ⟨ret_tup2 (mOpV_no 2 a eb fb (fun h => by have := (mOpOk2 a eb fb).1 h.2; omega)) (mOpE_no 2 a eb fb (.inr rfl) (fun h => by have := (mOpOk2 a eb fb).1 h; omega)), rfl⟩
                | exact ⟨ret_tup2 (mOpV_yes 2 a eb fb _ ⟨.inr rfl, (mOpOk2 a eb fb).2 (by omega)⟩ (by unfold mOp; repeat (first | rfl | omega | rw [if_pos (by omega)] | rw [if_neg (by omega)])) (by omega)) (mOpE_yes 2 a eb fb (.inr rfl) ((mOpOk2 a eb fb).2 (by omega)) (by unfold mOp; repeat (first | rfl | omega | rw [if_pos (by omega)] | rw [if_neg (by omega)]))), rfl⟩
                | exact ⟨ret_tup2 (mOpV_none 2 a eb fb (by unfold mOp; repeat (first | rfl | omega | rw [if_pos (by omega)] | rw [if_neg (by omega)]))) (mOpE_none 2 a eb fb (.inr rfl) (by unfold mOp; repeat (first | rfl | omega | rw [if_pos (by omega)] | rw [if_neg (by omega)]))), rfl⟩
            · go_enter Try.func40, Try.ntmps40
              go_wp2_with (first | (go_at_call 36; refine (mwithin_yes _ _ (by omega) _).mono ?_; rintro e w1 ⟨rfl, rfl⟩) | (go_at_call 36; refine (mwithin_no _ _ (by omega) _).mono ?_; rintro e w1 ⟨rfl, rfl⟩))
              go_ret2
              first
                | exact ⟨ret_tup2 (mOpV_no 2 a eb fb (fun h => by have := (mOpOk2 a eb fb).1 h.2; omega)) (mOpE_no 2 a eb fb (.inr rfl) (fun h => by have := (mOpOk2 a eb fb).1 h; omega)), rfl⟩
                | exact ⟨ret_tup2 (mOpV_yes 2 a eb fb _ ⟨.inr rfl, (mOpOk2 a eb fb).2 (by omega)⟩ (by unfold mOp; repeat (first | rfl | omega | rw [if_pos (by omega)] | rw [if_neg (by omega)])) (by omega)) (mOpE_yes 2 a eb fb (.inr rfl) ((mOpOk2 a eb fb).2 (by omega)) (by unfold mOp; repeat (first | rfl | omega | rw [if_pos (by omega)] | rw [if_neg (by omega)]))), rfl⟩
                | exact ⟨ret_tup2 (mOpV_none 2 a eb fb (by unfold mOp; repeat (first | rfl | omega | rw [if_pos (by omega)] | rw [if_neg (by omega)]))) (mOpE_none 2 a eb fb (.inr rfl) (by unfold mOp; repeat (first | rfl | omega | rw [if_pos (by omega)] | rw [if_neg (by omega)]))), rfl⟩
    · go_enter Try.func40, Try.ntmps40
      go_wp2_with (first | (go_at_call 36; refine (mwithin_yes _ _ (by omega) _).mono ?_; rintro e w1 ⟨rfl, rfl⟩) | (go_at_call 36; refine (mwithin_no _ _ (by omega) _).mono ?_; rintro e w1 ⟨rfl, rfl⟩))
      go_ret2
      first
        | exact ⟨ret_tup2 (mOpV_no 2 a eb fb (fun h => by have := (mOpOk2 a eb fb).1 h.2; omega)) (mOpE_no 2 a eb fb (.inr rfl) (fun h => by have := (mOpOk2 a eb fb).1 h; omega)), rfl⟩
        | exact ⟨ret_tup2 (mOpV_yes 2 a eb fb _ ⟨.inr rfl, (mOpOk2 a eb fb).2 (by omega)⟩ (by unfold mOp; repeat (first | rfl | omega | rw [if_pos (by omega)] | rw [if_neg (by omega)])) (by omega)) (mOpE_yes 2 a eb fb (.inr rfl) ((mOpOk2 a eb fb).2 (by omega)) (by unfold mOp; repeat (first | rfl | omega | rw [if_pos (by omega)] | rw [if_neg (by omega)]))), rfl⟩
        | exact ⟨ret_tup2 (mOpV_none 2 a eb fb (by unfold mOp; repeat (first | rfl | omega | rw [if_pos (by omega)] | rw [if_neg (by omega)]))) (mOpE_none 2 a eb fb (.inr rfl) (by unfold mOp; repeat (first | rfl | omega | rw [if_pos (by omega)] | rw [if_neg (by omega)]))), rfl⟩
  · go_enter Try.func40, Try.ntmps40
    go_wp2_with (first | (go_at_call 36; refine (mwithin_yes _ _ (by omega) _).mono ?_; rintro e w1 ⟨rfl, rfl⟩) | (go_at_call 36; refine (mwithin_no _ _ (by omega) _).mono ?_; rintro e w1 ⟨rfl, rfl⟩))
    go_ret2
    first
      | exact ⟨ret_tup2 (mOpV_no 2 a eb fb (fun h => by have := (mOpOk2 a eb fb).1 h.2; omega)) (mOpE_no 2 a eb fb (.inr rfl) (fun h => by have := (mOpOk2 a eb fb).1 h; omega)), rfl⟩
      | exact ⟨ret_tup2 (mOpV_yes 2 a eb fb _ ⟨.inr rfl, (mOpOk2 a eb fb).2 (by omega)⟩ (by unfold mOp; repeat (first | rfl | omega | rw [if_pos (by omega)] | rw [if_neg (by omega)])) (by omega)) (mOpE_yes 2 a eb fb (.inr rfl) ((mOpOk2 a eb fb).2 (by omega)) (by unfold mOp; repeat (first | rfl | omega | rw [if_pos (by omega)] | rw [if_neg (by omega)]))), rfl⟩
      | exact ⟨ret_tup2 (mOpV_none 2 a eb fb (by unfold mOp; repeat (first | rfl | omega | rw [if_pos (by omega)] | rw [if_neg (by omega)]))) (mOpE_none 2 a eb fb (.inr rfl) (by unfold mOp; repeat (first | rfl | omega | rw [if_pos (by omega)] | rw [if_neg (by omega)]))), rfl⟩
set_option maxHeartbeats 4000000 in
theorem Operand_any (s a eb fb : Int) (a0 : -9223372036854775808 ≤ a) (a1 : a ≤ 9223372036854775807) (e0 : -9223372036854775808 ≤ eb) (e1 : eb ≤ 9223372036854775807) (f0 : -9223372036854775808 ≤ fb) (f1 : fb ≤ 9223372036854775807) (w : World) :
    Calls Try.prog 14 #[.int .u8 s, .int .i64 a, .int .i64 eb, .int .i64 fb] w fun e w' => e = .returned (.tuple #[.int .i64 (mOpV s a eb fb), .int .i64 (mOpE s a eb fb)]) ∧ w = w' := by
  by_cases h : s = 1 ∨ s = 2
  · by_cases g : 0 ≤ eb ∧ eb ≤ 7 ∧ 0 ≤ fb ∧ fb ≤ 35
    · rcases h with rfl | rfl
      · go_enter Try.func14, Try.ntmps14
        go_wp2_with (first | (go_at_call 38; refine (selectable_yes _ _ (by omega) _).mono ?_; rintro e w1 ⟨rfl, rfl⟩) | (go_at_call 39; refine (erasableOperand_any _ _ (by omega) (by omega) (by omega) (by omega) fb (by omega) (by omega) _).mono ?_; rintro e w1 ⟨rfl, rfl⟩))
        go_ret2
        exact ⟨rfl, rfl⟩
      · go_enter Try.func14, Try.ntmps14
        go_wp2_with (first | (go_at_call 38; refine (selectable_yes _ _ (by omega) _).mono ?_; rintro e w1 ⟨rfl, rfl⟩) | (go_at_call 40; refine (fixedOperand_any _ _ (by omega) (by omega) (by omega) (by omega) eb (by omega) (by omega) _).mono ?_; rintro e w1 ⟨rfl, rfl⟩))
        go_ret2
        exact ⟨rfl, rfl⟩
    · have hv := mOpV_no s a eb fb (fun c => g ⟨c.2.1, c.2.2.1, c.2.2.2.1, c.2.2.2.2.1⟩)
      have he := mOpE_no s a eb fb h (fun c => g ⟨c.1, c.2.1, c.2.2.1, c.2.2.2.1⟩)
      rw [← hv, ← he]
      clear hv he
      rcases h with rfl | rfl
      · go_enter Try.func14, Try.ntmps14
        go_wp2_with (first | (go_at_call 38; refine (selectable_no _ _ (by omega) _).mono ?_; rintro e w1 ⟨rfl, rfl⟩))
        go_ret2
        exact ⟨rfl, rfl⟩
      · go_enter Try.func14, Try.ntmps14
        go_wp2_with (first | (go_at_call 38; refine (selectable_no _ _ (by omega) _).mono ?_; rintro e w1 ⟨rfl, rfl⟩))
        go_ret2
        exact ⟨rfl, rfl⟩
  · have hv := mOpV_no s a eb fb (fun c => h c.1)
    have he := mOpE_arg s a eb fb h
    have n1 : (s != 1) = true := by rw [bne_iff_ne]; omega
    have n2 : (s != 2) = true := by rw [bne_iff_ne]; omega
    rw [← hv, ← he]
    clear hv he h
    go_enter Try.func14, Try.ntmps14
    go_wp2
    go_ret2
    exact ⟨rfl, rfl⟩
end Go.Proofs.Ytamjknckgaffpaa
