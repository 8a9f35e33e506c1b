/- Contracts of layer 3: the reference's functions on addresses. -/
import Derived.Test.YtamjknckgaffpaaChecked
import Derived.Test.YtamjknckgaffpaaP03
import Derived.Test.YtamjknckgaffpaaBase
set_option linter.unusedSimpArgs false
set_option linter.unusedVariables false
namespace Go.Proofs.Ytamjknckgaffpaa
open Go.ChangeShapes Go.WideShapes Go.ChangeAt Go.RowKit
theorem rwithin_yes (n m : Int) (h : 0 ≤ n ∧ n ≤ m) (w : World) : Calls Try.prog 37 #[.int .i64 n, .int .i64 m] w fun e w' => e = .returned (.bool true) ∧ w = w' := by
  obtain ⟨h0, h1⟩ := h
  go_enter Try.func37, Try.ntmps37
  go_wp2
  go_ret
  exact ⟨rfl, rfl⟩
theorem rwithin_no (n m : Int) (h : ¬ (0 ≤ n ∧ n ≤ m)) (w : World) : Calls Try.prog 37 #[.int .i64 n, .int .i64 m] w fun e w' => e = .returned (.bool false) ∧ w = w' := by
  by_cases h0 : 0 ≤ n
  · have h1 : ¬ n ≤ m := fun c => h ⟨h0, c⟩
    clear h
    go_enter Try.func37, Try.ntmps37
    go_wp2
    go_ret
    exact ⟨rfl, rfl⟩
  · clear h
    go_enter Try.func37, Try.ntmps37
    go_wp2
    go_ret
    exact ⟨rfl, rfl⟩
set_option maxHeartbeats 2000000 in
theorem rBank_any (fb su : Int) (f0 : -9223372036854775808 ≤ fb) (f1 : fb ≤ 9223372036854775807) (s0 : -9223372036854775808 ≤ su) (s1 : su ≤ 9223372036854775807) (w : World) :
    Calls Try.prog 11 #[.int .i64 fb, .int .i64 su] w fun e w' => e = .returned (.tuple #[.int .i64 (mBankV fb su), .int .i64 (mBankE fb su)]) ∧ w = w' := by
  by_cases hc0 : 0 ≤ fb
  · by_cases hc1 : fb ≤ 31
    · by_cases hc2 : 0 ≤ su
      · by_cases hc3 : su ≤ 7
        · by_cases hc4 : 24 ≤ fb
          · by_cases hc5 : 4 ≤ su
            · by_cases hc6 : fb ≤ 27
              · go_enter Try.func11, Try.ntmps11
                go_wp2
                go_ret2
                exact ⟨ret_tup2 (by unfold mBankV; repeat (first | rfl | omega | rw [if_pos (by omega)] | rw [if_neg (by omega)])) (by unfold mBankE; repeat (first | rfl | omega | rw [if_pos (by omega)] | rw [if_neg (by omega)])), rfl⟩
              · go_enter Try.func11, Try.ntmps11
                go_wp2
                go_ret2
                exact ⟨ret_tup2 (by unfold mBankV; repeat (first | rfl | omega | rw [if_pos (by omega)] | rw [if_neg (by omega)])) (by unfold mBankE; repeat (first | rfl | omega | rw [if_pos (by omega)] | rw [if_neg (by omega)])), rfl⟩
            · go_enter Try.func11, Try.ntmps11
              go_wp2
              go_ret2
              exact ⟨ret_tup2 (by unfold mBankV; repeat (first | rfl | omega | rw [if_pos (by omega)] | rw [if_neg (by omega)])) (by unfold mBankE; repeat (first | rfl | omega | rw [if_pos (by omega)] | rw [if_neg (by omega)])), rfl⟩
          · go_enter Try.func11, Try.ntmps11
            go_wp2
            go_ret2
            exact ⟨ret_tup2 (by unfold mBankV; repeat (first | rfl | omega | rw [if_pos (by omega)] | rw [if_neg (by omega)])) (by unfold mBankE; repeat (first | rfl | omega | rw [if_pos (by omega)] | rw [if_neg (by omega)])), rfl⟩
        · go_enter Try.func11, Try.ntmps11
          go_wp2
          go_ret2
          exact ⟨ret_tup2 (by unfold mBankV; repeat (first | rfl | omega | rw [if_pos (by omega)] | rw [if_neg (by omega)])) (by unfold mBankE; repeat (first | rfl | omega | rw [if_pos (by omega)] | rw [if_neg (by omega)])), rfl⟩
      · go_enter Try.func11, Try.ntmps11
        go_wp2
        go_ret2
        exact ⟨ret_tup2 (by unfold mBankV; repeat (first | rfl | omega | rw [if_pos (by omega)] | rw [if_neg (by omega)])) (by unfold mBankE; repeat (first | rfl | omega | rw [if_pos (by omega)] | rw [if_neg (by omega)])), rfl⟩
    · go_enter Try.func11, Try.ntmps11
      go_wp2
      go_ret2
      exact ⟨ret_tup2 (by unfold mBankV; repeat (first | rfl | omega | rw [if_pos (by omega)] | rw [if_neg (by omega)])) (by unfold mBankE; repeat (first | rfl | omega | rw [if_pos (by omega)] | rw [if_neg (by omega)])), rfl⟩
  · go_enter Try.func11, Try.ntmps11
    go_wp2
    go_ret2
    exact ⟨ret_tup2 (by unfold mBankV; repeat (first | rfl | omega | rw [if_pos (by omega)] | rw [if_neg (by omega)])) (by unfold mBankE; repeat (first | rfl | omega | rw [if_pos (by omega)] | rw [if_neg (by omega)])), rfl⟩
theorem ret_tup3 {k k' k'' : IntKind} {a b c d e f : Int} (h : a = b) (h' : c = d) (h'' : e = f) : Ending.returned (.tuple #[.int k a, .int k' c, .int k'' e]) = .returned (.tuple #[.int k b, .int k' d, .int k'' f]) := by rw [h, h', h'']
set_option maxHeartbeats 2000000 in
theorem rAbsolute_any (k eb fb : Int) (k0 : -9223372036854775808 ≤ k) (k1 : k ≤ 9223372036854775807) (e0 : -9223372036854775808 ≤ eb) (e1 : eb ≤ 9223372036854775807) (f0 : -9223372036854775808 ≤ fb) (f1 : fb ≤ 9223372036854775807) (w : World) :
    Calls Try.prog 13 #[.int .i64 k, .int .i64 eb, .int .i64 fb] w fun e w' => e = .returned (.tuple #[.int .u8 (mAbsS k eb fb), .int .i64 (mAbsA k eb fb), .int .i64 (mAbsE k eb fb)]) ∧ w = w' := by
  by_cases hc0 : 0 ≤ k
  · by_cases hc1 : k ≤ 4095
    · by_cases hc2 : 0 ≤ eb
      · by_cases hc3 : eb ≤ 7
        · by_cases hc4 : 0 ≤ fb
          · by_cases hc5 : fb ≤ 35
            · by_cases hc6 : k ≤ 767
              · go_enter Try.func13, Try.ntmps13
                go_wp2
                go_ret3
                exact ⟨ret_tup3 (by unfold mAbsS; repeat (first | rfl | omega | rw [if_pos (by unfold mAbsOk; omega)] | rw [if_neg (by unfold mAbsOk; omega)] | rw [if_pos (by omega)] | rw [if_neg (by omega)])) (by unfold mAbsA; repeat (first | rfl | omega | rw [if_pos (by unfold mAbsOk; omega)] | rw [if_neg (by unfold mAbsOk; omega)] | rw [if_pos (by omega)] | rw [if_neg (by omega)])) (by unfold mAbsE; repeat (first | rfl | omega | rw [if_pos (by unfold mAbsOk; omega)] | rw [if_neg (by unfold mAbsOk; omega)])), rfl⟩
              · by_cases hc7 : k ≤ 1023
                · go_enter Try.func13, Try.ntmps13
                  go_wp2
                  go_ret3
                  exact ⟨ret_tup3 (by unfold mAbsS; repeat (first | rfl | omega | rw [if_pos (by unfold mAbsOk; omega)] | rw [if_neg (by unfold mAbsOk; omega)] | rw [if_pos (by omega)] | rw [if_neg (by omega)])) (by unfold mAbsA; repeat (first | rfl | omega | rw [if_pos (by unfold mAbsOk; omega)] | rw [if_neg (by unfold mAbsOk; omega)] | rw [if_pos (by omega)] | rw [if_neg (by omega)])) (by unfold mAbsE; repeat (first | rfl | omega | rw [if_pos (by unfold mAbsOk; omega)] | rw [if_neg (by unfold mAbsOk; omega)])), rfl⟩
                · by_cases hc8 : k ≤ 2047
                  · go_enter Try.func13, Try.ntmps13
                    go_wp2
                    go_ret3
                    exact ⟨ret_tup3 (by unfold mAbsS; repeat (first | rfl | omega | rw [if_pos (by unfold mAbsOk; omega)] | rw [if_neg (by unfold mAbsOk; omega)] | rw [if_pos (by omega)] | rw [if_neg (by omega)])) (by unfold mAbsA; repeat (first | rfl | omega | rw [if_pos (by unfold mAbsOk; omega)] | rw [if_neg (by unfold mAbsOk; omega)] | rw [if_pos (by omega)] | rw [if_neg (by omega)])) (by unfold mAbsE; repeat (first | rfl | omega | rw [if_pos (by unfold mAbsOk; omega)] | rw [if_neg (by unfold mAbsOk; omega)])), rfl⟩
                  · go_enter Try.func13, Try.ntmps13
                    go_wp2
                    go_ret3
                    exact ⟨ret_tup3 (by unfold mAbsS; repeat (first | rfl | omega | rw [if_pos (by unfold mAbsOk; omega)] | rw [if_neg (by unfold mAbsOk; omega)] | rw [if_pos (by omega)] | rw [if_neg (by omega)])) (by unfold mAbsA; repeat (first | rfl | omega | rw [if_pos (by unfold mAbsOk; omega)] | rw [if_neg (by unfold mAbsOk; omega)] | rw [if_pos (by omega)] | rw [if_neg (by omega)])) (by unfold mAbsE; repeat (first | rfl | omega | rw [if_pos (by unfold mAbsOk; omega)] | rw [if_neg (by unfold mAbsOk; omega)])), rfl⟩
            · go_enter Try.func13, Try.ntmps13
              go_wp2
              go_ret3
              exact ⟨ret_tup3 (by unfold mAbsS; repeat (first | rfl | omega | rw [if_pos (by unfold mAbsOk; omega)] | rw [if_neg (by unfold mAbsOk; omega)] | rw [if_pos (by omega)] | rw [if_neg (by omega)])) (by unfold mAbsA; repeat (first | rfl | omega | rw [if_pos (by unfold mAbsOk; omega)] | rw [if_neg (by unfold mAbsOk; omega)] | rw [if_pos (by omega)] | rw [if_neg (by omega)])) (by unfold mAbsE; repeat (first | rfl | omega | rw [if_pos (by unfold mAbsOk; omega)] | rw [if_neg (by unfold mAbsOk; omega)])), rfl⟩
          · go_enter Try.func13, Try.ntmps13
            go_wp2
            go_ret3
            exact ⟨ret_tup3 (by unfold mAbsS; repeat (first | rfl | omega | rw [if_pos (by unfold mAbsOk; omega)] | rw [if_neg (by unfold mAbsOk; omega)] | rw [if_pos (by omega)] | rw [if_neg (by omega)])) (by unfold mAbsA; repeat (first | rfl | omega | rw [if_pos (by unfold mAbsOk; omega)] | rw [if_neg (by unfold mAbsOk; omega)] | rw [if_pos (by omega)] | rw [if_neg (by omega)])) (by unfold mAbsE; repeat (first | rfl | omega | rw [if_pos (by unfold mAbsOk; omega)] | rw [if_neg (by unfold mAbsOk; omega)])), rfl⟩
        · go_enter Try.func13, Try.ntmps13
          go_wp2
          go_ret3
          exact ⟨ret_tup3 (by unfold mAbsS; repeat (first | rfl | omega | rw [if_pos (by unfold mAbsOk; omega)] | rw [if_neg (by unfold mAbsOk; omega)] | rw [if_pos (by omega)] | rw [if_neg (by omega)])) (by unfold mAbsA; repeat (first | rfl | omega | rw [if_pos (by unfold mAbsOk; omega)] | rw [if_neg (by unfold mAbsOk; omega)] | rw [if_pos (by omega)] | rw [if_neg (by omega)])) (by unfold mAbsE; repeat (first | rfl | omega | rw [if_pos (by unfold mAbsOk; omega)] | rw [if_neg (by unfold mAbsOk; omega)])), rfl⟩
      · go_enter Try.func13, Try.ntmps13
        go_wp2
        go_ret3
        exact ⟨ret_tup3 (by unfold mAbsS; repeat (first | rfl | omega | rw [if_pos (by unfold mAbsOk; omega)] | rw [if_neg (by unfold mAbsOk; omega)] | rw [if_pos (by omega)] | rw [if_neg (by omega)])) (by unfold mAbsA; repeat (first | rfl | omega | rw [if_pos (by unfold mAbsOk; omega)] | rw [if_neg (by unfold mAbsOk; omega)] | rw [if_pos (by omega)] | rw [if_neg (by omega)])) (by unfold mAbsE; repeat (first | rfl | omega | rw [if_pos (by unfold mAbsOk; omega)] | rw [if_neg (by unfold mAbsOk; omega)])), rfl⟩
    · go_enter Try.func13, Try.ntmps13
      go_wp2
      go_ret3
      exact ⟨ret_tup3 (by unfold mAbsS; repeat (first | rfl | omega | rw [if_pos (by unfold mAbsOk; omega)] | rw [if_neg (by unfold mAbsOk; omega)] | rw [if_pos (by omega)] | rw [if_neg (by omega)])) (by unfold mAbsA; repeat (first | rfl | omega | rw [if_pos (by unfold mAbsOk; omega)] | rw [if_neg (by unfold mAbsOk; omega)] | rw [if_pos (by omega)] | rw [if_neg (by omega)])) (by unfold mAbsE; repeat (first | rfl | omega | rw [if_pos (by unfold mAbsOk; omega)] | rw [if_neg (by unfold mAbsOk; omega)])), rfl⟩
  · go_enter Try.func13, Try.ntmps13
    go_wp2
    go_ret3
    exact ⟨ret_tup3 (by unfold mAbsS; repeat (first | rfl | omega | rw [if_pos (by unfold mAbsOk; omega)] | rw [if_neg (by unfold mAbsOk; omega)] | rw [if_pos (by omega)] | rw [if_neg (by omega)])) (by unfold mAbsA; repeat (first | rfl | omega | rw [if_pos (by unfold mAbsOk; omega)] | rw [if_neg (by unfold mAbsOk; omega)] | rw [if_pos (by omega)] | rw [if_neg (by omega)])) (by unfold mAbsE; repeat (first | rfl | omega | rw [if_pos (by unfold mAbsOk; omega)] | rw [if_neg (by unfold mAbsOk; omega)])), rfl⟩
theorem mOpV_no (s a eb fb : Int) (h : ¬ ((s = 1 ∨ s = 2) ∧ mOpOk s a eb fb)) : 0 = mOpV s a eb fb := by unfold mOpV; rw [if_neg h]
theorem mOpV_yes (s a eb fb x : Int) (h : (s = 1 ∨ s = 2) ∧ mOpOk s a eb fb) (hx : mOp s a eb fb = x) (h0 : 0 ≤ x) : x = mOpV s a eb fb := by unfold mOpV; rw [if_pos h, hx, if_neg (by omega)]
theorem mOpV_none (s a eb fb : Int) (hx : mOp s a eb fb = -1) : 0 = mOpV s a eb fb := by
  unfold mOpV; rw [hx]; split <;> rfl
theorem mOpE_arg (s a eb fb : Int) (h : ¬ (s = 1 ∨ s = 2)) : 2 = mOpE s a eb fb := by unfold mOpE; rw [if_neg h]
theorem mOpE_no (s a eb fb : Int) (h : s = 1 ∨ s = 2) (h' : ¬ mOpOk s a eb fb) : 3 = mOpE s a eb fb := by unfold mOpE; rw [if_pos h, if_neg h']
theorem mOpE_yes (s a eb fb : Int) (h : s = 1 ∨ s = 2) (h' : mOpOk s a eb fb) (h0 : 0 ≤ mOp s a eb fb) : 0 = mOpE s a eb fb := by unfold mOpE; rw [if_pos h, if_pos h', if_neg (by omega)]
theorem mOpE_none (s a eb fb : Int) (h : s = 1 ∨ s = 2) (hx : mOp s a eb fb = -1) : 3 = mOpE s a eb fb := by
  unfold mOpE; rw [if_pos h, hx]; split <;> rfl
theorem mOpOk1 (a eb fb : Int) : mOpOk 1 a eb fb ↔ (0 ≤ eb ∧ eb ≤ 7 ∧ 0 ≤ fb ∧ fb ≤ 35 ∧ 0 ≤ a ∧ a ≤ 2047) := by unfold mOpOk; rw [if_neg (by omega)]
theorem mOpOk2 (a eb fb : Int) : mOpOk 2 a eb fb ↔ (0 ≤ eb ∧ eb ≤ 7 ∧ 0 ≤ fb ∧ fb ≤ 35 ∧ 0 ≤ a ∧ a ≤ 36863) := by unfold mOpOk; rw [if_pos rfl]
set_option maxHeartbeats 4000000 in
theorem rOperand_1 (a eb fb : Int) (a0 : -9223372036854775808 ≤ a) (a1 : a ≤ 9223372036854775807) (e0 : -9223372036854775808 ≤ eb) (e1 : eb ≤ 9223372036854775807) (f0 : -9223372036854775808 ≤ fb) (f1 : fb ≤ 9223372036854775807) (w : World) :
    Calls Try.prog 15 #[.int .u8 1, .int .i64 a, .int .i64 eb, .int .i64 fb] w fun e w' => e = .returned (.tuple #[.int .i64 (mOpV 1 a eb fb), .int .i64 (mOpE 1 a eb fb)]) ∧ w = w' := by
  by_cases hc0 : 0 ≤ eb
  · by_cases hc1 : eb ≤ 7
    · by_cases hc2 : 0 ≤ fb
      · by_cases hc3 : fb ≤ 35
        · by_cases hc4 : 0 ≤ a
          · by_cases hc5 : a ≤ 2047
            · by_cases hc6 : a ≤ 767
              · go_enter Try.func15, Try.ntmps15
                go_wp2
                go_ret2
                first
                  | exact ⟨ret_tup2 (mOpV_no 1 a eb fb (fun h => by have := (mOpOk1 a eb fb).1 h.2; omega)) (mOpE_no 1 a eb fb (.inl rfl) (fun h => by have := (mOpOk1 a eb fb).1 h; omega)), rfl⟩
                  | exact ⟨ret_tup2 (mOpV_yes 1 a eb fb _ ⟨.inl rfl, (mOpOk1 a eb fb).2 (by omega)⟩ (by unfold mOp; repeat (first | rfl | omega | rw [if_pos (by omega)] | rw [if_neg (by omega)])) (by omega)) (mOpE_yes 1 a eb fb (.inl rfl) ((mOpOk1 a eb fb).2 (by omega)) (by unfold mOp; repeat (first | rfl | omega | rw [if_pos (by omega)] | rw [if_neg (by omega)]))), rfl⟩
                  | exact ⟨ret_tup2 (mOpV_none 1 a eb fb (by unfold mOp; repeat (first | rfl | omega | rw [if_pos (by omega)] | rw [if_neg (by omega)]))) (mOpE_none 1 a eb fb (.inl rfl) (by unfold mOp; repeat (first | rfl | omega | rw [if_pos (by omega)] | rw [if_neg (by omega)]))), rfl⟩
              · by_cases hc7 : a / 256 = eb
                · go_enter Try.func15, Try.ntmps15
                  go_wp2
                  go_ret2
                  first
                    | exact ⟨ret_tup2 (mOpV_no 1 a eb fb (fun h => by have := (mOpOk1 a eb fb).1 h.2; omega)) (mOpE_no 1 a eb fb (.inl rfl) (fun h => by have := (mOpOk1 a eb fb).1 h; omega)), rfl⟩
                    | exact ⟨ret_tup2 (mOpV_yes 1 a eb fb _ ⟨.inl rfl, (mOpOk1 a eb fb).2 (by omega)⟩ (by unfold mOp; repeat (first | rfl | omega | rw [if_pos (by omega)] | rw [if_neg (by omega)])) (by omega)) (mOpE_yes 1 a eb fb (.inl rfl) ((mOpOk1 a eb fb).2 (by omega)) (by unfold mOp; repeat (first | rfl | omega | rw [if_pos (by omega)] | rw [if_neg (by omega)]))), rfl⟩
                    | exact ⟨ret_tup2 (mOpV_none 1 a eb fb (by unfold mOp; repeat (first | rfl | omega | rw [if_pos (by omega)] | rw [if_neg (by omega)]))) (mOpE_none 1 a eb fb (.inl rfl) (by unfold mOp; repeat (first | rfl | omega | rw [if_pos (by omega)] | rw [if_neg (by omega)]))), rfl⟩
                · go_enter Try.func15, Try.ntmps15
                  go_wp2
                  go_ret2
                  first
                    | exact ⟨ret_tup2 (mOpV_no 1 a eb fb (fun h => by have := (mOpOk1 a eb fb).1 h.2; omega)) (mOpE_no 1 a eb fb (.inl rfl) (fun h => by have := (mOpOk1 a eb fb).1 h; omega)), rfl⟩
                    | exact ⟨ret_tup2 (mOpV_yes 1 a eb fb _ ⟨.inl rfl, (mOpOk1 a eb fb).2 (by omega)⟩ (by unfold mOp; repeat (first | rfl | omega | rw [if_pos (by omega)] | rw [if_neg (by omega)])) (by omega)) (mOpE_yes 1 a eb fb (.inl rfl) ((mOpOk1 a eb fb).2 (by omega)) (by unfold mOp; repeat (first | rfl | omega | rw [if_pos (by omega)] | rw [if_neg (by omega)]))), rfl⟩
                    | exact ⟨ret_tup2 (mOpV_none 1 a eb fb (by unfold mOp; repeat (first | rfl | omega | rw [if_pos (by omega)] | rw [if_neg (by omega)]))) (mOpE_none 1 a eb fb (.inl rfl) (by unfold mOp; repeat (first | rfl | omega | rw [if_pos (by omega)] | rw [if_neg (by omega)]))), rfl⟩
            · go_enter Try.func15, Try.ntmps15
              go_wp2
              go_ret2
              first
                | exact ⟨ret_tup2 (mOpV_no 1 a eb fb (fun h => by have := (mOpOk1 a eb fb).1 h.2; omega)) (mOpE_no 1 a eb fb (.inl rfl) (fun h => by have := (mOpOk1 a eb fb).1 h; omega)), rfl⟩
                | exact ⟨ret_tup2 (mOpV_yes 1 a eb fb _ ⟨.inl rfl, (mOpOk1 a eb fb).2 (by omega)⟩ (by unfold mOp; repeat (first | rfl | omega | rw [if_pos (by omega)] | rw [if_neg (by omega)])) (by omega)) (mOpE_yes 1 a eb fb (.inl rfl) ((mOpOk1 a eb fb).2 (by omega)) (by unfold mOp; repeat (first | rfl | omega | rw [if_pos (by omega)] | rw [if_neg (by omega)]))), rfl⟩
                | exact ⟨ret_tup2 (mOpV_none 1 a eb fb (by unfold mOp; repeat (first | rfl | omega | rw [if_pos (by omega)] | rw [if_neg (by omega)]))) (mOpE_none 1 a eb fb (.inl rfl) (by unfold mOp; repeat (first | rfl | omega | rw [if_pos (by omega)] | rw [if_neg (by omega)]))), rfl⟩
          · go_enter Try.func15, Try.ntmps15
            go_wp2
            go_ret2
            first
              | exact ⟨ret_tup2 (mOpV_no 1 a eb fb (fun h => by have := (mOpOk1 a eb fb).1 h.2; omega)) (mOpE_no 1 a eb fb (.inl rfl) (fun h => by have := (mOpOk1 a eb fb).1 h; omega)), rfl⟩
              | exact ⟨ret_tup2 (mOpV_yes 1 a eb fb _ ⟨.inl rfl, (mOpOk1 a eb fb).2 (by omega)⟩ (by unfold mOp; repeat (first | rfl | omega | rw [if_pos (by omega)] | rw [if_neg (by omega)])) (by omega)) (mOpE_yes 1 a eb fb (.inl rfl) ((mOpOk1 a eb fb).2 (by omega)) (by unfold mOp; repeat (first | rfl | omega | rw [if_pos (by omega)] | rw [if_neg (by omega)]))), rfl⟩
              | exact ⟨ret_tup2 (mOpV_none 1 a eb fb (by unfold mOp; repeat (first | rfl | omega | rw [if_pos (by omega)] | rw [if_neg (by omega)]))) (mOpE_none 1 a eb fb (.inl rfl) (by unfold mOp; repeat (first | rfl | omega | rw [if_pos (by omega)] | rw [if_neg (by omega)]))), rfl⟩
        · go_enter Try.func15, Try.ntmps15
          go_wp2
          go_ret2
          first
            | exact ⟨ret_tup2 (mOpV_no 1 a eb fb (fun h => by have := (mOpOk1 a eb fb).1 h.2; omega)) (mOpE_no 1 a eb fb (.inl rfl) (fun h => by have := (mOpOk1 a eb fb).1 h; omega)), rfl⟩
            | exact ⟨ret_tup2 (mOpV_yes 1 a eb fb _ ⟨.inl rfl, (mOpOk1 a eb fb).2 (by omega)⟩ (by unfold mOp; repeat (first | rfl | omega | rw [if_pos (by omega)] | rw [if_neg (by omega)])) (by omega)) (mOpE_yes 1 a eb fb (.inl rfl) ((mOpOk1 a eb fb).2 (by omega)) (by unfold mOp; repeat (first | rfl | omega | rw [if_pos (by omega)] | rw [if_neg (by omega)]))), rfl⟩
            | exact ⟨ret_tup2 (mOpV_none 1 a eb fb (by unfold mOp; repeat (first | rfl | omega | rw [if_pos (by omega)] | rw [if_neg (by omega)]))) (mOpE_none 1 a eb fb (.inl rfl) (by unfold mOp; repeat (first | rfl | omega | rw [if_pos (by omega)] | rw [if_neg (by omega)]))), rfl⟩
      · go_enter Try.func15, Try.ntmps15
        go_wp2
        go_ret2
        first
          | exact ⟨ret_tup2 (mOpV_no 1 a eb fb (fun h => by have := (mOpOk1 a eb fb).1 h.2; omega)) (mOpE_no 1 a eb fb (.inl rfl) (fun h => by have := (mOpOk1 a eb fb).1 h; omega)), rfl⟩
          | exact ⟨ret_tup2 (mOpV_yes 1 a eb fb _ ⟨.inl rfl, (mOpOk1 a eb fb).2 (by omega)⟩ (by unfold mOp; repeat (first | rfl | omega | rw [if_pos (by omega)] | rw [if_neg (by omega)])) (by omega)) (mOpE_yes 1 a eb fb (.inl rfl) ((mOpOk1 a eb fb).2 (by omega)) (by unfold mOp; repeat (first | rfl | omega | rw [if_pos (by omega)] | rw [if_neg (by omega)]))), rfl⟩
          | exact ⟨ret_tup2 (mOpV_none 1 a eb fb (by unfold mOp; repeat (first | rfl | omega | rw [if_pos (by omega)] | rw [if_neg (by omega)]))) (mOpE_none 1 a eb fb (.inl rfl) (by unfold mOp; repeat (first | rfl | omega | rw [if_pos (by omega)] | rw [if_neg (by omega)]))), rfl⟩
    · go_enter Try.func15, Try.ntmps15
      go_wp2
      go_ret2
      first
        | exact ⟨ret_tup2 (mOpV_no 1 a eb fb (fun h => by have := (mOpOk1 a eb fb).1 h.2; omega)) (mOpE_no 1 a eb fb (.inl rfl) (fun h => by have := (mOpOk1 a eb fb).1 h; omega)), rfl⟩
        | exact ⟨ret_tup2 (mOpV_yes 1 a eb fb _ ⟨.inl rfl, (mOpOk1 a eb fb).2 (by omega)⟩ (by unfold mOp; repeat (first | rfl | omega | rw [if_pos (by omega)] | rw [if_neg (by omega)])) (by omega)) (mOpE_yes 1 a eb fb (.inl rfl) ((mOpOk1 a eb fb).2 (by omega)) (by unfold mOp; repeat (first | rfl | omega | rw [if_pos (by omega)] | rw [if_neg (by omega)]))), rfl⟩
        | exact ⟨ret_tup2 (mOpV_none 1 a eb fb (by unfold mOp; repeat (first | rfl | omega | rw [if_pos (by omega)] | rw [if_neg (by omega)]))) (mOpE_none 1 a eb fb (.inl rfl) (by unfold mOp; repeat (first | rfl | omega | rw [if_pos (by omega)] | rw [if_neg (by omega)]))), rfl⟩
  · go_enter Try.func15, Try.ntmps15
    go_wp2
    go_ret2
    first
      | exact ⟨ret_tup2 (mOpV_no 1 a eb fb (fun h => by have := (mOpOk1 a eb fb).1 h.2; omega)) (mOpE_no 1 a eb fb (.inl rfl) (fun h => by have := (mOpOk1 a eb fb).1 h; omega)), rfl⟩
      | exact ⟨ret_tup2 (mOpV_yes 1 a eb fb _ ⟨.inl rfl, (mOpOk1 a eb fb).2 (by omega)⟩ (by unfold mOp; repeat (first | rfl | omega | rw [if_pos (by omega)] | rw [if_neg (by omega)])) (by omega)) (mOpE_yes 1 a eb fb (.inl rfl) ((mOpOk1 a eb fb).2 (by omega)) (by unfold mOp; repeat (first | rfl | omega | rw [if_pos (by omega)] | rw [if_neg (by omega)]))), rfl⟩
      | exact ⟨ret_tup2 (mOpV_none 1 a eb fb (by unfold mOp; repeat (first | rfl | omega | rw [if_pos (by omega)] | rw [if_neg (by omega)]))) (mOpE_none 1 a eb fb (.inl rfl) (by unfold mOp; repeat (first | rfl | omega | rw [if_pos (by omega)] | rw [if_neg (by omega)]))), rfl⟩
set_option maxHeartbeats 4000000 in
theorem rOperand_2 (a eb fb : Int) (a0 : -9223372036854775808 ≤ a) (a1 : a ≤ 9223372036854775807) (e0 : -9223372036854775808 ≤ eb) (e1 : eb ≤ 9223372036854775807) (f0 : -9223372036854775808 ≤ fb) (f1 : fb ≤ 9223372036854775807) (w : World) :
    Calls Try.prog 15 #[.int .u8 2, .int .i64 a, .int .i64 eb, .int .i64 fb] w fun e w' => e = .returned (.tuple #[.int .i64 (mOpV 2 a eb fb), .int .i64 (mOpE 2 a eb fb)]) ∧ w = w' := by
  by_cases hc0 : 0 ≤ eb
  · by_cases hc1 : eb ≤ 7
    · by_cases hc2 : 0 ≤ fb
      · by_cases hc3 : fb ≤ 35
        · by_cases hc4 : 0 ≤ a
          · by_cases hc5 : a ≤ 36863
            · by_cases hc6 : 2048 ≤ a ∧ a ≤ 4095
              · go_enter Try.func15, Try.ntmps15
                go_wp2
                go_ret2
                first
                  | exact ⟨ret_tup2 (mOpV_no 2 a eb fb (fun h => by have := (mOpOk2 a eb fb).1 h.2; omega)) (mOpE_no 2 a eb fb (.inr rfl) (fun h => by have := (mOpOk2 a eb fb).1 h; omega)), rfl⟩
                  | exact ⟨ret_tup2 (mOpV_yes 2 a eb fb _ ⟨.inr rfl, (mOpOk2 a eb fb).2 (by omega)⟩ (by unfold mOp; repeat (first | rfl | omega | rw [if_pos (by omega)] | rw [if_neg (by omega)])) (by omega)) (mOpE_yes 2 a eb fb (.inr rfl) ((mOpOk2 a eb fb).2 (by omega)) (by unfold mOp; repeat (first | rfl | omega | rw [if_pos (by omega)] | rw [if_neg (by omega)]))), rfl⟩
                  | exact ⟨ret_tup2 (mOpV_none 2 a eb fb (by unfold mOp; repeat (first | rfl | omega | rw [if_pos (by omega)] | rw [if_neg (by omega)]))) (mOpE_none 2 a eb fb (.inr rfl) (by unfold mOp; repeat (first | rfl | omega | rw [if_pos (by omega)] | rw [if_neg (by omega)]))), rfl⟩
              · by_cases hc7 : 2048 ≤ a ∧ a / 1024 = fb
                · go_enter Try.func15, Try.ntmps15
                  go_wp2
                  go_ret2
                  first
                    | exact ⟨ret_tup2 (mOpV_no 2 a eb fb (fun h => by have := (mOpOk2 a eb fb).1 h.2; omega)) (mOpE_no 2 a eb fb (.inr rfl) (fun h => by have := (mOpOk2 a eb fb).1 h; omega)), rfl⟩
                    | exact ⟨ret_tup2 (mOpV_yes 2 a eb fb _ ⟨.inr rfl, (mOpOk2 a eb fb).2 (by omega)⟩ (by unfold mOp; repeat (first | rfl | omega | rw [if_pos (by omega)] | rw [if_neg (by omega)])) (by omega)) (mOpE_yes 2 a eb fb (.inr rfl) ((mOpOk2 a eb fb).2 (by omega)) (by unfold mOp; repeat (first | rfl | omega | rw [if_pos (by omega)] | rw [if_neg (by omega)]))), rfl⟩
                    | exact ⟨ret_tup2 (mOpV_none 2 a eb fb (by unfold mOp; repeat (first | rfl | omega | rw [if_pos (by omega)] | rw [if_neg (by omega)]))) (mOpE_none 2 a eb fb (.inr rfl) (by unfold mOp; repeat (first | rfl | omega | rw [if_pos (by omega)] | rw [if_neg (by omega)]))), rfl⟩
                · by_cases hc8 : a < 2048 ∧ a / 1024 = fb
                  · go_enter Try.func15, Try.ntmps15
                    go_wp2
                    go_ret2
                    first
                      | exact ⟨ret_tup2 (mOpV_no 2 a eb fb (fun h => by have := (mOpOk2 a eb fb).1 h.2; omega)) (mOpE_no 2 a eb fb (.inr rfl) (fun h => by have := (mOpOk2 a eb fb).1 h; omega)), rfl⟩
                      | exact ⟨ret_tup2 (mOpV_yes 2 a eb fb _ ⟨.inr rfl, (mOpOk2 a eb fb).2 (by omega)⟩ (by unfold mOp; repeat (first | rfl | omega | rw [if_pos (by omega)] | rw [if_neg (by omega)])) (by omega)) (mOpE_yes 2 a eb fb (.inr rfl) ((mOpOk2 a eb fb).2 (by omega)) (by unfold mOp; repeat (first | rfl | omega | rw [if_pos (by omega)] | rw [if_neg (by omega)]))), rfl⟩
                      | exact ⟨ret_tup2 (mOpV_none 2 a eb fb (by unfold mOp; repeat (first | rfl | omega | rw [if_pos (by omega)] | rw [if_neg (by omega)]))) (mOpE_none 2 a eb fb (.inr rfl) (by unfold mOp; repeat (first | rfl | omega | rw [if_pos (by omega)] | rw [if_neg (by omega)]))), rfl⟩
                  · by_cases hc9 : 2048 ≤ a
                    · go_enter Try.func15, Try.ntmps15
                      go_wp2
                      go_ret2
                      first
                        | exact ⟨ret_tup2 (mOpV_no 2 a eb fb (fun h => by have := (mOpOk2 a eb fb).1 h.2; omega)) (mOpE_no 2 a eb fb (.inr rfl) (fun h => by have := (mOpOk2 a eb fb).1 h; omega)), rfl⟩
                        | exact ⟨ret_tup2 (mOpV_yes 2 a eb fb _ ⟨.inr rfl, (mOpOk2 a eb fb).2 (by omega)⟩ (by unfold mOp; repeat (first | rfl | omega | rw [if_pos (by omega)] | rw [if_neg (by omega)])) (by omega)) (mOpE_yes 2 a eb fb (.inr rfl) ((mOpOk2 a eb fb).2 (by omega)) (by unfold mOp; repeat (first | rfl | omega | rw [if_pos (by omega)] | rw [if_neg (by omega)]))), rfl⟩
                        | exact ⟨ret_tup2 (mOpV_none 2 a eb fb (by unfold mOp; repeat (first | rfl | omega | rw [if_pos (by omega)] | rw [if_neg (by omega)]))) (mOpE_none 2 a eb fb (.inr rfl) (by unfold mOp; repeat (first | rfl | omega | rw [if_pos (by omega)] | rw [if_neg (by omega)]))), rfl⟩
                    · go_enter Try.func15, Try.ntmps15
                      go_wp2
                      go_ret2
                      first
                        | exact ⟨ret_tup2 (mOpV_no 2 a eb fb (fun h => by have := (mOpOk2 a eb fb).1 h.2; omega)) (mOpE_no 2 a eb fb (.inr rfl) (fun h => by have := (mOpOk2 a eb fb).1 h; omega)), rfl⟩
                        | exact ⟨ret_tup2 (mOpV_yes 2 a eb fb _ ⟨.inr rfl, (mOpOk2 a eb fb).2 (by omega)⟩ (by unfold mOp; repeat (first | rfl | omega | rw [if_pos (by omega)] | rw [if_neg (by omega)])) (by omega)) (mOpE_yes 2 a eb fb (.inr rfl) ((mOpOk2 a eb fb).2 (by omega)) (by unfold mOp; repeat (first | rfl | omega | rw [if_pos (by omega)] | rw [if_neg (by omega)]))), rfl⟩
                        | exact ⟨ret_tup2 (mOpV_none 2 a eb fb (by unfold mOp; repeat (first | rfl | omega | rw [if_pos (by omega)] | rw [if_neg (by omega)]))) (mOpE_none 2 a eb fb (.inr rfl) (by unfold mOp; repeat (first | rfl | omega | rw [if_pos (by omega)] | rw [if_neg (by omega)]))), rfl⟩
            · go_enter Try.func15, Try.ntmps15
              go_wp2
              go_ret2
              first
                | exact ⟨ret_tup2 (mOpV_no 2 a eb fb (fun h => by have := (mOpOk2 a eb fb).1 h.2; omega)) (mOpE_no 2 a eb fb (.inr rfl) (fun h => by have := (mOpOk2 a eb fb).1 h; omega)), rfl⟩
                | exact ⟨ret_tup2 (mOpV_yes 2 a eb fb _ ⟨.inr rfl, (mOpOk2 a eb fb).2 (by omega)⟩ (by unfold mOp; repeat (first | rfl | omega | rw [if_pos (by omega)] | rw [if_neg (by omega)])) (by omega)) (mOpE_yes 2 a eb fb (.inr rfl) ((mOpOk2 a eb fb).2 (by omega)) (by unfold mOp; repeat (first | rfl | omega | rw [if_pos (by omega)] | rw [if_neg (by omega)]))), rfl⟩
                | exact ⟨ret_tup2 (mOpV_none 2 a eb fb (by unfold mOp; repeat (first | rfl | omega | rw [if_pos (by omega)] | rw [if_neg (by omega)]))) (mOpE_none 2 a eb fb (.inr rfl) (by unfold mOp; repeat (first | rfl | omega | rw [if_pos (by omega)] | rw [if_neg (by omega)]))), rfl⟩
          · go_enter Try.func15, Try.ntmps15
            go_wp2
            go_ret2
            first
              | exact ⟨ret_tup2 (mOpV_no 2 a eb fb (fun h => by have := (mOpOk2 a eb fb).1 h.2; omega)) (mOpE_no 2 a eb fb (.inr rfl) (fun h => by have := (mOpOk2 a eb fb).1 h; omega)), rfl⟩
              | exact ⟨ret_tup2 (mOpV_yes 2 a eb fb _ ⟨.inr rfl, (mOpOk2 a eb fb).2 (by omega)⟩ (by unfold mOp; repeat (first | rfl | omega | rw [if_pos (by omega)] | rw [if_neg (by omega)])) (by omega)) (mOpE_yes 2 a eb fb (.inr rfl) ((mOpOk2 a eb fb).2 (by omega)) (by unfold mOp; repeat (first | rfl | omega | rw [if_pos (by omega)] | rw [if_neg (by omega)]))), rfl⟩
              | exact ⟨ret_tup2 (mOpV_none 2 a eb fb (by unfold mOp; repeat (first | rfl | omega | rw [if_pos (by omega)] | rw [if_neg (by omega)]))) (mOpE_none 2 a eb fb (.inr rfl) (by unfold mOp; repeat (first | rfl | omega | rw [if_pos (by omega)] | rw [if_neg (by omega)]))), rfl⟩
        · go_enter Try.func15, Try.ntmps15
          go_wp2
          go_ret2
          first
            | exact ⟨ret_tup2 (mOpV_no 2 a eb fb (fun h => by have := (mOpOk2 a eb fb).1 h.2; omega)) (mOpE_no 2 a eb fb (.inr rfl) (fun h => by have := (mOpOk2 a eb fb).1 h; omega)), rfl⟩
            | exact ⟨ret_tup2 (mOpV_yes 2 a eb fb _ ⟨.inr rfl, (mOpOk2 a eb fb).2 (by omega)⟩ (by unfold mOp; repeat (first | rfl | omega | rw [if_pos (by omega)] | rw [if_neg (by omega)])) (by omega)) (mOpE_yes 2 a eb fb (.inr rfl) ((mOpOk2 a eb fb).2 (by omega)) (by unfold mOp; repeat (first | rfl | omega | rw [if_pos (by omega)] | rw [if_neg (by omega)]))), rfl⟩
            | exact ⟨ret_tup2 (mOpV_none 2 a eb fb (by unfold mOp; repeat (first | rfl | omega | rw [if_pos (by omega)] | rw [if_neg (by omega)]))) (mOpE_none 2 a eb fb (.inr rfl) (by unfold mOp; repeat (first | rfl | omega | rw [if_pos (by omega)] | rw [if_neg (by omega)]))), rfl⟩
      · go_enter Try.func15, Try.ntmps15
        go_wp2
        go_ret2
        first
          | exact ⟨ret_tup2 (mOpV_no 2 a eb fb (fun h => by have := (mOpOk2 a eb fb).1 h.2; omega)) (mOpE_no 2 a eb fb (.inr rfl) (fun h => by have := (mOpOk2 a eb fb).1 h; omega)), rfl⟩
          | exact ⟨ret_tup2 (mOpV_yes 2 a eb fb _ ⟨.inr rfl, (mOpOk2 a eb fb).2 (by omega)⟩ (by unfold mOp; repeat (first | rfl | omega | rw [if_pos (by omega)] | rw [if_neg (by omega)])) (by omega)) (mOpE_yes 2 a eb fb (.inr rfl) ((mOpOk2 a eb fb).2 (by omega)) (by unfold mOp; repeat (first | rfl | omega | rw [if_pos (by omega)] | rw [if_neg (by omega)]))), rfl⟩
          | exact ⟨ret_tup2 (mOpV_none 2 a eb fb (by unfold mOp; repeat (first | rfl | omega | rw [if_pos (by omega)] | rw [if_neg (by omega)]))) (mOpE_none 2 a eb fb (.inr rfl) (by unfold mOp; repeat (first | rfl | omega | rw [if_pos (by omega)] | rw [if_neg (by omega)]))), rfl⟩
    · go_enter Try.func15, Try.ntmps15
      go_wp2
      go_ret2
      first
        | exact ⟨ret_tup2 (mOpV_no 2 a eb fb (fun h => by have := (mOpOk2 a eb fb).1 h.2; omega)) (mOpE_no 2 a eb fb (.inr rfl) (fun h => by have := (mOpOk2 a eb fb).1 h; omega)), rfl⟩
        | exact ⟨ret_tup2 (mOpV_yes 2 a eb fb _ ⟨.inr rfl, (mOpOk2 a eb fb).2 (by omega)⟩ (by unfold mOp; repeat (first | rfl | omega | rw [if_pos (by omega)] | rw [if_neg (by omega)])) (by omega)) (mOpE_yes 2 a eb fb (.inr rfl) ((mOpOk2 a eb fb).2 (by omega)) (by unfold mOp; repeat (first | rfl | omega | rw [if_pos (by omega)] | rw [if_neg (by omega)]))), rfl⟩
        | exact ⟨ret_tup2 (mOpV_none 2 a eb fb (by unfold mOp; repeat (first | rfl | omega | rw [if_pos (by omega)] | rw [if_neg (by omega)]))) (mOpE_none 2 a eb fb (.inr rfl) (by unfold mOp; repeat (first | rfl | omega | rw [if_pos (by omega)] | rw [if_neg (by omega)]))), rfl⟩
  · go_enter Try.func15, Try.ntmps15
    go_wp2
    go_ret2
    first
      | exact ⟨ret_tup2 (mOpV_no 2 a eb fb (fun h => by have := (mOpOk2 a eb fb).1 h.2; omega)) (mOpE_no 2 a eb fb (.inr rfl) (fun h => by have := (mOpOk2 a eb fb).1 h; omega)), rfl⟩
      | exact ⟨ret_tup2 (mOpV_yes 2 a eb fb _ ⟨.inr rfl, (mOpOk2 a eb fb).2 (by omega)⟩ (by unfold mOp; repeat (first | rfl | omega | rw [if_pos (by omega)] | rw [if_neg (by omega)])) (by omega)) (mOpE_yes 2 a eb fb (.inr rfl) ((mOpOk2 a eb fb).2 (by omega)) (by unfold mOp; repeat (first | rfl | omega | rw [if_pos (by omega)] | rw [if_neg (by omega)]))), rfl⟩
      | exact ⟨ret_tup2 (mOpV_none 2 a eb fb (by unfold mOp; repeat (first | rfl | omega | rw [if_pos (by omega)] | rw [if_neg (by omega)]))) (mOpE_none 2 a eb fb (.inr rfl) (by unfold mOp; repeat (first | rfl | omega | rw [if_pos (by omega)] | rw [if_neg (by omega)]))), rfl⟩
set_option maxHeartbeats 4000000 in
theorem rOperand_0 (s a eb fb : Int) (h : ¬ (s = 1 ∨ s = 2)) (a0 : -9223372036854775808 ≤ a) (a1 : a ≤ 9223372036854775807) (e0 : -9223372036854775808 ≤ eb) (e1 : eb ≤ 9223372036854775807) (f0 : -9223372036854775808 ≤ fb) (f1 : fb ≤ 9223372036854775807) (w : World) :
    Calls Try.prog 15 #[.int .u8 s, .int .i64 a, .int .i64 eb, .int .i64 fb] w fun e w' => e = .returned (.tuple #[.int .i64 (mOpV s a eb fb), .int .i64 (mOpE s a eb fb)]) ∧ w = w' := by
  have hv := mOpV_no s a eb fb (fun c => h c.1)
  have he := mOpE_arg s a eb fb h
  have n1 : (s != 1) = true := by rw [bne_iff_ne]; omega
  have n2 : (s != 2) = true := by rw [bne_iff_ne]; omega
  rw [← hv, ← he]
  clear hv he h
  go_enter Try.func15, Try.ntmps15
  go_wp2
  go_ret2
  exact ⟨rfl, rfl⟩
theorem rOperand_any (s a eb fb : Int) (a0 : -9223372036854775808 ≤ a) (a1 : a ≤ 9223372036854775807) (e0 : -9223372036854775808 ≤ eb) (e1 : eb ≤ 9223372036854775807) (f0 : -9223372036854775808 ≤ fb) (f1 : fb ≤ 9223372036854775807) (w : World) :
    Calls Try.prog 15 #[.int .u8 s, .int .i64 a, .int .i64 eb, .int .i64 fb] w fun e w' => e = .returned (.tuple #[.int .i64 (mOpV s a eb fb), .int .i64 (mOpE s a eb fb)]) ∧ w = w' := by
  by_cases h : s = 1 ∨ s = 2
  · rcases h with rfl | rfl
    · exact rOperand_1 a eb fb a0 a1 e0 e1 f0 f1 w
    · exact rOperand_2 a eb fb a0 a1 e0 e1 f0 f1 w
  · exact rOperand_0 s a eb fb h a0 a1 e0 e1 f0 f1 w
end Go.Proofs.Ytamjknckgaffpaa
