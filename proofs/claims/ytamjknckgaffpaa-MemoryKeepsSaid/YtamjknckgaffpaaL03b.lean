/- Contracts of layer 3: the helpers of its statements on addresses. -/
import Derived.Test.YtamjknckgaffpaaM03
set_option linter.unusedSimpArgs false
set_option linter.unusedVariables false
namespace Go.Proofs.Ytamjknckgaffpaa
open Go.ChangeShapes Go.WideShapes Go.ChangeAt Go.RowKit
set_option maxHeartbeats 2000000 in
theorem leads_any (k eb fb s a : Int) (k0 : -9223372036854775808 ≤ k) (k1 : k ≤ 9223372036854775807) (e0 : -9223372036854775808 ≤ eb) (e1 : eb ≤ 9223372036854775807) (f0 : -9223372036854775808 ≤ fb) (f1 : fb ≤ 9223372036854775807) (w : World) :
    Calls Try.prog 31 #[.int .i64 k, .int .i64 eb, .int .i64 fb, .int .u8 s, .int .i64 a] w fun e w' => e = .returned (.bool (mLead k eb fb s a)) ∧ w = w' := by
  by_cases h1 : mAbsE k eb fb = 0
  · by_cases h2 : mAbsS k eb fb = s
    · by_cases h3 : mAbsA k eb fb = a
      · have hl : mLead k eb fb s a = true := by unfold mLead; simp [h1, h2, h3]
        rw [hl]
        clear hl
        go_enter Try.func31, Try.ntmps31
        go_wp2_with (first | (go_at_call 12; refine (Absolute_any _ _ _ (by omega) (by omega) (by omega) (by omega) (by omega) (by omega) _).mono ?_; rintro e w1 ⟨rfl, rfl⟩))
        go_ret
        exact ⟨rfl, rfl⟩
      · have hl : mLead k eb fb s a = false := by unfold mLead; simp [h1, h2, h3]
        rw [hl]
        have t3 : (mAbsA k eb fb == a) = false := by rw [beq_eq_false_iff_ne]; exact h3
        clear hl h3
        go_enter Try.func31, Try.ntmps31
        go_wp2_with (first | (go_at_call 12; refine (Absolute_any _ _ _ (by omega) (by omega) (by omega) (by omega) (by omega) (by omega) _).mono ?_; rintro e w1 ⟨rfl, rfl⟩))
        go_ret
        exact ⟨rfl, rfl⟩
    · have hl : mLead k eb fb s a = false := by unfold mLead; simp [h1, h2]
      rw [hl]
      have t2 : (mAbsS k eb fb == s) = false := by rw [beq_eq_false_iff_ne]; exact h2
      clear hl h2
      go_enter Try.func31, Try.ntmps31
      go_wp2_with (first | (go_at_call 12; refine (Absolute_any _ _ _ (by omega) (by omega) (by omega) (by omega) (by omega) (by omega) _).mono ?_; rintro e w1 ⟨rfl, rfl⟩))
      go_ret
      exact ⟨rfl, rfl⟩
  · have hl : mLead k eb fb s a = false := by unfold mLead; simp [h1]
    rw [hl]
    have t1 : (mAbsE k eb fb == 0) = false := by rw [beq_eq_false_iff_ne]; exact h1
    clear hl h1
    go_enter Try.func31, Try.ntmps31
    go_wp2_with (first | (go_at_call 12; refine (Absolute_any _ _ _ (by omega) (by omega) (by omega) (by omega) (by omega) (by omega) _).mono ?_; rintro e w1 ⟨rfl, rfl⟩))
    go_ret
    exact ⟨rfl, rfl⟩
set_option maxHeartbeats 2000000 in
theorem operand_any (s a eb fb k x : Int) (a0 : -9223372036854775808 ≤ a) (a1 : a ≤ 9223372036854775807) (e0 : -9223372036854775808 ≤ eb) (e1 : eb ≤ 9223372036854775807) (f0 : -9223372036854775808 ≤ fb) (f1 : fb ≤ 9223372036854775807) (hv : mOpV s a eb fb = k) (hx : mOpE s a eb fb = x) (w : World) :
    Calls Try.prog 35 #[.int .u8 s, .int .i64 a, .int .i64 eb, .int .i64 fb, .int .i64 k, .int .i64 x] w fun e w' => e = .returned (.bool true) ∧ w = w' := by
  subst hv
  subst hx
  go_enter Try.func35, Try.ntmps35
  go_wp2_with (first | (go_at_call 14; refine (Operand_any _ _ _ _ (by omega) (by omega) (by omega) (by omega) (by omega) (by omega) _).mono ?_; rintro e w1 ⟨rfl, rfl⟩))
  go_ret
  exact ⟨rfl, rfl⟩
end Go.Proofs.Ytamjknckgaffpaa
