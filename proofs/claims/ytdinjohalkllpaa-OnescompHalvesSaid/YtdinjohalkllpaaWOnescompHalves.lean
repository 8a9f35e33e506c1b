/- The walk of OnescompHalves. -/
import Derived.Test.YtdinjohalkllpaaP01
set_option linter.unusedSimpArgs false
set_option linter.unusedVariables false
namespace Go.Proofs.Ytdinjohalkllpaa
open Go.ChangeShapes Go.WideShapes Go.ChangeAt Go.RowKit
set_option maxHeartbeats 2000000 in
theorem onescompHalves_walk (a : Int) (w_a : (Lit.int .u16 a).wf = true) (w : World) :
    Calls Try.prog 8 #[.int .u16 a] w fun e w' => e = .returned (.bool true) ∧ Below w.heap.size w w' := by
  have ba := bounds_u16 w_a
  obtain ⟨ha0, ha1⟩ := ba
  clear w_a
  obtain ⟨m, hm, hm0, hm1⟩ : ∃ m, a % 32768 = m ∧ 0 ≤ m ∧ m < 32768 := ⟨_, rfl, by omega, by omega⟩
  have mm : m % 32768 = m := by omega
  have bv := oVal_bd m
  have be := oExt_bd m
  have bs := oShR_bd m
  have hh := half_val m hm0 hm1
  have hd := half_dim m hm0 hm1
  have hcl := half_class m hm0 hm1
  have hcn := half_neg m hm0 hm1
  obtain ⟨hco, hov⟩ := half_corr m hm0 hm1
  by_cases c0 : m = 0
  · subst c0
    clear hh hd hcl hcn hco hov bv be bs mm
    obtain ⟨k1, k2, k3, k4, k5, k6, k7, k8⟩ : oVal 0 = 0 ∧ oExt 0 = 0 ∧ oShR 0 = 0 ∧ oVal 0 = 0 ∧ oDim 0 = 0 ∧ oClass 0 = 1 ∧ oCorr 0 = 0 ∧ oOver 0 = 0 := by decide
    have k9 : oClass 65535 = 3 := by decide
    go_enter Try.func8, Try.ntmps8
    go_wp2_with (first | (go_at_call 13; refine (Value_any _ (by omega) (by omega) _).mono ?_; rintro e w1 ⟨rfl, rfl⟩) | (go_at_call 20; refine (Extend_any _ (by omega) (by omega) _).mono ?_; rintro e w1 ⟨rfl, rfl⟩) | (go_at_call 38; refine (ShiftRight_any _ (by omega) (by omega) _).mono ?_; rintro e w1 ⟨rfl, rfl⟩) | (go_at_call 32; refine (Diminish_any _ (by omega) (by omega) _).mono ?_; rintro e w1 ⟨rfl, rfl⟩) | (go_at_call 30; refine (Class_any _ (by omega) (by omega) _).mono ?_; rintro e w1 ⟨rfl, rfl⟩) | (go_at_call 28; refine (Correct_any _ (by omega) (by omega) _).mono ?_; rintro e w1 ⟨rfl, rfl⟩) | (go_at_call 26; refine (Overflow_any _ (by omega) (by omega) _).mono ?_; rintro e w1 ⟨rfl, rfl⟩) | (go_at_call 24; refine (NegAcc_any _ (by omega) (by omega) _).mono ?_; rintro e w1 ⟨rfl, rfl⟩) | (go_at_call 19; refine (works_any _).mono ?_; rintro e wf ⟨rfl, hbf⟩))
    go_ret
    exact ⟨rfl, hbf⟩
  · by_cases c1 : m = 32767
    · subst c1
      clear hh hd hcl hcn hco hov bv be bs mm
      obtain ⟨k1, k2, k3, k4, k5, k6, k7, k8⟩ : oVal 32767 = 0 ∧ oExt 32767 = 65535 ∧ oShR 32767 = 32767 ∧ oVal 32767 = 0 ∧ oDim 65535 = 0 ∧ oClass 65535 = 3 ∧ oCorr 65535 = 32767 ∧ oOver 65535 = 0 := by decide
      have k9 : oClass 0 = 1 := by decide
      go_enter Try.func8, Try.ntmps8
      go_wp2_with (first | (go_at_call 13; refine (Value_any _ (by omega) (by omega) _).mono ?_; rintro e w1 ⟨rfl, rfl⟩) | (go_at_call 20; refine (Extend_any _ (by omega) (by omega) _).mono ?_; rintro e w1 ⟨rfl, rfl⟩) | (go_at_call 38; refine (ShiftRight_any _ (by omega) (by omega) _).mono ?_; rintro e w1 ⟨rfl, rfl⟩) | (go_at_call 32; refine (Diminish_any _ (by omega) (by omega) _).mono ?_; rintro e w1 ⟨rfl, rfl⟩) | (go_at_call 30; refine (Class_any _ (by omega) (by omega) _).mono ?_; rintro e w1 ⟨rfl, rfl⟩) | (go_at_call 28; refine (Correct_any _ (by omega) (by omega) _).mono ?_; rintro e w1 ⟨rfl, rfl⟩) | (go_at_call 26; refine (Overflow_any _ (by omega) (by omega) _).mono ?_; rintro e w1 ⟨rfl, rfl⟩) | (go_at_call 24; refine (NegAcc_any _ (by omega) (by omega) _).mono ?_; rintro e w1 ⟨rfl, rfl⟩) | (go_at_call 19; refine (works_any _).mono ?_; rintro e wf ⟨rfl, hbf⟩))
      go_ret
      exact ⟨rfl, hbf⟩
    · by_cases c2 : m = 1
      · subst c2
        clear hh hd hcl hcn hco hov bv be bs mm
        obtain ⟨k1, k2, k3, k4, k5, k6, k7, k8⟩ : oVal 1 = 1 ∧ oExt 1 = 1 ∧ oShR 1 = 0 ∧ oVal 0 = 0 ∧ oDim 1 = 0 ∧ oClass 1 = 0 ∧ oCorr 1 = 1 ∧ oOver 1 = 0 := by decide
        have k9 : oClass 65534 = 2 := by decide
        go_enter Try.func8, Try.ntmps8
        go_wp2_with (first | (go_at_call 13; refine (Value_any _ (by omega) (by omega) _).mono ?_; rintro e w1 ⟨rfl, rfl⟩) | (go_at_call 20; refine (Extend_any _ (by omega) (by omega) _).mono ?_; rintro e w1 ⟨rfl, rfl⟩) | (go_at_call 38; refine (ShiftRight_any _ (by omega) (by omega) _).mono ?_; rintro e w1 ⟨rfl, rfl⟩) | (go_at_call 32; refine (Diminish_any _ (by omega) (by omega) _).mono ?_; rintro e w1 ⟨rfl, rfl⟩) | (go_at_call 30; refine (Class_any _ (by omega) (by omega) _).mono ?_; rintro e w1 ⟨rfl, rfl⟩) | (go_at_call 28; refine (Correct_any _ (by omega) (by omega) _).mono ?_; rintro e w1 ⟨rfl, rfl⟩) | (go_at_call 26; refine (Overflow_any _ (by omega) (by omega) _).mono ?_; rintro e w1 ⟨rfl, rfl⟩) | (go_at_call 24; refine (NegAcc_any _ (by omega) (by omega) _).mono ?_; rintro e w1 ⟨rfl, rfl⟩) | (go_at_call 19; refine (works_any _).mono ?_; rintro e wf ⟨rfl, hbf⟩))
        go_ret
        exact ⟨rfl, hbf⟩
      · by_cases c3 : m = 32766
        · subst c3
          clear hh hd hcl hcn hco hov bv be bs mm
          obtain ⟨k1, k2, k3, k4, k5, k6, k7, k8⟩ : oVal 32766 = -1 ∧ oExt 32766 = 65534 ∧ oShR 32766 = 32767 ∧ oVal 32767 = 0 ∧ oDim 65534 = 0 ∧ oClass 65534 = 2 ∧ oCorr 65534 = 32766 ∧ oOver 65534 = 0 := by decide
          have k9 : oClass 1 = 0 := by decide
          go_enter Try.func8, Try.ntmps8
          go_wp2_with (first | (go_at_call 13; refine (Value_any _ (by omega) (by omega) _).mono ?_; rintro e w1 ⟨rfl, rfl⟩) | (go_at_call 20; refine (Extend_any _ (by omega) (by omega) _).mono ?_; rintro e w1 ⟨rfl, rfl⟩) | (go_at_call 38; refine (ShiftRight_any _ (by omega) (by omega) _).mono ?_; rintro e w1 ⟨rfl, rfl⟩) | (go_at_call 32; refine (Diminish_any _ (by omega) (by omega) _).mono ?_; rintro e w1 ⟨rfl, rfl⟩) | (go_at_call 30; refine (Class_any _ (by omega) (by omega) _).mono ?_; rintro e w1 ⟨rfl, rfl⟩) | (go_at_call 28; refine (Correct_any _ (by omega) (by omega) _).mono ?_; rintro e w1 ⟨rfl, rfl⟩) | (go_at_call 26; refine (Overflow_any _ (by omega) (by omega) _).mono ?_; rintro e w1 ⟨rfl, rfl⟩) | (go_at_call 24; refine (NegAcc_any _ (by omega) (by omega) _).mono ?_; rintro e w1 ⟨rfl, rfl⟩) | (go_at_call 19; refine (works_any _).mono ?_; rintro e wf ⟨rfl, hbf⟩))
          go_ret
          exact ⟨rfl, hbf⟩
        · by_cases c4 : m ≤ 16383
          · have hv : oVal m = m := by unfold oVal; split <;> omega
            rw [hv] at hh hd hcl hcn bv
            rw [Int.tdiv_eq_ediv_of_nonneg (by omega)] at hh
            rw [if_neg (by omega), if_pos (by omega)] at hd
            rw [if_neg (by omega), if_neg (by omega)] at hcl hcn
            simp at hcl hcn
            go_enter Try.func8, Try.ntmps8
            go_wp2_with (first | (go_at_call 13; refine (Value_any _ (by omega) (by omega) _).mono ?_; rintro e w1 ⟨rfl, rfl⟩) | (go_at_call 20; refine (Extend_any _ (by omega) (by omega) _).mono ?_; rintro e w1 ⟨rfl, rfl⟩) | (go_at_call 38; refine (ShiftRight_any _ (by omega) (by omega) _).mono ?_; rintro e w1 ⟨rfl, rfl⟩) | (go_at_call 32; refine (Diminish_any _ (by omega) (by omega) _).mono ?_; rintro e w1 ⟨rfl, rfl⟩) | (go_at_call 30; refine (Class_any _ (by omega) (by omega) _).mono ?_; rintro e w1 ⟨rfl, rfl⟩) | (go_at_call 28; refine (Correct_any _ (by omega) (by omega) _).mono ?_; rintro e w1 ⟨rfl, rfl⟩) | (go_at_call 26; refine (Overflow_any _ (by omega) (by omega) _).mono ?_; rintro e w1 ⟨rfl, rfl⟩) | (go_at_call 24; refine (NegAcc_any _ (by omega) (by omega) _).mono ?_; rintro e w1 ⟨rfl, rfl⟩) | (go_at_call 19; refine (works_any _).mono ?_; rintro e wf ⟨rfl, hbf⟩))
            go_ret
            exact ⟨rfl, hbf⟩
          · have hv : oVal m = m - 32767 := by unfold oVal; split <;> omega
            rw [hv] at hh hd hcl hcn bv
            rw [if_neg (by omega), if_neg (by omega)] at hd
            rw [if_pos (by omega), if_neg (by omega)] at hcl hcn
            simp at hcl hcn
            go_enter Try.func8, Try.ntmps8
            go_wp2_with (first | (go_at_call 13; refine (Value_any _ (by omega) (by omega) _).mono ?_; rintro e w1 ⟨rfl, rfl⟩) | (go_at_call 20; refine (Extend_any _ (by omega) (by omega) _).mono ?_; rintro e w1 ⟨rfl, rfl⟩) | (go_at_call 38; refine (ShiftRight_any _ (by omega) (by omega) _).mono ?_; rintro e w1 ⟨rfl, rfl⟩) | (go_at_call 32; refine (Diminish_any _ (by omega) (by omega) _).mono ?_; rintro e w1 ⟨rfl, rfl⟩) | (go_at_call 30; refine (Class_any _ (by omega) (by omega) _).mono ?_; rintro e w1 ⟨rfl, rfl⟩) | (go_at_call 28; refine (Correct_any _ (by omega) (by omega) _).mono ?_; rintro e w1 ⟨rfl, rfl⟩) | (go_at_call 26; refine (Overflow_any _ (by omega) (by omega) _).mono ?_; rintro e w1 ⟨rfl, rfl⟩) | (go_at_call 24; refine (NegAcc_any _ (by omega) (by omega) _).mono ?_; rintro e w1 ⟨rfl, rfl⟩) | (go_at_call 19; refine (works_any _).mono ?_; rintro e wf ⟨rfl, hbf⟩))
            go_ret
            exact ⟨rfl, hbf⟩
end Go.Proofs.Ytdinjohalkllpaa
