/- The walk of OnescompAngles. -/
import Derived.Test.YtdinjohalkllpaaP01
set_option linter.unusedSimpArgs false
set_option linter.unusedVariables false
namespace Go.Proofs.Ytdinjohalkllpaa
open Go.ChangeShapes Go.WideShapes Go.ChangeAt Go.RowKit
set_option maxHeartbeats 2000000 in
theorem onescompAngles_walk (a : Int) (b : Int) (w_a : (Lit.int .u16 a).wf = true) (w_b : (Lit.int .u16 b).wf = true) (w : World) :
    Calls Try.prog 9 #[.int .u16 a, .int .u16 b] w fun e w' => e = .returned (.bool true) ∧ Below w.heap.size w w' := by
  have ba := bounds_u16 w_a
  obtain ⟨ha0, ha1⟩ := ba
  clear w_a
  have bb := bounds_u16 w_b
  obtain ⟨hb0, hb1⟩ := bb
  clear w_b
  have bt := oTwos_bd a b
  have bv := oVal_bd (oTwos a b)
  have xa : 0 ≤ a % 32768 ∧ a % 32768 < 32768 := by omega
  have xb : 0 ≤ b % 32768 ∧ b % 32768 < 32768 := by omega
  have e0 : (a % 32768 - b % 32768 + 32768) % 32768 = (a - b) % 32768 := by omega
  by_cases c : (a - b) % 32768 = 16384
  · have h := twos_half a b c
    have c' : ((a - b) % 32768 == 16384) = true := by rw [beq_iff_eq]; exact c
    go_enter Try.func9, Try.ntmps9
    go_wp2_with (first | (go_at_call 44; refine (TwosDiff_any _ (by omega) (by omega) _ (by omega) (by omega) _).mono ?_; rintro e w1 ⟨rfl, rfl⟩) | (go_at_call 13; refine (Value_any _ (by omega) (by omega) _).mono ?_; rintro e w1 ⟨rfl, rfl⟩) | (go_at_call 19; refine (works_any _).mono ?_; rintro e wf ⟨rfl, hbf⟩))
    go_ret
    exact ⟨rfl, hbf⟩
  · have h := twos_other a b c
    have c' : ((a - b) % 32768 == 16384) = false := by rw [beq_eq_false_iff_ne]; exact c
    go_enter Try.func9, Try.ntmps9
    go_wp2_with (first | (go_at_call 44; refine (TwosDiff_any _ (by omega) (by omega) _ (by omega) (by omega) _).mono ?_; rintro e w1 ⟨rfl, rfl⟩) | (go_at_call 13; refine (Value_any _ (by omega) (by omega) _).mono ?_; rintro e w1 ⟨rfl, rfl⟩) | (go_at_call 19; refine (works_any _).mono ?_; rintro e wf ⟨rfl, hbf⟩))
    go_ret
    exact ⟨rfl, hbf⟩
end Go.Proofs.Ytdinjohalkllpaa
