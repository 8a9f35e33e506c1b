/- The walk of OnescompAccs. -/
import Derived.Test.YtdinjohalkllpaaP01
set_option linter.unusedSimpArgs false
set_option linter.unusedVariables false
namespace Go.Proofs.Ytdinjohalkllpaa
open Go.ChangeShapes Go.WideShapes Go.ChangeAt Go.RowKit
set_option maxHeartbeats 2000000 in
theorem onescompAccs_walk (w0 : Int) (a : Int) (b : Int) (w_w0 : (Lit.int .u16 w0).wf = true) (w_a : (Lit.int .u16 a).wf = true) (w_b : (Lit.int .u16 b).wf = true) (w : World) :
    Calls Try.prog 4 #[.int .u16 w0, .int .u16 a, .int .u16 b] w fun e w' => e = .returned (.bool true) ∧ Below w.heap.size w w' := by
  have bw0 := bounds_u16 w_w0
  obtain ⟨hw00, hw01⟩ := bw0
  clear w_w0
  have ba := bounds_u16 w_a
  obtain ⟨ha0, ha1⟩ := ba
  clear w_a
  have bb := bounds_u16 w_b
  obtain ⟨hb0, hb1⟩ := bb
  clear w_b
  go_enter Try.func4, Try.ntmps4
  go_wp2_with (first | (go_at_call 20; refine (Extend_any _ (by omega) (by omega) _).mono ?_; rintro e w1 ⟨rfl, rfl⟩) | (go_at_call 21; refine (rExtend_any _ (by omega) (by omega) _).mono ?_; rintro e w1 ⟨rfl, rfl⟩) | (go_at_call 22; refine (AddAcc_any _ (by omega) (by omega) _ (by omega) (by omega) _).mono ?_; rintro e w1 ⟨rfl, rfl⟩) | (go_at_call 23; refine (rAddAcc_any _ (by omega) (by omega) _ (by omega) (by omega) _).mono ?_; rintro e w1 ⟨rfl, rfl⟩) | (go_at_call 24; refine (NegAcc_any _ (by omega) (by omega) _).mono ?_; rintro e w1 ⟨rfl, rfl⟩) | (go_at_call 25; refine (rNegAcc_any _ (by omega) (by omega) _).mono ?_; rintro e w1 ⟨rfl, rfl⟩) | (go_at_call 26; refine (Overflow_any _ (by omega) (by omega) _).mono ?_; rintro e w1 ⟨rfl, rfl⟩) | (go_at_call 27; refine (rOverflow_any _ (by omega) (by omega) _).mono ?_; rintro e w1 ⟨rfl, rfl⟩) | (go_at_call 28; refine (Correct_any _ (by omega) (by omega) _).mono ?_; rintro e w1 ⟨rfl, rfl⟩) | (go_at_call 29; refine (rCorrect_any _ (by omega) (by omega) _).mono ?_; rintro e w1 ⟨rfl, rfl⟩) | (go_at_call 30; refine (Class_any _ (by omega) (by omega) _).mono ?_; rintro e w1 ⟨rfl, rfl⟩) | (go_at_call 31; refine (rClass_any _ (by omega) (by omega) _).mono ?_; rintro e w1 ⟨rfl, rfl⟩) | (go_at_call 32; refine (Diminish_any _ (by omega) (by omega) _).mono ?_; rintro e w1 ⟨rfl, rfl⟩) | (go_at_call 33; refine (rDiminish_any _ (by omega) (by omega) _).mono ?_; rintro e w1 ⟨rfl, rfl⟩) | (go_at_call 19; refine (works_any _).mono ?_; rintro e wf ⟨rfl, hbf⟩))
  go_ret
  exact ⟨rfl, hbf⟩
end Go.Proofs.Ytdinjohalkllpaa
