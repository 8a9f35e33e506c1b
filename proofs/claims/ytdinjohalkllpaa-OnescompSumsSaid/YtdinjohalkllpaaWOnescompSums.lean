/- The walk of OnescompSums. -/
import Derived.Test.YtdinjohalkllpaaP01
set_option linter.unusedSimpArgs false
set_option linter.unusedVariables false
namespace Go.Proofs.Ytdinjohalkllpaa
open Go.ChangeShapes Go.WideShapes Go.ChangeAt Go.RowKit
set_option maxHeartbeats 2000000 in
theorem onescompSums_walk (a : Int) (b : Int) (w_a : (Lit.int .u16 a).wf = true) (w_b : (Lit.int .u16 b).wf = true) (w : World) :
    Calls Try.prog 6 #[.int .u16 a, .int .u16 b] w fun e w' => e = .returned (.bool true) ∧ Below w.heap.size w w' := by
  have ba := bounds_u16 w_a
  obtain ⟨ha0, ha1⟩ := ba
  clear w_a
  have bb := bounds_u16 w_b
  obtain ⟨hb0, hb1⟩ := bb
  clear w_b
  have va := oVal_bd a
  have vb := oVal_bd b
  have ea := oExt_bd a
  have eb := oExt_bd b
  have ab := oAddA_bd (oExt a) (oExt b) ea.1 ea.2 eb.1 eb.2
  have cb := oCorr_bd (oAddA (oExt a) (oExt b)) ab.1 ab.2
  have sc := sums_corr a b
  have cm := oAdd_comm b a
  have ad := oAdd_bd a b
  by_cases c1 : 16383 < oVal a + oVal b
  · have so : oOver (oAddA (oExt a) (oExt b)) = 1 := by rw [sums_over, if_pos c1]
    rw [so] at sc
    go_enter Try.func6, Try.ntmps6
    go_wp2_with (first | (go_at_call 13; refine (Value_any _ (by omega) (by omega) _).mono ?_; rintro e w1 ⟨rfl, rfl⟩) | (go_at_call 20; refine (Extend_any _ (by omega) (by omega) _).mono ?_; rintro e w1 ⟨rfl, rfl⟩) | (go_at_call 22; refine (AddAcc_any _ (by omega) (by omega) _ (by omega) (by omega) _).mono ?_; rintro e w1 ⟨rfl, rfl⟩) | (go_at_call 26; refine (Overflow_any _ (by omega) (by omega) _).mono ?_; rintro e w1 ⟨rfl, rfl⟩) | (go_at_call 28; refine (Correct_any _ (by omega) (by omega) _).mono ?_; rintro e w1 ⟨rfl, rfl⟩) | (go_at_call 17; refine (Add_any _ (by omega) (by omega) _ (by omega) (by omega) _).mono ?_; rintro e w1 ⟨rfl, rfl⟩) | (go_at_call 19; refine (works_any _).mono ?_; rintro e wf ⟨rfl, hbf⟩))
    go_ret
    exact ⟨rfl, hbf⟩
  · by_cases c2 : oVal a + oVal b < -16383
    · have so : oOver (oAddA (oExt a) (oExt b)) = -1 := by rw [sums_over, if_neg c1, if_pos c2]
      rw [so] at sc
      go_enter Try.func6, Try.ntmps6
      go_wp2_with (first | (go_at_call 13; refine (Value_any _ (by omega) (by omega) _).mono ?_; rintro e w1 ⟨rfl, rfl⟩) | (go_at_call 20; refine (Extend_any _ (by omega) (by omega) _).mono ?_; rintro e w1 ⟨rfl, rfl⟩) | (go_at_call 22; refine (AddAcc_any _ (by omega) (by omega) _ (by omega) (by omega) _).mono ?_; rintro e w1 ⟨rfl, rfl⟩) | (go_at_call 26; refine (Overflow_any _ (by omega) (by omega) _).mono ?_; rintro e w1 ⟨rfl, rfl⟩) | (go_at_call 28; refine (Correct_any _ (by omega) (by omega) _).mono ?_; rintro e w1 ⟨rfl, rfl⟩) | (go_at_call 17; refine (Add_any _ (by omega) (by omega) _ (by omega) (by omega) _).mono ?_; rintro e w1 ⟨rfl, rfl⟩) | (go_at_call 19; refine (works_any _).mono ?_; rintro e wf ⟨rfl, hbf⟩))
      go_ret
      exact ⟨rfl, hbf⟩
    · have so : oOver (oAddA (oExt a) (oExt b)) = 0 := by rw [sums_over, if_neg c1, if_neg c2]
      have sd := sums_add a b (by omega) (by omega)
      rw [so] at sc
      go_enter Try.func6, Try.ntmps6
      go_wp2_with (first | (go_at_call 13; refine (Value_any _ (by omega) (by omega) _).mono ?_; rintro e w1 ⟨rfl, rfl⟩) | (go_at_call 20; refine (Extend_any _ (by omega) (by omega) _).mono ?_; rintro e w1 ⟨rfl, rfl⟩) | (go_at_call 22; refine (AddAcc_any _ (by omega) (by omega) _ (by omega) (by omega) _).mono ?_; rintro e w1 ⟨rfl, rfl⟩) | (go_at_call 26; refine (Overflow_any _ (by omega) (by omega) _).mono ?_; rintro e w1 ⟨rfl, rfl⟩) | (go_at_call 28; refine (Correct_any _ (by omega) (by omega) _).mono ?_; rintro e w1 ⟨rfl, rfl⟩) | (go_at_call 17; refine (Add_any _ (by omega) (by omega) _ (by omega) (by omega) _).mono ?_; rintro e w1 ⟨rfl, rfl⟩) | (go_at_call 19; refine (works_any _).mono ?_; rintro e wf ⟨rfl, hbf⟩))
      go_ret
      exact ⟨rfl, hbf⟩
end Go.Proofs.Ytdinjohalkllpaa
