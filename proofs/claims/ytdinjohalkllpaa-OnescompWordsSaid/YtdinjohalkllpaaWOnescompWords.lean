/- The walk of OnescompWords. -/
import Derived.Test.YtdinjohalkllpaaP01
set_option linter.unusedSimpArgs false
set_option linter.unusedVariables false
namespace Go.Proofs.Ytdinjohalkllpaa
open Go.ChangeShapes Go.WideShapes Go.ChangeAt Go.RowKit
set_option maxHeartbeats 2000000 in
theorem onescompWords_walk (a : Int) (b : Int) (n : Int) (w_a : (Lit.int .u16 a).wf = true) (w_b : (Lit.int .u16 b).wf = true) (w_n : (Lit.int .i64 n).wf = true) (w : World) :
    Calls Try.prog 3 #[.int .u16 a, .int .u16 b, .int .i64 n] w fun e w' => e = .returned (.bool true) ∧ Below w.heap.size w w' := by
  have ba := bounds_u16 w_a
  obtain ⟨ha0, ha1⟩ := ba
  clear w_a
  have bb := bounds_u16 w_b
  obtain ⟨hb0, hb1⟩ := bb
  clear w_b
  have bn := bounds_i64 w_n
  obtain ⟨hn0, hn1⟩ := bn
  clear w_n
  obtain ⟨m, hm, hm0, hm1⟩ : ∃ m, n.tmod 16500 = m ∧ -16500 < m ∧ m < 16500 := ⟨_, rfl, (tmod_bd n 16500 (by omega)).1, (tmod_bd n 16500 (by omega)).2⟩
  go_enter Try.func3, Try.ntmps3
  go_wp2_with (first | (go_at_call 11; refine (Of_any _ (by omega) (by omega) _).mono ?_; rintro e w1 ⟨rfl, rfl⟩) | (go_at_call 12; refine (rOf_any _ (by omega) (by omega) _).mono ?_; rintro e w1 ⟨rfl, rfl⟩) | (go_at_call 13; refine (Value_any _ (by omega) (by omega) _).mono ?_; rintro e w1 ⟨rfl, rfl⟩) | (go_at_call 14; refine (rValue_any _ (by omega) (by omega) _).mono ?_; rintro e w1 ⟨rfl, rfl⟩) | (go_at_call 15; refine (Neg_any _ (by omega) (by omega) _).mono ?_; rintro e w1 ⟨rfl, rfl⟩) | (go_at_call 16; refine (rNeg_any _ (by omega) (by omega) _).mono ?_; rintro e w1 ⟨rfl, rfl⟩) | (go_at_call 17; refine (Add_any _ (by omega) (by omega) _ (by omega) (by omega) _).mono ?_; rintro e w1 ⟨rfl, rfl⟩) | (go_at_call 18; refine (rAdd_any _ (by omega) (by omega) _ (by omega) (by omega) _).mono ?_; rintro e w1 ⟨rfl, rfl⟩) | (go_at_call 19; refine (works_any _).mono ?_; rintro e wf ⟨rfl, hbf⟩))
  go_outline
  go_ret
  exact ⟨rfl, hbf⟩
end Go.Proofs.Ytdinjohalkllpaa
