/- The walk of OnescompEdits. -/
import Derived.Test.YtdinjohalkllpaaP01
set_option linter.unusedSimpArgs false
set_option linter.unusedVariables false
namespace Go.Proofs.Ytdinjohalkllpaa
open Go.ChangeShapes Go.WideShapes Go.ChangeAt Go.RowKit
set_option maxHeartbeats 2000000 in
theorem onescompEdits_walk (n : Int) (a : Int) (b : Int) (w_n : (Lit.int .i64 n).wf = true) (w_a : (Lit.int .u16 a).wf = true) (w_b : (Lit.int .u16 b).wf = true) (w : World) :
    Calls Try.prog 5 #[.int .i64 n, .int .u16 a, .int .u16 b] w fun e w' => e = .returned (.bool true) ∧ Below w.heap.size w w' := by
  have bn := bounds_i64 w_n
  obtain ⟨hn0, hn1⟩ := bn
  clear w_n
  have ba := bounds_u16 w_a
  obtain ⟨ha0, ha1⟩ := ba
  clear w_a
  have bb := bounds_u16 w_b
  obtain ⟨hb0, hb1⟩ := bb
  clear w_b
  go_enter Try.func5, Try.ntmps5
  go_wp2_with (first | (go_at_call 34; refine (CycleRight_any _ (by omega) (by omega) _).mono ?_; rintro e w1 ⟨rfl, rfl⟩) | (go_at_call 35; refine (rCycleRight_any _ (by omega) (by omega) _).mono ?_; rintro e w1 ⟨rfl, rfl⟩) | (go_at_call 36; refine (CycleLeft_any _ (by omega) (by omega) _).mono ?_; rintro e w1 ⟨rfl, rfl⟩) | (go_at_call 37; refine (rCycleLeft_any _ (by omega) (by omega) _).mono ?_; rintro e w1 ⟨rfl, rfl⟩) | (go_at_call 38; refine (ShiftRight_any _ (by omega) (by omega) _).mono ?_; rintro e w1 ⟨rfl, rfl⟩) | (go_at_call 39; refine (rShiftRight_any _ (by omega) (by omega) _).mono ?_; rintro e w1 ⟨rfl, rfl⟩) | (go_at_call 40; refine (Opcode_any _ (by omega) (by omega) _).mono ?_; rintro e w1 ⟨rfl, rfl⟩) | (go_at_call 41; refine (rOpcode_any _ (by omega) (by omega) _).mono ?_; rintro e w1 ⟨rfl, rfl⟩))
  go_loopw [7] (fun i wr => ∃ k : Nat, 15 ≤ k ∧ k ≤ 21 ∧ i = .int .i64 k ∧ Below w.heap.size w wr) (fun i _ => 21 - (intOf i).toNat)
  case atStart => exact ⟨15, by omega, by omega, rfl, Below.refl _ _⟩
  case round =>
    obtain ⟨k, hk0, hk, rfl, hW⟩ := hrel
    have HW := Lib.hid hW
    clear hW
    by_cases hlt : k ≤ 20
    · go_wp2_with (first | (go_at_call 43; refine (rEdit_any _ (by omega) (by omega) _ (by omega) (by omega) _).mono ?_; rintro e w1 ⟨rfl, rfl⟩) | (go_at_call 42; refine (Edit_any _ (by omega) (by omega) _ (by omega) (by omega) _).mono ?_; rintro e w1 ⟨rfl, hb⟩; have HB := Lib.hid hb; clear hb))
      go_roundw
      case rel => exact ⟨k + 1, by omega, by omega, by go_num, HW.out.trans (HB.out.mono HW.out.size)⟩
      case measure => simp [intOf]; omega
    · go_wp2_with (first | (go_at_call 43; refine (rEdit_any _ (by omega) (by omega) _ (by omega) (by omega) _).mono ?_; rintro e w1 ⟨rfl, rfl⟩) | (go_at_call 44; refine (TwosDiff_any _ (by omega) (by omega) _ (by omega) (by omega) _).mono ?_; rintro e w1 ⟨rfl, rfl⟩) | (go_at_call 45; refine (rTwosDiff_any _ (by omega) (by omega) _ (by omega) (by omega) _).mono ?_; rintro e w1 ⟨rfl, rfl⟩) | (go_at_call 19; refine (works_any _).mono ?_; rintro e wf ⟨rfl, hbf⟩) | (go_at_call 42; refine (Edit_any _ (by omega) (by omega) _ (by omega) (by omega) _).mono ?_; rintro e w1 ⟨rfl, hb⟩; have HB := Lib.hid hb; clear hb))
      go_ret
      exact ⟨rfl, (HW.out.trans (HB.out.mono HW.out.size)).trans (hbf.mono (HW.out.trans (HB.out.mono HW.out.size)).size)⟩
end Go.Proofs.Ytdinjohalkllpaa
