/- The walk of MemoryAddresses. -/
import Derived.Test.YtamjknckgaffpaaL03f
set_option linter.unusedSimpArgs false
set_option linter.unusedVariables false
namespace Go.Proofs.Ytamjknckgaffpaa
open Go.ChangeShapes Go.WideShapes Go.ChangeAt Go.RowKit
set_option maxHeartbeats 4000000 in
theorem memoryAddresses_walk (s k eb fb su : Int) (ws : (Lit.int .u8 s).wf = true) (wk : (Lit.int .i64 k).wf = true) (we : (Lit.int .i64 eb).wf = true) (wf : (Lit.int .i64 fb).wf = true) (wu : (Lit.int .i64 su).wf = true) (w : World) :
    Calls Try.prog 3 #[.int .u8 s, .agg #[.int .i64 k, .int .i64 eb, .int .i64 fb, .int .i64 su]] w fun e w' => e = .returned (.bool true) ∧ Below w.heap.size w w' := by
  obtain ⟨s0, s1⟩ := bounds_u8 ws
  obtain ⟨k0, k1⟩ := bounds_i64 wk
  obtain ⟨e0, e1⟩ := bounds_i64 we
  obtain ⟨f0, f1⟩ := bounds_i64 wf
  obtain ⟨u0, u1⟩ := bounds_i64 wu
  clear ws wk we wf wu
  have i0 : ∀ w, (Instr.index 30 (.agg #[.int .u8 s, .int .u8 1, .int .u8 2]) (.int .i64 0)).run Try.prog w = .ok (.int .u8 s) w := fun _ => by kernel_rfl
  have i1 : ∀ w, (Instr.index 30 (.agg #[.int .u8 s, .int .u8 1, .int .u8 2]) (.int .i64 1)).run Try.prog w = .ok (.int .u8 1) w := fun _ => by kernel_rfl
  have i2 : ∀ w, (Instr.index 30 (.agg #[.int .u8 s, .int .u8 1, .int .u8 2]) (.int .i64 2)).run Try.prog w = .ok (.int .u8 2) w := fun _ => by kernel_rfl
  go_enter Try.func3, Try.ntmps3
  go_wp2_with (first | (go_at_call 10; refine (Bank_any _ _ (by omega) (by omega) (by omega) (by omega) _).mono ?_; rintro e w1 ⟨rfl, rfl⟩) | (go_at_call 11; refine (rBank_any _ _ (by omega) (by omega) (by omega) (by omega) _).mono ?_; rintro e w1 ⟨rfl, rfl⟩) | (go_at_call 12; refine (Absolute_any _ _ _ (by omega) (by omega) (by omega) (by omega) (by omega) (by omega) _).mono ?_; rintro e w1 ⟨rfl, rfl⟩) | (go_at_call 13; refine (rAbsolute_any _ _ _ (by omega) (by omega) (by omega) (by omega) (by omega) (by omega) _).mono ?_; rintro e w1 ⟨rfl, rfl⟩))
  refine wp_loop_rounds 4 ?_
  rw [rounds_succ]
  go_wp2_with (first | (go_at_call 14; refine (Operand_any _ _ _ _ (by omega) (by omega) (by omega) (by omega) (by omega) (by omega) _).mono ?_; rintro e w1 ⟨rfl, rfl⟩) | (go_at_call 15; refine (rOperand_any _ _ _ _ (by omega) (by omega) (by omega) (by omega) (by omega) (by omega) _).mono ?_; rintro e w1 ⟨rfl, rfl⟩))
  rw [rounds_succ]
  go_wp2_with (first | (go_at_call 14; refine (Operand_any _ _ _ _ (by omega) (by omega) (by omega) (by omega) (by omega) (by omega) _).mono ?_; rintro e w1 ⟨rfl, rfl⟩) | (go_at_call 15; refine (rOperand_any _ _ _ _ (by omega) (by omega) (by omega) (by omega) (by omega) (by omega) _).mono ?_; rintro e w1 ⟨rfl, rfl⟩))
  rw [rounds_succ]
  go_wp2_with (first | (go_at_call 14; refine (Operand_any _ _ _ _ (by omega) (by omega) (by omega) (by omega) (by omega) (by omega) _).mono ?_; rintro e w1 ⟨rfl, rfl⟩) | (go_at_call 15; refine (rOperand_any _ _ _ _ (by omega) (by omega) (by omega) (by omega) (by omega) (by omega) _).mono ?_; rintro e w1 ⟨rfl, rfl⟩))
  rw [rounds_succ]
  go_wp2_with (first | (go_at_call 16; refine (works3_any _).mono ?_; rintro e wf ⟨rfl, hbf⟩))
  go_ret
  exact ⟨rfl, ((Below.refl _ _).alloc (Nat.le_refl _) _).trans (hbf.mono (by simp))⟩
end Go.Proofs.Ytamjknckgaffpaa
