/- The walk of ParityTells. -/
import Derived.Test.YtaebepepppfooaaL02b
set_option linter.unusedSimpArgs false
set_option linter.unusedVariables false
namespace Go.Proofs.Ytaebepepppfooaa
open Go.ChangeShapes Go.WideShapes Go.ChangeAt Go.RowKit
set_option maxHeartbeats 2000000 in
theorem parityTells_walk (a s n : Int) (wa : (Lit.int .u16 a).wf = true) (ws : (Lit.int .u16 s).wf = true) (wn : (Lit.int .i64 n).wf = true) (w : World) :
    Calls Try.prog 3 #[.int .u16 a, .int .u16 s, .int .i64 n] w fun e w' => e = .returned (.bool true) ∧ Below w.heap.size w w' := by
  have ba := bounds_u16 wa
  have bs := bounds_u16 ws
  have bn := bounds_i64 wn
  clear wa ws wn
  obtain ⟨ba0, ba1⟩ := ba
  obtain ⟨bs0, bs1⟩ := bs
  obtain ⟨bn0, bn1⟩ := bn
  obtain ⟨m, hm, hm0, hm1⟩ : ∃ m : Int, IntKind.u64.wrap n % 20 = m ∧ 0 ≤ m ∧ m < 20 := ⟨_, rfl, by omega, by omega⟩
  have hu : IntKind.u64.wrap n = n % 18446744073709551616 := IntKind.wrap_u64 _
  have hw0 : 0 ≤ IntKind.u64.wrap n := by rw [hu]; omega
  have hw1 : IntKind.u64.wrap n ≤ 18446744073709551615 := by rw [hu]; omega
  clear hu
  have i0 : ∀ w, (Instr.index 26 (.agg #[.int .i64 n, .int .i64 (m - 2)]) (.int .i64 0)).run Try.prog w = .ok (.int .i64 n) w := fun _ => by kernel_rfl
  have i1 : ∀ w, (Instr.index 26 (.agg #[.int .i64 n, .int .i64 (m - 2)]) (.int .i64 1)).run Try.prog w = .ok (.int .i64 (m - 2)) w := fun _ => by kernel_rfl
  go_enter Try.func3, Try.ntmps3
  go_wp2
  refine wp_loop_rounds 3 ?_
  rw [rounds_succ]
  go_wp2_with (first | (go_at_call 9; refine (Flip_any _ (by omega) (by omega) _ (by omega) (by omega) _).mono ?_; rintro e w1 ⟨rfl, rfl⟩) | (go_at_call 10; refine (rFlip_any _ (by omega) (by omega) _ (by omega) (by omega) _).mono ?_; rintro e w1 ⟨rfl, rfl⟩))
  rw [rounds_succ]
  go_wp2_with (first | (go_at_call 9; refine (Flip_any _ (by omega) (by omega) _ (by omega) (by omega) _).mono ?_; rintro e w1 ⟨rfl, rfl⟩) | (go_at_call 10; refine (rFlip_any _ (by omega) (by omega) _ (by omega) (by omega) _).mono ?_; rintro e w1 ⟨rfl, rfl⟩))
  rw [rounds_succ]
  go_wp2_with (first | (go_at_call 11; refine (Get_any _ (by omega) (by omega) _).mono ?_; rintro e w1 ⟨rfl, rfl⟩) | (go_at_call 12; refine (rGet_any _ (by omega) (by omega) _).mono ?_; rintro e w1 ⟨rfl, rfl⟩) | (go_at_call 13; refine (Odd_any _ (by omega) (by omega) _).mono ?_; rintro e w1 ⟨rfl, rfl⟩) | (go_at_call 14; refine (rOdd_any _ (by omega) (by omega) _).mono ?_; rintro e w1 ⟨rfl, rfl⟩) | (go_at_call 15; refine (Put_any _ (by omega) (by omega) _).mono ?_; rintro e w1 ⟨rfl, rfl⟩) | (go_at_call 16; refine (rPut_any _ (by omega) (by omega) _).mono ?_; rintro e w1 ⟨rfl, rfl⟩) | (go_at_call 17; refine (works2_any _).mono ?_; rintro e w1 ⟨rfl, rfl⟩))
  go_ret
  exact ⟨rfl, Below.refl _ _⟩
end Go.Proofs.Ytaebepepppfooaa
