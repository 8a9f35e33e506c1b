/- Contracts of layer 6: the reference's Apply; After of both. -/
import Derived.Test.YteongalbljdjlaaP06
import Derived.Test.YteongalbljdjlaaPrs
set_option linter.unusedSimpArgs false
set_option linter.unusedVariables false
set_option maxRecDepth 100000
namespace Go.Proofs.Yteongalbljdjlaa
open Go.ChangeShapes Go.WideShapes Go.ChangeAt Go.RowKit
theorem bit_any (b : Bool) (w : World) : Calls Try.prog 29 #[.bool b] w fun e w' => e = .returned (.int .i64 (if b = true then 1 else 0)) ∧ w = w' := by
  cases b
  all_goals
    go_enter Try.func29, Try.ntmps29
    go_wp2
    go_ret
    exact ⟨rfl, rfl⟩
set_option maxHeartbeats 4000000 in
theorem rApply_any (x k : Int) (x0 : 0 ≤ x) (x1 : x < 65536) (w : World) :
    Calls Try.prog 20 #[.int .u16 x, .int .u8 k] w fun e w' => e = .returned (.tuple #[.int .u16 (pW (x % 32768) k), .int .i64 (pS (x % 32768) k), .int .i64 (pE k)]) ∧ w = w' := by
  obtain ⟨y, hy⟩ : ∃ y, x % 32768 = y := ⟨_, rfl⟩
  have HL := Lib.hid (rLow_any x x0 x1)
  rw [hy] at HL ⊢
  have m0 : 0 ≤ y := by omega
  have m1 : y < 32768 := by omega
  clear hy
  by_cases hk : k = 1 ∨ k = 2 ∨ k = 3 ∨ k = 4 ∨ k = 5 ∨ k = 6 ∨ k = 7
  · rcases hk with rfl | rfl | rfl | rfl | rfl | rfl | rfl
    · by_cases c : y = 16383
      · subst c
        go_enter Try.func20, Try.ntmps20
        go_wp2_with (go_at_call 27; refine (HL.out _).mono ?_; rintro e w1 ⟨rfl, rfl⟩)
        go_ret3
        exact ⟨rfl, rfl⟩
      · rw [show pW y 1 = oAdd y 1 by unfold pW; simp [c], show pS y 1 = 0 by unfold pS; simp [c]]
        go_enter Try.func20, Try.ntmps20
        go_wp2_with (first | (go_at_call 27; refine (HL.out _).mono ?_; rintro e w1 ⟨rfl, rfl⟩) | (go_at_call 28; refine (rAdd_any y m0 (by omega) 1 (by omega) (by omega) _).mono ?_; rintro e w1 ⟨rfl, rfl⟩))
        go_ret3
        exact ⟨rfl, rfl⟩
    · by_cases c : y = 16384
      · subst c
        go_enter Try.func20, Try.ntmps20
        go_wp2_with (go_at_call 27; refine (HL.out _).mono ?_; rintro e w1 ⟨rfl, rfl⟩)
        go_ret3
        exact ⟨rfl, rfl⟩
      · rw [show pW y 2 = oAdd y 32766 by unfold pW; simp [c], show pS y 2 = 0 by unfold pS; simp [c]]
        go_enter Try.func20, Try.ntmps20
        go_wp2_with (first | (go_at_call 27; refine (HL.out _).mono ?_; rintro e w1 ⟨rfl, rfl⟩) | (go_at_call 28; refine (rAdd_any y m0 (by omega) 32766 (by omega) (by omega) _).mono ?_; rintro e w1 ⟨rfl, rfl⟩))
        go_ret3
        exact ⟨rfl, rfl⟩
    · rw [show pW y 3 = (y + 1) % 32768 by unfold pW; simp, show pS y 3 = 0 by unfold pS; simp]
      go_enter Try.func20, Try.ntmps20
      go_wp2_with (go_at_call 27; refine (HL.out _).mono ?_; rintro e w1 ⟨rfl, rfl⟩)
      go_ret3
      exact ⟨rfl, rfl⟩
    · rw [show pW y 4 = (y + 32767) % 32768 by unfold pW; simp, show pS y 4 = 0 by unfold pS; simp]
      go_enter Try.func20, Try.ntmps20
      go_wp2_with (go_at_call 27; refine (HL.out _).mono ?_; rintro e w1 ⟨rfl, rfl⟩)
      go_ret3
      exact ⟨rfl, rfl⟩
    · by_cases c : y = 0 ∨ y = 32767
      · rw [show pW y 5 = y by unfold pW; simp [c], show pS y 5 = 0 by unfold pS; simp [c]]
        rcases c with rfl | rfl
        all_goals
          go_enter Try.func20, Try.ntmps20
          go_wp2_with (go_at_call 27; refine (HL.out _).mono ?_; rintro e w1 ⟨rfl, rfl⟩)
          go_ret3
          exact ⟨rfl, rfl⟩
      · by_cases d : y ≤ 16383
        · have d0 : 1 ≤ y := by omega
          rw [show pW y 5 = y - 1 by unfold pW; simp [c, d], show pS y 5 = 1 by unfold pS; simp [c, d]]
          clear c
          go_enter Try.func20, Try.ntmps20
          go_wp2_with (go_at_call 27; refine (HL.out _).mono ?_; rintro e w1 ⟨rfl, rfl⟩)
          go_ret3
          exact ⟨rfl, rfl⟩
        · have d0 : 16384 ≤ y := by omega
          have d1 : y ≤ 32766 := by omega
          rw [show pW y 5 = y + 1 by unfold pW; simp [c, d], show pS y 5 = -1 by unfold pS; simp [c, d]]
          clear c
          go_enter Try.func20, Try.ntmps20
          go_wp2_with (go_at_call 27; refine (HL.out _).mono ?_; rintro e w1 ⟨rfl, rfl⟩)
          go_ret3
          exact ⟨rfl, rfl⟩
    · rw [show pW y 6 = 2 * y % 32768 by unfold pW; simp, show pS y 6 = (if 16383 < y then 1 else 0) by unfold pS; simp]
      by_cases c : 16383 < y
      · rw [if_pos c]
        go_enter Try.func20, Try.ntmps20
        go_wp2_with (first | (go_at_call 27; refine (HL.out _).mono ?_; rintro e w1 ⟨rfl, rfl⟩) | (go_at_call 29; refine (bit_any true _).mono ?_; rintro e w1 ⟨rfl, rfl⟩))
        go_ret3
        exact ⟨rfl, rfl⟩
      · rw [if_neg c]
        go_enter Try.func20, Try.ntmps20
        go_wp2_with (first | (go_at_call 27; refine (HL.out _).mono ?_; rintro e w1 ⟨rfl, rfl⟩) | (go_at_call 29; refine (bit_any _ _).mono ?_; rintro e w1 ⟨rfl, rfl⟩; rw [show (if decide (16383 < y) = true then (1 : Int) else 0) = 0 by simp [c]]))
        go_ret3
        exact ⟨rfl, rfl⟩
    · rw [show pW y 7 = (2 * y + 1) % 32768 by unfold pW; simp, show pS y 7 = (if 16383 < y then 1 else 0) by unfold pS; simp]
      by_cases c : 16383 < y
      · rw [if_pos c]
        go_enter Try.func20, Try.ntmps20
        go_wp2_with (first | (go_at_call 27; refine (HL.out _).mono ?_; rintro e w1 ⟨rfl, rfl⟩) | (go_at_call 29; refine (bit_any true _).mono ?_; rintro e w1 ⟨rfl, rfl⟩))
        go_ret3
        exact ⟨rfl, rfl⟩
      · rw [if_neg c]
        go_enter Try.func20, Try.ntmps20
        go_wp2_with (first | (go_at_call 27; refine (HL.out _).mono ?_; rintro e w1 ⟨rfl, rfl⟩) | (go_at_call 29; refine (bit_any _ _).mono ?_; rintro e w1 ⟨rfl, rfl⟩; rw [show (if decide (16383 < y) = true then (1 : Int) else 0) = 0 by simp [c]]))
        go_ret3
        exact ⟨rfl, rfl⟩
  · rw [show pE k = 2 by unfold pE; rw [if_neg (by omega)], show pW y k = 0 by unfold pW; repeat (rw [if_neg (by omega)]), show pS y k = 0 by unfold pS; repeat (rw [if_neg (by omega)])]
    obtain ⟨n1, n2, n3, n4, n5, n6, n7⟩ : k ≠ 1 ∧ k ≠ 2 ∧ k ≠ 3 ∧ k ≠ 4 ∧ k ≠ 5 ∧ k ≠ 6 ∧ k ≠ 7 := by omega
    clear hk
    have t1 : (k == 1) = false := by simp [n1]
    have t2 : (k == 2) = false := by simp [n2]
    have t3 : (k == 3) = false := by simp [n3]
    have t4 : (k == 4) = false := by simp [n4]
    have t5 : (k == 5) = false := by simp [n5]
    have t6 : (k == 6) = false := by simp [n6]
    have t7 : (k == 7) = false := by simp [n7]
    go_enter Try.func20, Try.ntmps20
    go_wp2_with (go_at_call 27; refine (HL.out _).mono ?_; rintro e w1 ⟨rfl, rfl⟩)
    go_ret3
    exact ⟨rfl, rfl⟩
end Go.Proofs.Yteongalbljdjlaa
