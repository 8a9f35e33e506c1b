/- Contracts of layer 2: the reference's functions on single words, and the examples that each statement checks. -/
import Derived.Test.YtamjknckgaffpaaL02
set_option linter.unusedSimpArgs false
set_option linter.unusedVariables false
namespace Go.Proofs.Ytamjknckgaffpaa
open Go.ChangeShapes Go.WideShapes Go.ChangeAt Go.RowKit
theorem ones_bd (a : Int) : 0 ≤ ((onesN 16 a.toNat : Nat) : Int) ∧ ((onesN 16 a.toNat : Nat) : Int) ≤ 16 := ⟨by omega, by have := onesN_le 16 a.toNat; omega⟩
theorem ones_test (a : Int) : (((onesN 16 a.toNat : Nat) : Int) % 2 == 1) = odds 16 a := by
  unfold odds
  by_cases c : onesN 16 a.toNat % 2 = 1
  · have : ((onesN 16 a.toNat : Nat) : Int) % 2 = 1 := by omega
    rw [c, this]; rfl
  · have d : onesN 16 a.toNat % 2 = 0 := by omega
    have : ((onesN 16 a.toNat : Nat) : Int) % 2 = 0 := by omega
    rw [d, this]; rfl
theorem odds16_low (a : Int) (h0 : 0 ≤ a) : odds 16 (a % 32768) = odds 15 a := by
  rw [odds16 _ (by omega) (by omega), if_pos (by omega), odds_low a h0]
set_option maxHeartbeats 1000000 in
theorem rOdd_any (a : Int) (h0 : 0 ≤ a) (h1 : a < 65536) (w : World) :
    Calls Try.prog 51 #[.int .u16 a] w fun e w' => e = .returned (.bool (odds 15 a)) ∧ w = w' := by
  have b := ones_bd (a % 32768)
  have t := ones_test (a % 32768)
  rw [odds16_low a h0] at t
  go_enter Try.func51, Try.ntmps51
  go_wp2_with (first | (go_at_call 53; refine (rones_any _ (by omega) (by omega) _).mono ?_; rintro e w1 ⟨rfl, rfl⟩))
  go_ret
  exact ⟨rfl, rfl⟩
set_option maxHeartbeats 1000000 in
theorem rPut_any (a : Int) (h0 : 0 ≤ a) (h1 : a < 65536) (w : World) :
    Calls Try.prog 46 #[.int .u16 a] w fun e w' => e = .returned (.int .u16 (pPut a)) ∧ w = w' := by
  have e1 : IntKind.u16.wrap (a % 32768) = a % 32768 := IntWalk.u16_in _ (by omega)
  have e2 : IntKind.u16.wrap (a % 32768 + 32768) = a % 32768 + 32768 := IntWalk.u16_in _ (by omega)
  by_cases c : odds 15 a = true
  · go_enter Try.func46, Try.ntmps46
    go_wp2_with (first | (go_at_call 51; refine (rOdd_any _ (by omega) (by omega) _).mono ?_; rintro e w1 ⟨rfl, rfl⟩))
    go_ret
    exact ⟨ret_int (by unfold pPut; rw [if_pos c]), rfl⟩
  · have c' : odds 15 a = false := by simpa using c
    go_enter Try.func46, Try.ntmps46
    go_wp2_with (first | (go_at_call 51; refine (rOdd_any _ (by omega) (by omega) _).mono ?_; rintro e w1 ⟨rfl, rfl⟩))
    go_ret
    exact ⟨ret_int (by unfold pPut; rw [if_neg c]), rfl⟩
set_option maxHeartbeats 1000000 in
theorem rGet_any (a : Int) (h0 : 0 ≤ a) (h1 : a < 65536) (w : World) :
    Calls Try.prog 48 #[.int .u16 a] w fun e w' => e = .returned (.tuple #[.int .u16 (a % 32768), .bool (odds 16 a)]) ∧ w = w' := by
  have b := ones_bd a
  have t := ones_test a
  have e1 : IntKind.u16.wrap (a % 32768) = a % 32768 := IntWalk.u16_in _ (by omega)
  go_enter Try.func48, Try.ntmps48
  go_wp2_with (first | (go_at_call 53; refine (rones_any _ (by omega) (by omega) _).mono ?_; rintro e w1 ⟨rfl, rfl⟩))
  go_ret2
  exact ⟨rfl, rfl⟩
theorem pow_le15 (j : Nat) (h : j ≤ 15) : 0 < (2 : Int) ^ j ∧ (2 : Int) ^ j ≤ 32768 := by
  have p : (2 : Nat) ^ j ≤ 2 ^ 15 := Nat.pow_le_pow_right (by decide) h
  have q := Nat.two_pow_pos j
  have e : (2 : Int) ^ j = ((2 ^ j : Nat) : Int) := by simp
  rw [e]; generalize 2 ^ j = P at p q ⊢; omega
end Go.Proofs.Ytamjknckgaffpaa
