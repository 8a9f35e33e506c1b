/- Contracts of layer 2: the reference's functions on single words, and the examples that each statement checks. -/
import Derived.Test.YtaebepepppfooaaL02
set_option linter.unusedSimpArgs false
set_option linter.unusedVariables false
namespace Go.Proofs.Ytaebepepppfooaa
open Go.ChangeShapes Go.WideShapes Go.ChangeAt Go.RowKit
theorem ones_bd (a : Int) : 0 ≤ ((onesN 16 a.toNat : Nat) : Int) ∧ ((onesN 16 a.toNat : Nat) : Int) ≤ 16 := ⟨by omega, by have := onesN_le 16 a.toNat; omega⟩
theorem ones_test (a : Int) : (((onesN 16 a.toNat : Nat) : Int) % 2 == 1) = odds 16 a := by
  unfold odds
  by_cases c : onesN 16 a.toNat % 2 = 1
  · have : ((onesN 16 a.toNat : Nat) : Int) % 2 = 1 := by omega
    rw [c, this]; rfl
  · have d : onesN 16 a.toNat % 2 = 0 := by omega
    have : ((onesN 16 a.toNat : Nat) : Int) % 2 = 0 := by omega
    rw [d, this]; rfl
theorem odds16_low (a : Int) (h0 : 0 ≤ a) : odds 16 (a % 32768) = odds 15 a := by
  rw [odds16 _ (by omega) (by omega), if_pos (by omega), odds_low a h0]
set_option maxHeartbeats 1000000 in
theorem rOdd_any (a : Int) (h0 : 0 ≤ a) (h1 : a < 65536) (w : World) :
    Calls Try.prog 14 #[.int .u16 a] w fun e w' => e = .returned (.bool (odds 15 a)) ∧ w = w' := by
  have b := ones_bd (a % 32768)
  have t := ones_test (a % 32768)
  rw [odds16_low a h0] at t
  go_enter Try.func14, Try.ntmps14
  go_wp2_with (first | (go_at_call 27; refine (rones_any _ (by omega) (by omega) _).mono ?_; rintro e w1 ⟨rfl, rfl⟩))
  go_ret
  exact ⟨rfl, rfl⟩
set_option maxHeartbeats 1000000 in
theorem rPut_any (a : Int) (h0 : 0 ≤ a) (h1 : a < 65536) (w : World) :
    Calls Try.prog 16 #[.int .u16 a] w fun e w' => e = .returned (.int .u16 (pPut a)) ∧ w = w' := by
  have e1 : IntKind.u16.wrap (a % 32768) = a % 32768 := IntWalk.u16_in _ (by omega)
  have e2 : IntKind.u16.wrap (a % 32768 + 32768) = a % 32768 + 32768 := IntWalk.u16_in _ (by omega)
  by_cases c : odds 15 a = true
  · go_enter Try.func16, Try.ntmps16
    go_wp2_with (first | (go_at_call 14; refine (rOdd_any _ (by omega) (by omega) _).mono ?_; rintro e w1 ⟨rfl, rfl⟩))
    go_ret
    exact ⟨ret_int (by unfold pPut; rw [if_pos c]), rfl⟩
  · have c' : odds 15 a = false := by simpa using c
    go_enter Try.func16, Try.ntmps16
    go_wp2_with (first | (go_at_call 14; refine (rOdd_any _ (by omega) (by omega) _).mono ?_; rintro e w1 ⟨rfl, rfl⟩))
    go_ret
    exact ⟨ret_int (by unfold pPut; rw [if_neg c]), rfl⟩
set_option maxHeartbeats 1000000 in
theorem rGet_any (a : Int) (h0 : 0 ≤ a) (h1 : a < 65536) (w : World) :
    Calls Try.prog 12 #[.int .u16 a] w fun e w' => e = .returned (.tuple #[.int .u16 (a % 32768), .bool (odds 16 a)]) ∧ w = w' := by
  have b := ones_bd a
  have t := ones_test a
  have e1 : IntKind.u16.wrap (a % 32768) = a % 32768 := IntWalk.u16_in _ (by omega)
  go_enter Try.func12, Try.ntmps12
  go_wp2_with (first | (go_at_call 27; refine (rones_any _ (by omega) (by omega) _).mono ?_; rintro e w1 ⟨rfl, rfl⟩))
  go_ret2
  exact ⟨rfl, rfl⟩
theorem pow_le15 (j : Nat) (h : j ≤ 15) : 0 < (2 : Int) ^ j ∧ (2 : Int) ^ j ≤ 32768 := by
  have p : (2 : Nat) ^ j ≤ 2 ^ 15 := Nat.pow_le_pow_right (by decide) h
  have q := Nat.two_pow_pos j
  have e : (2 : Int) ^ j = ((2 ^ j : Nat) : Int) := by simp
  rw [e]; generalize 2 ^ j = P at p q ⊢; omega
set_option maxHeartbeats 1000000 in
theorem rFlip_any (a : Int) (h0 : 0 ≤ a) (h1 : a < 65536) (k : Int) (k0 : -9223372036854775808 ≤ k) (k1 : k ≤ 9223372036854775807) (w : World) :
    Calls Try.prog 10 #[.int .u16 a, .int .i64 k] w fun e w' => e = .returned (.tuple #[.int .u16 (fV a k), .int .i64 (fE k)]) ∧ w = w' := by
  unfold fV fE
  by_cases c : k < 0 ∨ 15 < k
  · rw [if_pos c, if_pos c]
    rcases c with c | c
    · go_enter Try.func10, Try.ntmps10
      go_wp2
      go_ret2
      exact ⟨rfl, rfl⟩
    · have d : ¬ k < 0 := by omega
      go_enter Try.func10, Try.ntmps10
      go_wp2
      go_ret2
      exact ⟨rfl, rfl⟩
  · rw [if_neg c, if_neg c]
    obtain ⟨n, rfl⟩ := Int.eq_ofNat_of_zero_le (show 0 ≤ k by omega)
    have hn : n ≤ 15 := by simp at c; omega
    have bd := xorB_bd a h0 h1 n hn
    have eq := xorB_eq a h0 n
    have b1 : ¬ (n : Int) < 0 := by omega
    have b2 : ¬ 15 < (n : Int) := by omega
    clear c
    have EQ := Lib.hid eq
    clear eq
    have BD := Lib.hid bd
    clear bd
    go_enter Try.func10, Try.ntmps10
    go_wp2
    go_loop [6, 7] (fun u i => ∃ j : Nat, j ≤ n ∧ i = .int .i64 j ∧ u = .int .i64 (2 ^ j)) (fun _ i => n - (intOf i).toNat)
    case atStart => exact ⟨0, Nat.zero_le _, rfl, rfl⟩
    case round =>
      obtain ⟨j, hj, rfl, rfl⟩ := hrel
      obtain ⟨p1, p2⟩ := pow_le15 j (by omega)
      by_cases hlt : j < n
      · go_wp2
        go_round
        case rel => exact ⟨j + 1, by omega, by go_num, by rw [Int.pow_succ, Int.mul_comm]⟩
        case measure => simp [intOf]; omega
      · have e : j = n := by omega
        subst e
        have q0 : 0 ≤ a / 2 ^ j := Int.ediv_nonneg h0 (by omega)
        have q1 : a / 2 ^ j ≤ a := Int.ediv_le_self _ h0
        by_cases c : a / 2 ^ j % 2 = 1
        · have E := EQ.out
          rw [if_pos c] at E
          have hw : IntKind.u16.wrap (a - 2 ^ j) = xorB a j := by rw [← E]; exact IntWalk.u16_in _ (by have := BD.out; omega)
          clear E
          have HW := Lib.hid hw
          clear hw
          go_wp2
          go_ret2
          exact ⟨by first | rfl | (rw [HW.out]; rfl), rfl⟩
        · have E := EQ.out
          rw [if_neg c] at E
          have hw : IntKind.u16.wrap (a + 2 ^ j) = xorB a j := by rw [← E]; exact IntWalk.u16_in _ (by have := BD.out; omega)
          have c' : (a / 2 ^ j % 2 == 1) = false := by rw [beq_eq_false_iff_ne]; exact c
          clear E
          have HW := Lib.hid hw
          clear hw
          go_wp2
          go_ret2
          exact ⟨by first | rfl | (rw [HW.out]; rfl), rfl⟩
set_option maxHeartbeats 1000000 in
theorem gets_any (s : Int) (h0 : 0 ≤ s) (h1 : s < 65536) (x : Int) (o : Bool) (hx : s % 32768 = x) (ho : odds 16 s = o) (w : World) :
    Calls Try.prog 25 #[.int .u16 s, .int .u16 x, .bool o] w fun e w' => e = .returned (.bool true) ∧ w = w' := by
  subst hx
  subst ho
  go_enter Try.func25, Try.ntmps25
  go_wp2_with (first | (go_at_call 11; refine (Get_any _ (by omega) (by omega) _).mono ?_; rintro e w1 ⟨rfl, rfl⟩))
  go_ret
  exact ⟨rfl, rfl⟩
set_option maxHeartbeats 1000000 in
theorem works2_any (w : World) :
    Calls Try.prog 17 #[] w fun e w' => e = .returned (.bool true) ∧ w = w' := by
  obtain ⟨a1, a2, a3, a4, a5, a6, a7, a8, a9, a10, a11, a12, a13⟩ := kpar
  obtain ⟨b1, b2, b3, b4, b5, b6, b7, b8, b9, b10⟩ := kodd
  go_enter Try.func17, Try.ntmps17
  go_wp2_with (first | (go_at_call 9; refine (Flip_any _ (by omega) (by omega) _ (by omega) (by omega) _).mono ?_; rintro e w1 ⟨rfl, rfl⟩) | (go_at_call 15; refine (Put_any _ (by omega) (by omega) _).mono ?_; rintro e w1 ⟨rfl, rfl⟩) | (go_at_call 25; refine (gets_any _ (by omega) (by omega) _ _ (by first | assumption | omega | decide) (by first | assumption | decide) _).mono ?_; rintro e w1 ⟨rfl, rfl⟩) | (go_at_call 13; refine (Odd_any _ (by omega) (by omega) _).mono ?_; rintro e w1 ⟨rfl, rfl⟩))
  go_ret
  exact ⟨rfl, rfl⟩
end Go.Proofs.Ytaebepepppfooaa
