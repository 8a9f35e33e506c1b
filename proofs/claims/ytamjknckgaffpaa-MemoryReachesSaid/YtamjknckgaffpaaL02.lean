/- Contracts of layer 2, the functions on single words. -/
import Derived.Test.YtamjknckgaffpaaChecked
import Derived.Test.YtamjknckgaffpaaP02
import Derived.Test.YtamjknckgaffpaaBase
set_option linter.unusedSimpArgs false
set_option linter.unusedVariables false
namespace Go.Proofs.Ytamjknckgaffpaa
open Go.ChangeShapes Go.WideShapes Go.ChangeAt Go.RowKit
set_option maxHeartbeats 1000000 in
theorem oddOnes_any (b : Nat) (hb : b ≤ 16) (s : Int) (h0 : 0 ≤ s) (h1 : s < 65536) (w : World) :
    Calls Try.prog 52 #[.int .u16 s, .int .i64 b] w fun e w' => e = .returned (.bool (odds b s)) ∧ w = w' := by
  go_enter Try.func52, Try.ntmps52
  go_wp2
  go_loop [5, 8] (fun o i => ∃ k : Nat, k ≤ b ∧ i = .int .i64 k ∧ o = .bool (odds k s)) (fun _ i => b - (intOf i).toNat)
  case atStart => exact ⟨0, Nat.zero_le _, rfl, rfl⟩
  case round =>
    obtain ⟨k, hk, rfl, rfl⟩ := hrel
    by_cases hlt : k < b
    · have hd : 0 ≤ s / 2 ^ k ∧ s / 2 ^ k < 65536 := by
        have p : (0 : Int) < 2 ^ k := Int.pow_pos (by decide)
        exact ⟨Int.ediv_nonneg h0 (by omega), Int.lt_of_le_of_lt (Int.ediv_le_self _ h0) h1⟩
      have ha := and1 (s / 2 ^ k) hd.1 hd.2
      clear hd
      by_cases c : s / 2 ^ k % 2 = 1
      · have H := Lib.hid (odds_succ1 k s h0 c)
        go_wp2
        go_round
        case rel => exact ⟨k + 1, by omega, by go_num, by rw [H.out]⟩
        case measure => simp [intOf]; omega
      · have H := Lib.hid (odds_succ0 k s h0 c)
        have c' : (s / 2 ^ k % 2 == 1) = false := by rw [beq_eq_false_iff_ne]; exact c
        go_wp2
        go_round
        case rel => exact ⟨k + 1, by omega, by go_num, by rw [H.out]⟩
        case measure => simp [intOf]; omega
    · have e : k = b := by omega
      subst e
      go_wp2
      go_ret
      exact ⟨rfl, rfl⟩
set_option maxHeartbeats 1000000 in
theorem Odd_any (a : Int) (h0 : 0 ≤ a) (h1 : a < 65536) (w : World) :
    Calls Try.prog 49 #[.int .u16 a] w fun e w' => e = .returned (.bool (odds 15 a)) ∧ w = w' := by
  go_enter Try.func49, Try.ntmps49
  go_wp2_with (first | (go_at_call 52; refine (oddOnes_any 15 (by omega) _ (by omega) (by omega) _).mono ?_; rintro e w1 ⟨rfl, rfl⟩))
  go_ret
  exact ⟨rfl, rfl⟩
set_option maxHeartbeats 1000000 in
theorem Put_any (a : Int) (h0 : 0 ≤ a) (h1 : a < 65536) (w : World) :
    Calls Try.prog 34 #[.int .u16 a] w fun e w' => e = .returned (.int .u16 (pPut a)) ∧ w = w' := by
  have m := and15 a h0 h1
  have o := or_join' 15 32768 (a % 32768) (by omega) (by omega) (by omega) (by omega) (by omega) (by omega)
  by_cases c : odds 15 a = true
  · go_enter Try.func34, Try.ntmps34
    go_wp2_with (first | (go_at_call 49; refine (Odd_any _ (by omega) (by omega) _).mono ?_; rintro e w1 ⟨rfl, rfl⟩))
    go_ret
    exact ⟨ret_int (by unfold pPut; rw [if_pos c]), rfl⟩
  · have c' : odds 15 a = false := by simpa using c
    go_enter Try.func34, Try.ntmps34
    go_wp2_with (first | (go_at_call 49; refine (Odd_any _ (by omega) (by omega) _).mono ?_; rintro e w1 ⟨rfl, rfl⟩))
    go_ret
    exact ⟨ret_int (by unfold pPut; rw [if_neg c]), rfl⟩
set_option maxHeartbeats 1000000 in
theorem Get_any (a : Int) (h0 : 0 ≤ a) (h1 : a < 65536) (w : World) :
    Calls Try.prog 47 #[.int .u16 a] w fun e w' => e = .returned (.tuple #[.int .u16 (a % 32768), .bool (odds 16 a)]) ∧ w = w' := by
  have m := and15 a h0 h1
  go_enter Try.func47, Try.ntmps47
  go_wp2_with (first | (go_at_call 52; refine (oddOnes_any 16 (by omega) _ (by omega) (by omega) _).mono ?_; rintro e w1 ⟨rfl, rfl⟩))
  go_ret2
  exact ⟨rfl, rfl⟩
set_option maxHeartbeats 1000000 in
theorem Flip_any (a : Int) (h0 : 0 ≤ a) (h1 : a < 65536) (k : Int) (k0 : -9223372036854775808 ≤ k) (k1 : k ≤ 9223372036854775807) (w : World) :
    Calls Try.prog 33 #[.int .u16 a, .int .i64 k] w fun e w' => e = .returned (.tuple #[.int .u16 (fV a k), .int .i64 (fE k)]) ∧ w = w' := by
  unfold fV fE
  by_cases c : k < 0 ∨ 15 < k
  · rw [if_pos c, if_pos c]
    rcases c with c | c
    · go_enter Try.func33, Try.ntmps33
      go_wp2
      go_ret2
      exact ⟨rfl, rfl⟩
    · have d : ¬ k < 0 := by omega
      go_enter Try.func33, Try.ntmps33
      go_wp2
      go_ret2
      exact ⟨rfl, rfl⟩
  · rw [if_neg c, if_neg c]
    obtain ⟨n, rfl⟩ := Int.eq_ofNat_of_zero_le (show 0 ≤ k by omega)
    have hn : n ≤ 15 := by simp at c; omega
    have p : (2 : Nat) ^ n < 65536 := Nat.lt_of_le_of_lt (Nat.pow_le_pow_right (by decide) hn) (show 2 ^ 15 < 65536 by decide)
    have q : (2 : Int) ^ n = ((2 ^ n : Nat) : Int) := by simp
    have hx : bits .xor .u16 a (2 ^ n) = xorB a n := by
      unfold xorB
      rw [q]
      generalize 2 ^ n = P at p ⊢
      rw [u16_xor a _ h0 h1 (by omega) (by omega), Int.toNat_natCast]
    have hw : IntKind.u16.wrap (2 ^ n) = 2 ^ n := by
      rw [q]
      generalize 2 ^ n = P at p ⊢
      exact IntWalk.u16_in _ (by omega)
    have b1 : 0 ≤ (n : Int) := by omega
    have b2 : (n : Int) ≤ 15 := by omega
    clear p q c
    go_enter Try.func33, Try.ntmps33
    go_wp2
    go_ret2
    exact ⟨rfl, rfl⟩
set_option maxHeartbeats 1000000 in
theorem rones_any (a : Int) (h0 : 0 ≤ a) (h1 : a < 65536) (w : World) :
    Calls Try.prog 53 #[.int .i64 a] w fun e w' => e = .returned (.int .i64 (onesN 16 a.toNat : Nat)) ∧ w = w' := by
  obtain ⟨n, rfl⟩ := Int.eq_ofNat_of_zero_le h0
  have hn : n < 65536 := by omega
  go_enter Try.func53, Try.ntmps53
  go_wp2
  go_loop [0, 3] (fun x o => ∃ j : Nat, j ≤ 16 ∧ x = .int .i64 (n / 2 ^ j : Nat) ∧ o = .int .i64 (onesN j n : Nat)) (fun x _ => (intOf x).toNat)
  case atStart => exact ⟨0, Nat.zero_le _, by simp, rfl⟩
  case round =>
    obtain ⟨j, hj, rfl, rfl⟩ := hrel
    have ho := onesN_le j n
    obtain ⟨x, hx⟩ : ∃ x, x = n / 2 ^ j := ⟨_, rfl⟩
    have hx1 : x < 65536 := by rw [hx]; exact Nat.lt_of_le_of_lt (Nat.div_le_self _ _) hn
    have hs := onesN_succ j n
    have hd : n / 2 ^ (j + 1) = x / 2 := by rw [hx, Nat.pow_succ, Nat.div_div_eq_div_mul]
    by_cases c : 0 < x
    · have hj' : j < 16 := by
        by_cases d : j < 16
        · exact d
        · have : j = 16 := by omega
          subst this
          rw [Nat.div_eq_of_lt (by omega)] at hx; omega
      rw [← hx] at hs ⊢
      have HS := Lib.hid hs
      have HD := Lib.hid hd
      clear hs hd hx
      go_wp2
      go_round
      case rel => exact ⟨j + 1, by omega, by rw [HD.out]; go_num, by rw [HS.out]; go_num⟩
      case measure => simp [intOf]; omega
    · have hz : n / 2 ^ j = 0 := by omega
      have HE := Lib.hid (onesN_stop j 16 n hz hj)
      rw [hz]
      clear hs hd hx hz
      go_wp2
      go_ret
      exact ⟨ret_int (by simp [HE.out]), rfl⟩
theorem odds_ones (s : Int) : odds 16 s = ((onesN 16 s.toNat : Nat) % 2 == 1) := rfl
end Go.Proofs.Ytamjknckgaffpaa
