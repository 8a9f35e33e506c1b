/- The walk of ParityHalf. -/
import Derived.Test.YtaebepepppfooaaL02b
set_option linter.unusedSimpArgs false
set_option linter.unusedVariables false
namespace Go.Proofs.Ytaebepepppfooaa
open Go.ChangeShapes Go.WideShapes Go.ChangeAt Go.RowKit
theorem cntP_one (n : Nat) (h : odds 15 (n : Int) = true) : cntP (n + 1) = cntP n := by unfold cntP; rw [if_pos h]; cases n <;> rfl
theorem cntP_zero (n : Nat) (h : odds 15 (n : Int) = false) : cntP (n + 1) = cntP n + 1 := by
  show cntP n + (if odds 15 (n : Int) = true then 0 else 1) = cntP n + 1
  rw [h]; rfl
set_option maxHeartbeats 2000000 in
theorem parityHalf_walk (w : World) :
    Calls Try.prog 7 #[] w fun e w' => e = .returned (.bool true) ∧ Below w.heap.size w w' := by
  go_enter Try.func7, Try.ntmps7
  go_wp2
  go_loop [1, 2] (fun c i => ∃ k : Nat, k ≤ 32768 ∧ i = .int .i64 k ∧ c = .int .i64 (cntP k : Nat)) (fun _ i => 32768 - (intOf i).toNat)
  case atStart => exact ⟨0, by omega, rfl, rfl⟩
  case round =>
    obtain ⟨k, hk, rfl, rfl⟩ := hrel
    have hc := cntP_le k
    by_cases hlt : k < 32768
    · have h1 : odds 16 (k : Int) = odds 15 (k : Int) := by rw [odds16 _ (by omega) (by omega), if_pos (by omega)]
      have h2 : odds 16 ((k : Int) + 32768) = !odds 15 (k : Int) := by
        rw [odds16 _ (by omega) (by omega), if_neg (by omega), ← odds_low _ (by omega), show ((k : Int) + 32768) % 32768 = (k : Int) by omega]
      have e1 : (k : Int) % 32768 = k := by omega
      have e2 : ((k : Int) + 32768) % 32768 = k := by omega
      have w1 : IntKind.u16.wrap (k : Int) = k := IntWalk.u16_in _ (by omega)
      have w2 : IntKind.u16.wrap ((k : Int) + 32768) = (k : Int) + 32768 := IntWalk.u16_in _ (by omega)
      have g1 : (k : Int) < 32768 := by omega
      have g2 : ((cntP k : Nat) : Int) ≤ 32768 := by omega
      have g3 : 0 ≤ ((cntP k : Nat) : Int) := by omega
      have HK := Lib.hid hk
      have HL := Lib.hid hlt
      clear hk hlt hc
      by_cases c : odds 15 (k : Int) = true
      · have HC := Lib.hid (cntP_one k c)
        have hp : pPut (k : Int) = k := by unfold pPut; rw [if_pos c, e1]
        rw [c] at h1 h2
        have n1 : ((k : Int) == (k : Int) + 32768) = false := by rw [beq_eq_false_iff_ne]; omega
        go_wp2_with (first | (go_at_call 11; refine (Get_any _ (by omega) (by omega) _).mono ?_; rintro e w1 ⟨rfl, rfl⟩) | (go_at_call 13; refine (Odd_any _ (by omega) (by omega) _).mono ?_; rintro e w1 ⟨rfl, rfl⟩) | (go_at_call 15; refine (Put_any _ (by omega) (by omega) _).mono ?_; rintro e w1 ⟨rfl, rfl⟩))
        go_round
        case rel => exact ⟨k + 1, by have := HL.out; omega, by go_num, by rw [HC.out]⟩
        case measure => have := HL.out; simp [intOf]; omega
      · have c' : odds 15 (k : Int) = false := by simpa using c
        have HC := Lib.hid (cntP_zero k c')
        have hp : pPut (k : Int) = (k : Int) + 32768 := by unfold pPut; rw [if_neg c, e1]
        rw [c'] at h1 h2
        clear c
        have n1 : ((k : Int) + 32768 == (k : Int)) = false := by rw [beq_eq_false_iff_ne]; omega
        have n2 : ((k : Int) + 32768 != (k : Int)) = true := by simp; omega
        go_wp2_with (first | (go_at_call 11; refine (Get_any _ (by omega) (by omega) _).mono ?_; rintro e w1 ⟨rfl, rfl⟩) | (go_at_call 13; refine (Odd_any _ (by omega) (by omega) _).mono ?_; rintro e w1 ⟨rfl, rfl⟩) | (go_at_call 15; refine (Put_any _ (by omega) (by omega) _).mono ?_; rintro e w1 ⟨rfl, rfl⟩))
        go_round
        case rel => exact ⟨k + 1, by have := HL.out; omega, by go_num, by rw [HC.out]; go_num⟩
        case measure => have := HL.out; simp [intOf]; omega
    · have e : k = 32768 := by omega
      subst e
      have ct : cntP 32768 = 16384 := cntP_two 16384
      rw [ct]
      clear ct hc
      go_wp2_with (first | (go_at_call 17; refine (works2_any _).mono ?_; rintro e w1 ⟨rfl, rfl⟩))
      go_ret
      exact ⟨rfl, Below.refl _ _⟩
end Go.Proofs.Ytaebepepppfooaa
