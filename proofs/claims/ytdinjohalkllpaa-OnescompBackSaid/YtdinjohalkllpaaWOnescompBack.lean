/- The walk of OnescompBack. -/
import Derived.Test.YtdinjohalkllpaaP01
set_option linter.unusedSimpArgs false
set_option linter.unusedVariables false
namespace Go.Proofs.Ytdinjohalkllpaa
open Go.ChangeShapes Go.WideShapes Go.ChangeAt Go.RowKit
set_option maxHeartbeats 2000000 in
theorem onescompBack_walk (a : Int) (w_a : (Lit.int .u16 a).wf = true) (w : World) :
    Calls Try.prog 7 #[.int .u16 a] w fun e w' => e = .returned (.bool true) ∧ Below w.heap.size w w' := by
  have ba := bounds_u16 w_a
  obtain ⟨ha0, ha1⟩ := ba
  clear w_a
  obtain ⟨m, hm, hm0, hm1⟩ : ∃ m, a % 32768 = m ∧ 0 ≤ m ∧ m < 32768 := ⟨_, rfl, by omega, by omega⟩
  have mm : m % 32768 = m := by omega
  have bv := oVal_bd m
  have br := back_R m hm0 hm1
  have bl := back_L m hm0 hm1
  have bn := back_neg m hm0 hm1
  rw [mm] at bn
  have ov := of_val m hm0 hm1
  have b1 := oCyR_bd m
  have b2 := oCyL_bd m
  subst hm
  go_enter Try.func7, Try.ntmps7
  go_wp2
  go_loop [3, 4] (fun x i => ∃ k : Nat, k ≤ 15 ∧ i = .int .i64 k ∧ ∃ y : Int, x = .int .u16 y ∧ rotOk k (a % 32768) y) (fun _ i => 15 - (intOf i).toNat)
  case atStart => exact ⟨0, by omega, rfl, _, rfl, rotOk_zero _ hm0 hm1⟩
  case round =>
    obtain ⟨k, hk, rfl, y, rfl, hr⟩ := hrel
    have yb := rotOk_bd k _ y hr
    have Hr := Lib.hid hr
    clear hr
    by_cases hlt : k < 15
    · go_wp2_with (first | (go_at_call 36; refine (CycleLeft_any _ (by omega) (by omega) _).mono ?_; rintro e w1 ⟨rfl, rfl⟩))
      go_round
      case rel => exact ⟨k + 1, by omega, by go_num, _, rfl, rotOk_step k _ y Hr.out⟩
      case measure => simp [intOf]; omega
    · have hk15 : k = 15 := by omega
      subst hk15
      have hy : y = a % 32768 := rotOk_full _ y hm0 hm1 Hr.out
      subst hy
      obtain ⟨ov1, ov2⟩ := ov
      by_cases c : a % 32768 = 32767
      · rw [if_pos c] at ov2
        rw [c] at ov1 ov2 bn br bl bv b1 b2
        go_wp2_with (first | (go_at_call 36; refine (CycleLeft_any _ (by omega) (by omega) _).mono ?_; rintro e w1 ⟨rfl, rfl⟩) | (go_at_call 34; refine (CycleRight_any _ (by omega) (by omega) _).mono ?_; rintro e w1 ⟨rfl, rfl⟩) | (go_at_call 11; refine (Of_any _ (by omega) (by omega) _).mono ?_; rintro e w1 ⟨rfl, rfl⟩) | (go_at_call 13; refine (Value_any _ (by omega) (by omega) _).mono ?_; rintro e w1 ⟨rfl, rfl⟩) | (go_at_call 15; refine (Neg_any _ (by omega) (by omega) _).mono ?_; rintro e w1 ⟨rfl, rfl⟩) | (go_at_call 17; refine (Add_any _ (by omega) (by omega) _ (by omega) (by omega) _).mono ?_; rintro e w1 ⟨rfl, rfl⟩) | (go_at_call 19; refine (works_any _).mono ?_; rintro e wf ⟨rfl, hbf⟩))
        go_ret
        exact ⟨rfl, hbf⟩
      · rw [if_neg c] at ov2
        go_wp2_with (first | (go_at_call 36; refine (CycleLeft_any _ (by omega) (by omega) _).mono ?_; rintro e w1 ⟨rfl, rfl⟩) | (go_at_call 34; refine (CycleRight_any _ (by omega) (by omega) _).mono ?_; rintro e w1 ⟨rfl, rfl⟩) | (go_at_call 11; refine (Of_any _ (by omega) (by omega) _).mono ?_; rintro e w1 ⟨rfl, rfl⟩) | (go_at_call 13; refine (Value_any _ (by omega) (by omega) _).mono ?_; rintro e w1 ⟨rfl, rfl⟩) | (go_at_call 15; refine (Neg_any _ (by omega) (by omega) _).mono ?_; rintro e w1 ⟨rfl, rfl⟩) | (go_at_call 17; refine (Add_any _ (by omega) (by omega) _ (by omega) (by omega) _).mono ?_; rintro e w1 ⟨rfl, rfl⟩) | (go_at_call 19; refine (works_any _).mono ?_; rintro e wf ⟨rfl, hbf⟩))
        go_ret
        exact ⟨rfl, hbf⟩
end Go.Proofs.Ytdinjohalkllpaa
