/- The walk of MemoryReaches. -/
import Derived.Test.YtamjknckgaffpaaL03f
set_option linter.unusedSimpArgs false
set_option linter.unusedVariables false
namespace Go.Proofs.Ytamjknckgaffpaa
open Go.ChangeShapes Go.WideShapes Go.ChangeAt Go.RowKit
set_option maxHeartbeats 4000000 in
theorem memoryReaches_walk (a eb fb : Int) (wa : (Lit.int .u16 a).wf = true) (we : (Lit.int .u8 eb).wf = true) (wf : (Lit.int .u8 fb).wf = true) (w : World) :
    Calls Try.prog 6 #[.int .u16 a, .int .u8 eb, .int .u8 fb] w fun e w' => e = .returned (.bool true) ∧ Below w.heap.size w w' := by
  obtain ⟨a0, a1⟩ := bounds_u16 wa
  obtain ⟨e0, e1⟩ := bounds_u8 we
  obtain ⟨f0, f1⟩ := bounds_u8 wf
  clear wa we wf
  obtain ⟨b, hb, b0, b1⟩ : ∃ b, eb % 8 = b ∧ 0 ≤ b ∧ b < 8 := ⟨_, rfl, by omega, by omega⟩
  obtain ⟨c, hc, c0, c1⟩ : ∃ c, fb % 36 = c ∧ 0 ≤ c ∧ c < 36 := ⟨_, rfl, by omega, by omega⟩
  obtain ⟨x, hx, x0, x1⟩ : ∃ x, a % 2048 = x ∧ 0 ≤ x ∧ x < 2048 := ⟨_, rfl, by omega, by omega⟩
  obtain ⟨y, hy, y0, y1⟩ : ∃ y, a % 36864 = y ∧ 0 ≤ y ∧ y < 36864 := ⟨_, rfl, by omega, by omega⟩
  by_cases h1 : x ≤ 767 ∨ x / 256 = b
  · obtain ⟨k, k1, k2, k3, k4, k5, _, _⟩ := reach1_yes x b c x0 x1 b0 b1 c0 c1 h1
    by_cases g1 : x < 768
    · clear h1
      by_cases h2 : y / 1024 = 2 ∨ y / 1024 = 3 ∨ y / 1024 = c
      · obtain ⟨n, n1, n2, n3, n4, n5, _, _⟩ := reach2_yes y b c y0 y1 b0 b1 c0 c1 h2
        by_cases u2 : y / 1024 = 2
        · have u2' : (y / 1024 == 2) = true := by rw [u2]; rfl
          clear h2 u2
          go_enter Try.func6, Try.ntmps6
          go_wp2_with (first | (go_at_call 14; refine (Operand_any _ _ _ _ (by omega) (by omega) (by omega) (by omega) (by omega) (by omega) _).mono ?_; rintro e w1 ⟨rfl, rfl⟩) | (go_at_call 31; refine (leads_any _ _ _ _ _ (by omega) (by omega) (by omega) (by omega) (by omega) (by omega) _).mono ?_; rintro e w1 ⟨rfl, rfl⟩) | (go_at_call 16; refine (works3_any _).mono ?_; rintro e wf ⟨rfl, hbf⟩))
          go_ret
          exact ⟨rfl, hbf⟩
        · have u2' : (y / 1024 == 2) = false := by rw [beq_eq_false_iff_ne]; exact u2
          by_cases u3 : y / 1024 = 3
          · have u3' : (y / 1024 == 3) = true := by rw [u3]; rfl
            clear h2 u2 u3
            go_enter Try.func6, Try.ntmps6
            go_wp2_with (first | (go_at_call 14; refine (Operand_any _ _ _ _ (by omega) (by omega) (by omega) (by omega) (by omega) (by omega) _).mono ?_; rintro e w1 ⟨rfl, rfl⟩) | (go_at_call 31; refine (leads_any _ _ _ _ _ (by omega) (by omega) (by omega) (by omega) (by omega) (by omega) _).mono ?_; rintro e w1 ⟨rfl, rfl⟩) | (go_at_call 16; refine (works3_any _).mono ?_; rintro e wf ⟨rfl, hbf⟩))
            go_ret
            exact ⟨rfl, hbf⟩
          · have u3' : (y / 1024 == 3) = false := by rw [beq_eq_false_iff_ne]; exact u3
            have u4' : (y / 1024 == c) = true := by rw [beq_iff_eq]; omega
            clear h2 u2 u3
            go_enter Try.func6, Try.ntmps6
            go_wp2_with (first | (go_at_call 14; refine (Operand_any _ _ _ _ (by omega) (by omega) (by omega) (by omega) (by omega) (by omega) _).mono ?_; rintro e w1 ⟨rfl, rfl⟩) | (go_at_call 31; refine (leads_any _ _ _ _ _ (by omega) (by omega) (by omega) (by omega) (by omega) (by omega) _).mono ?_; rintro e w1 ⟨rfl, rfl⟩) | (go_at_call 16; refine (works3_any _).mono ?_; rintro e wf ⟨rfl, hbf⟩))
            go_ret
            exact ⟨rfl, hbf⟩
      · have n2 := reach2_no y b c y0 y1 b0 b1 c0 c1 h2
        have u2' : (y / 1024 == 2) = false := by rw [beq_eq_false_iff_ne]; omega
        have u3' : (y / 1024 == 3) = false := by rw [beq_eq_false_iff_ne]; omega
        have uc' : (y / 1024 == c) = false := by rw [beq_eq_false_iff_ne]; omega
        clear h2
        go_enter Try.func6, Try.ntmps6
        go_wp2_with (first | (go_at_call 14; refine (Operand_any _ _ _ _ (by omega) (by omega) (by omega) (by omega) (by omega) (by omega) _).mono ?_; rintro e w1 ⟨rfl, rfl⟩) | (go_at_call 31; refine (leads_any _ _ _ _ _ (by omega) (by omega) (by omega) (by omega) (by omega) (by omega) _).mono ?_; rintro e w1 ⟨rfl, rfl⟩) | (go_at_call 16; refine (works3_any _).mono ?_; rintro e wf ⟨rfl, hbf⟩))
        go_ret
        exact ⟨rfl, hbf⟩
    · have g2 : (x / 256 == b) = true := by rw [beq_iff_eq]; omega
      clear h1
      by_cases h2 : y / 1024 = 2 ∨ y / 1024 = 3 ∨ y / 1024 = c
      · obtain ⟨n, n1, n2, n3, n4, n5, _, _⟩ := reach2_yes y b c y0 y1 b0 b1 c0 c1 h2
        by_cases u2 : y / 1024 = 2
        · have u2' : (y / 1024 == 2) = true := by rw [u2]; rfl
          clear h2 u2
          go_enter Try.func6, Try.ntmps6
          go_wp2_with (first | (go_at_call 14; refine (Operand_any _ _ _ _ (by omega) (by omega) (by omega) (by omega) (by omega) (by omega) _).mono ?_; rintro e w1 ⟨rfl, rfl⟩) | (go_at_call 31; refine (leads_any _ _ _ _ _ (by omega) (by omega) (by omega) (by omega) (by omega) (by omega) _).mono ?_; rintro e w1 ⟨rfl, rfl⟩) | (go_at_call 16; refine (works3_any _).mono ?_; rintro e wf ⟨rfl, hbf⟩))
          go_ret
          exact ⟨rfl, hbf⟩
        · have u2' : (y / 1024 == 2) = false := by rw [beq_eq_false_iff_ne]; exact u2
          by_cases u3 : y / 1024 = 3
          · have u3' : (y / 1024 == 3) = true := by rw [u3]; rfl
            clear h2 u2 u3
            go_enter Try.func6, Try.ntmps6
            go_wp2_with (first | (go_at_call 14; refine (Operand_any _ _ _ _ (by omega) (by omega) (by omega) (by omega) (by omega) (by omega) _).mono ?_; rintro e w1 ⟨rfl, rfl⟩) | (go_at_call 31; refine (leads_any _ _ _ _ _ (by omega) (by omega) (by omega) (by omega) (by omega) (by omega) _).mono ?_; rintro e w1 ⟨rfl, rfl⟩) | (go_at_call 16; refine (works3_any _).mono ?_; rintro e wf ⟨rfl, hbf⟩))
            go_ret
            exact ⟨rfl, hbf⟩
          · have u3' : (y / 1024 == 3) = false := by rw [beq_eq_false_iff_ne]; exact u3
            have u4' : (y / 1024 == c) = true := by rw [beq_iff_eq]; omega
            clear h2 u2 u3
            go_enter Try.func6, Try.ntmps6
            go_wp2_with (first | (go_at_call 14; refine (Operand_any _ _ _ _ (by omega) (by omega) (by omega) (by omega) (by omega) (by omega) _).mono ?_; rintro e w1 ⟨rfl, rfl⟩) | (go_at_call 31; refine (leads_any _ _ _ _ _ (by omega) (by omega) (by omega) (by omega) (by omega) (by omega) _).mono ?_; rintro e w1 ⟨rfl, rfl⟩) | (go_at_call 16; refine (works3_any _).mono ?_; rintro e wf ⟨rfl, hbf⟩))
            go_ret
            exact ⟨rfl, hbf⟩
      · have n2 := reach2_no y b c y0 y1 b0 b1 c0 c1 h2
        have u2' : (y / 1024 == 2) = false := by rw [beq_eq_false_iff_ne]; omega
        have u3' : (y / 1024 == 3) = false := by rw [beq_eq_false_iff_ne]; omega
        have uc' : (y / 1024 == c) = false := by rw [beq_eq_false_iff_ne]; omega
        clear h2
        go_enter Try.func6, Try.ntmps6
        go_wp2_with (first | (go_at_call 14; refine (Operand_any _ _ _ _ (by omega) (by omega) (by omega) (by omega) (by omega) (by omega) _).mono ?_; rintro e w1 ⟨rfl, rfl⟩) | (go_at_call 31; refine (leads_any _ _ _ _ _ (by omega) (by omega) (by omega) (by omega) (by omega) (by omega) _).mono ?_; rintro e w1 ⟨rfl, rfl⟩) | (go_at_call 16; refine (works3_any _).mono ?_; rintro e wf ⟨rfl, hbf⟩))
        go_ret
        exact ⟨rfl, hbf⟩
  · have k2 := reach1_no x b c x0 x1 b0 b1 c0 c1 h1
    have g1 : ¬ x < 768 := by omega
    have g2 : (x / 256 == b) = false := by rw [beq_eq_false_iff_ne]; omega
    clear h1
    by_cases h2 : y / 1024 = 2 ∨ y / 1024 = 3 ∨ y / 1024 = c
    · obtain ⟨n, n1, n2, n3, n4, n5, _, _⟩ := reach2_yes y b c y0 y1 b0 b1 c0 c1 h2
      by_cases u2 : y / 1024 = 2
      · have u2' : (y / 1024 == 2) = true := by rw [u2]; rfl
        clear h2 u2
        go_enter Try.func6, Try.ntmps6
        go_wp2_with (first | (go_at_call 14; refine (Operand_any _ _ _ _ (by omega) (by omega) (by omega) (by omega) (by omega) (by omega) _).mono ?_; rintro e w1 ⟨rfl, rfl⟩) | (go_at_call 31; refine (leads_any _ _ _ _ _ (by omega) (by omega) (by omega) (by omega) (by omega) (by omega) _).mono ?_; rintro e w1 ⟨rfl, rfl⟩) | (go_at_call 16; refine (works3_any _).mono ?_; rintro e wf ⟨rfl, hbf⟩))
        go_ret
        exact ⟨rfl, hbf⟩
      · have u2' : (y / 1024 == 2) = false := by rw [beq_eq_false_iff_ne]; exact u2
        by_cases u3 : y / 1024 = 3
        · have u3' : (y / 1024 == 3) = true := by rw [u3]; rfl
          clear h2 u2 u3
          go_enter Try.func6, Try.ntmps6
          go_wp2_with (first | (go_at_call 14; refine (Operand_any _ _ _ _ (by omega) (by omega) (by omega) (by omega) (by omega) (by omega) _).mono ?_; rintro e w1 ⟨rfl, rfl⟩) | (go_at_call 31; refine (leads_any _ _ _ _ _ (by omega) (by omega) (by omega) (by omega) (by omega) (by omega) _).mono ?_; rintro e w1 ⟨rfl, rfl⟩) | (go_at_call 16; refine (works3_any _).mono ?_; rintro e wf ⟨rfl, hbf⟩))
          go_ret
          exact ⟨rfl, hbf⟩
        · have u3' : (y / 1024 == 3) = false := by rw [beq_eq_false_iff_ne]; exact u3
          have u4' : (y / 1024 == c) = true := by rw [beq_iff_eq]; omega
          clear h2 u2 u3
          go_enter Try.func6, Try.ntmps6
          go_wp2_with (first | (go_at_call 14; refine (Operand_any _ _ _ _ (by omega) (by omega) (by omega) (by omega) (by omega) (by omega) _).mono ?_; rintro e w1 ⟨rfl, rfl⟩) | (go_at_call 31; refine (leads_any _ _ _ _ _ (by omega) (by omega) (by omega) (by omega) (by omega) (by omega) _).mono ?_; rintro e w1 ⟨rfl, rfl⟩) | (go_at_call 16; refine (works3_any _).mono ?_; rintro e wf ⟨rfl, hbf⟩))
          go_ret
          exact ⟨rfl, hbf⟩
    · have n2 := reach2_no y b c y0 y1 b0 b1 c0 c1 h2
      have u2' : (y / 1024 == 2) = false := by rw [beq_eq_false_iff_ne]; omega
      have u3' : (y / 1024 == 3) = false := by rw [beq_eq_false_iff_ne]; omega
      have uc' : (y / 1024 == c) = false := by rw [beq_eq_false_iff_ne]; omega
      clear h2
      go_enter Try.func6, Try.ntmps6
      go_wp2_with (first | (go_at_call 14; refine (Operand_any _ _ _ _ (by omega) (by omega) (by omega) (by omega) (by omega) (by omega) _).mono ?_; rintro e w1 ⟨rfl, rfl⟩) | (go_at_call 31; refine (leads_any _ _ _ _ _ (by omega) (by omega) (by omega) (by omega) (by omega) (by omega) _).mono ?_; rintro e w1 ⟨rfl, rfl⟩) | (go_at_call 16; refine (works3_any _).mono ?_; rintro e wf ⟨rfl, hbf⟩))
      go_ret
      exact ⟨rfl, hbf⟩
end Go.Proofs.Ytamjknckgaffpaa
