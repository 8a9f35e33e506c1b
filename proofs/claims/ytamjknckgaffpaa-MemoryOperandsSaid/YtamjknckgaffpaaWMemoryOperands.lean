/- The walk of MemoryOperands. -/
import Derived.Test.YtamjknckgaffpaaL03f
set_option linter.unusedSimpArgs false
set_option linter.unusedVariables false
namespace Go.Proofs.Ytamjknckgaffpaa
open Go.ChangeShapes Go.WideShapes Go.ChangeAt Go.RowKit
theorem abs_at (n b c : Int) (n0 : 0 ≤ n) (n1 : n < 4096) (b0 : 0 ≤ b) (b1 : b < 8) (c0 : 0 ≤ c) (c1 : c < 36) :
    mAbsE n b c = 0 ∧ mAbsS n b c = (if n ≤ 1023 then 1 else 2) ∧ mAbsA n b c = (if n ≤ 767 then n else if n ≤ 1023 then 256 * b + n - 768 else if n ≤ 2047 then 1024 * c + n - 1024 else n) := by
  have h : mAbsOk n b c := by unfold mAbsOk; omega
  unfold mAbsE mAbsS mAbsA
  rw [if_pos h, if_pos h, if_pos h]; exact ⟨rfl, rfl, rfl⟩
set_option maxHeartbeats 4000000 in
theorem memoryOperands_walk (k bk : Int) (wk : (Lit.int .u16 k).wf = true) (wb : (Lit.int .u16 bk).wf = true) (w : World) :
    Calls Try.prog 7 #[.int .u16 k, .int .u16 bk] w fun e w' => e = .returned (.bool true) ∧ Below w.heap.size w w' := by
  obtain ⟨k0, k1⟩ := bounds_u16 wk
  obtain ⟨q0, q1⟩ := bounds_u16 wb
  clear wk wb
  obtain ⟨n, hn, n0, n1⟩ : ∃ n, k % 4096 = n ∧ 0 ≤ n ∧ n < 4096 := ⟨_, rfl, by omega, by omega⟩
  obtain ⟨b, hb, b0, b1⟩ : ∃ b, bk % 8 = b ∧ 0 ≤ b ∧ b < 8 := ⟨_, rfl, by omega, by omega⟩
  obtain ⟨p, hp, p0, p1⟩ : ∃ p, IntKind.u16.wrap (bk.tdiv 8) = p ∧ 0 ≤ p ∧ p < 65536 := ⟨bk / 8, by rw [Int.tdiv_eq_ediv_of_nonneg q0]; exact IntWalk.u16_in _ (by omega), by omega, by omega⟩
  obtain ⟨o, ho, o0, o1⟩ : ∃ o, IntKind.u16.wrap (bk.tdiv 288) = o ∧ 0 ≤ o ∧ o < 65536 := ⟨bk / 288, by rw [Int.tdiv_eq_ediv_of_nonneg q0]; exact IntWalk.u16_in _ (by omega), by omega, by omega⟩
  obtain ⟨c, hc, c0, c1⟩ : ∃ c, p % 36 = c ∧ 0 ≤ c ∧ c < 36 := ⟨_, rfl, by omega, by omega⟩
  obtain ⟨d, hd, d0, d1⟩ : ∃ d, o % 8 = d ∧ 0 ≤ d ∧ d < 8 := ⟨_, rfl, by omega, by omega⟩
  obtain ⟨r, hr, r0, r1⟩ : ∃ r, o % 35 = r ∧ 0 ≤ r ∧ r < 35 := ⟨_, rfl, by omega, by omega⟩
  obtain ⟨f, hf, f0, f1, fc⟩ : ∃ f, (c + 1 + r) % 36 = f ∧ 0 ≤ f ∧ f < 36 ∧ f ≠ c := ⟨_, rfl, by omega, by omega, by omega⟩
  obtain ⟨x1, x2, x3⟩ := abs_at n b c n0 n1 b0 b1 c0 c1
  obtain ⟨z1, z2, z3⟩ := abs_at n d f n0 n1 d0 d1 f0 f1
  by_cases h1 : n ≤ 767
  · have g : n < 768 := by omega
    rw [if_pos (by omega)] at x2 z2
    rw [if_pos h1] at x3 z3
    obtain ⟨m, m1, m2, _, _, _, m3, _⟩ := reach1_yes n b c n0 (by omega) b0 b1 c0 c1 (.inl h1)
    have e := m3 h1
    subst e
    clear m3
    go_enter Try.func7, Try.ntmps7
    go_wp2_with (first | (go_at_call 12; refine (Absolute_any _ _ _ (by omega) (by omega) (by omega) (by omega) (by omega) (by omega) _).mono ?_; rintro e w1 ⟨rfl, rfl⟩) | (go_at_call 14; refine (Operand_any _ _ _ _ (by omega) (by omega) (by omega) (by omega) (by omega) (by omega) _).mono ?_; rintro e w1 ⟨rfl, rfl⟩) | (go_at_call 16; refine (works3_any _).mono ?_; rintro e wf ⟨rfl, hbf⟩))
    go_ret
    exact ⟨rfl, hbf⟩
  · by_cases h2 : n ≤ 1023
    · rw [if_pos h2] at x2 z2
      rw [if_neg h1, if_pos h2] at x3 z3
      obtain ⟨x, hx, xx0, xx1⟩ : ∃ x, 256 * b + n - 768 = x ∧ 0 ≤ x ∧ x < 2048 := ⟨_, rfl, by omega, by omega⟩
      rw [hx] at x3
      obtain ⟨m, m1, m2, _, m4, m5, m6, m7⟩ := reach1_yes x b c xx0 xx1 b0 b1 c0 c1 (.inr (by omega))
      by_cases h3 : x ≤ 767
      · have e := m6 h3
        subst e
        have ne : (m != n) = true := by rw [bne_iff_ne]; omega
        by_cases h4 : d = b
        · have t1 : (d == b) = true := by rw [h4]; simp
          have e : 256 * d + n - 768 = m := by omega
          rw [e] at z3
          clear m6 m7 hx h4 e
          go_enter Try.func7, Try.ntmps7
          go_wp2_with (first | (go_at_call 12; refine (Absolute_any _ _ _ (by omega) (by omega) (by omega) (by omega) (by omega) (by omega) _).mono ?_; rintro e w1 ⟨rfl, rfl⟩) | (go_at_call 14; refine (Operand_any _ _ _ _ (by omega) (by omega) (by omega) (by omega) (by omega) (by omega) _).mono ?_; rintro e w1 ⟨rfl, rfl⟩) | (go_at_call 16; refine (works3_any _).mono ?_; rintro e wf ⟨rfl, hbf⟩))
          go_ret
          exact ⟨rfl, hbf⟩
        · have t1 : (d == b) = false := by rw [beq_eq_false_iff_ne]; exact h4
          obtain ⟨y, hy, hyx⟩ : ∃ y, 256 * d + n - 768 = y ∧ (y == m) = false := ⟨_, rfl, by rw [beq_eq_false_iff_ne]; omega⟩
          rw [hy] at z3
          have w1 : decide (n < 768) = false := by simp; omega
          have w2 : decide (2048 ≤ n) = false := by simp; omega
          clear m6 m7 hx h4 hy
          go_enter Try.func7, Try.ntmps7
          go_wp2_with (first | (go_at_call 12; refine (Absolute_any _ _ _ (by omega) (by omega) (by omega) (by omega) (by omega) (by omega) _).mono ?_; rintro e w1 ⟨rfl, rfl⟩) | (go_at_call 14; refine (Operand_any _ _ _ _ (by omega) (by omega) (by omega) (by omega) (by omega) (by omega) _).mono ?_; rintro e w1 ⟨rfl, rfl⟩) | (go_at_call 16; refine (works3_any _).mono ?_; rintro e wf ⟨rfl, hbf⟩))
          go_ret
          exact ⟨rfl, hbf⟩
      · have e := m7 (by omega)
        have e2 : 768 + x % 256 = n := by omega
        rw [e2] at e
        subst e
        by_cases h4 : d = b
        · have t1 : (d == b) = true := by rw [h4]; simp
          have e : 256 * d + m - 768 = x := by omega
          rw [e] at z3
          clear m6 m7 hx h4 e e2
          go_enter Try.func7, Try.ntmps7
          go_wp2_with (first | (go_at_call 12; refine (Absolute_any _ _ _ (by omega) (by omega) (by omega) (by omega) (by omega) (by omega) _).mono ?_; rintro e w1 ⟨rfl, rfl⟩) | (go_at_call 14; refine (Operand_any _ _ _ _ (by omega) (by omega) (by omega) (by omega) (by omega) (by omega) _).mono ?_; rintro e w1 ⟨rfl, rfl⟩) | (go_at_call 16; refine (works3_any _).mono ?_; rintro e wf ⟨rfl, hbf⟩))
          go_ret
          exact ⟨rfl, hbf⟩
        · have t1 : (d == b) = false := by rw [beq_eq_false_iff_ne]; exact h4
          obtain ⟨y, hy, hyx⟩ : ∃ y, 256 * d + m - 768 = y ∧ (y == x) = false := ⟨_, rfl, by rw [beq_eq_false_iff_ne]; omega⟩
          rw [hy] at z3
          have w1 : decide (m < 768) = false := by simp; omega
          have w2 : decide (2048 ≤ m) = false := by simp; omega
          clear m6 m7 hx h4 hy e2
          go_enter Try.func7, Try.ntmps7
          go_wp2_with (first | (go_at_call 12; refine (Absolute_any _ _ _ (by omega) (by omega) (by omega) (by omega) (by omega) (by omega) _).mono ?_; rintro e w1 ⟨rfl, rfl⟩) | (go_at_call 14; refine (Operand_any _ _ _ _ (by omega) (by omega) (by omega) (by omega) (by omega) (by omega) _).mono ?_; rintro e w1 ⟨rfl, rfl⟩) | (go_at_call 16; refine (works3_any _).mono ?_; rintro e wf ⟨rfl, hbf⟩))
          go_ret
          exact ⟨rfl, hbf⟩
    · rw [if_neg h2] at x2 z2
      by_cases h3 : n ≤ 2047
      · rw [if_neg h1, if_neg h2, if_pos h3] at x3 z3
        obtain ⟨x, hx, xx0, xx1⟩ : ∃ x, 1024 * c + n - 1024 = x ∧ 0 ≤ x ∧ x < 36864 := ⟨_, rfl, by omega, by omega⟩
        obtain ⟨y, hy, hyx⟩ : ∃ y, 1024 * f + n - 1024 = y ∧ (y == x) = false := ⟨_, rfl, by rw [beq_eq_false_iff_ne]; omega⟩
        rw [hx] at x3
        rw [hy] at z3
        have w1 : decide (n < 768) = false := by simp; omega
        have w2 : decide (2048 ≤ n) = false := by simp; omega
        obtain ⟨m, m1, m2, _, m4, m5, m6, m7⟩ := reach2_yes x b c xx0 xx1 b0 b1 c0 c1 (.inr (.inr (by omega)))
        by_cases h4 : 2048 ≤ x ∧ x ≤ 4095
        · have e := m6 h4
          subst e
          have ne : (m != n) = true := by rw [bne_iff_ne]; omega
          obtain ⟨h5, h6⟩ := h4
          clear m6 m7 hx hy
          go_enter Try.func7, Try.ntmps7
          go_wp2_with (first | (go_at_call 12; refine (Absolute_any _ _ _ (by omega) (by omega) (by omega) (by omega) (by omega) (by omega) _).mono ?_; rintro e w1 ⟨rfl, rfl⟩) | (go_at_call 14; refine (Operand_any _ _ _ _ (by omega) (by omega) (by omega) (by omega) (by omega) (by omega) _).mono ?_; rintro e w1 ⟨rfl, rfl⟩) | (go_at_call 16; refine (works3_any _).mono ?_; rintro e wf ⟨rfl, hbf⟩))
          go_ret
          exact ⟨rfl, hbf⟩
        · have e := m7 h4
          have e2 : 1024 + x % 1024 = n := by omega
          rw [e2] at e
          subst e
          clear m6 m7 hx hy e2 h4
          go_enter Try.func7, Try.ntmps7
          go_wp2_with (first | (go_at_call 12; refine (Absolute_any _ _ _ (by omega) (by omega) (by omega) (by omega) (by omega) (by omega) _).mono ?_; rintro e w1 ⟨rfl, rfl⟩) | (go_at_call 14; refine (Operand_any _ _ _ _ (by omega) (by omega) (by omega) (by omega) (by omega) (by omega) _).mono ?_; rintro e w1 ⟨rfl, rfl⟩) | (go_at_call 16; refine (works3_any _).mono ?_; rintro e wf ⟨rfl, hbf⟩))
          go_ret
          exact ⟨rfl, hbf⟩
      · rw [if_neg h1, if_neg h2, if_neg h3] at x3 z3
        obtain ⟨m, m1, m2, _, _, _, m6, _⟩ := reach2_yes n b c n0 (by omega) b0 b1 c0 c1 (by omega)
        have e := m6 (by omega)
        subst e
        clear m6
        go_enter Try.func7, Try.ntmps7
        go_wp2_with (first | (go_at_call 12; refine (Absolute_any _ _ _ (by omega) (by omega) (by omega) (by omega) (by omega) (by omega) _).mono ?_; rintro e w1 ⟨rfl, rfl⟩) | (go_at_call 14; refine (Operand_any _ _ _ _ (by omega) (by omega) (by omega) (by omega) (by omega) (by omega) _).mono ?_; rintro e w1 ⟨rfl, rfl⟩) | (go_at_call 16; refine (works3_any _).mono ?_; rintro e wf ⟨rfl, hbf⟩))
        go_ret
        exact ⟨rfl, hbf⟩
end Go.Proofs.Ytamjknckgaffpaa
