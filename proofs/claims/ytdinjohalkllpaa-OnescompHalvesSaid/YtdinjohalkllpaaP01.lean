/- Plain lemmas for the statements of layer 1. -/
import Derived.Test.YtdinjohalkllpaaL01b
set_option linter.unusedSimpArgs false
set_option linter.unusedVariables false
namespace Go.Proofs.Ytdinjohalkllpaa
open Go.ChangeShapes Go.WideShapes Go.ChangeAt Go.RowKit

theorem oVal_bd (a : Int) : -16383 ≤ oVal a ∧ oVal a ≤ 16383 := by unfold oVal; split <;> omega
theorem sums_over (a b : Int) : oOver (oAddA (oExt a) (oExt b)) = if 16383 < oVal a + oVal b then 1 else if oVal a + oVal b < -16383 then -1 else 0 := by
  unfold oOver oAddA oExt oVal
  by_cases ha : 16383 < a % 32768 <;> by_cases hb : 16383 < b % 32768 <;> simp only [ha, hb, if_true, if_false] <;> split <;> split <;> (try split) <;> omega
theorem sums_corr (a b : Int) : oVal (oCorr (oAddA (oExt a) (oExt b))) = oVal a + oVal b - 16384 * oOver (oAddA (oExt a) (oExt b)) := by
  unfold oOver oCorr oAddA oExt oVal
  by_cases ha : 16383 < a % 32768 <;> by_cases hb : 16383 < b % 32768 <;> simp only [ha, hb, if_true, if_false] <;> split <;> split <;> (try split) <;> omega
theorem sums_add (a b : Int) (h0 : -16383 ≤ oVal a + oVal b) (h1 : oVal a + oVal b ≤ 16383) : oVal (oAdd a b) = oVal a + oVal b := by
  revert h0 h1
  unfold oAdd oVal
  by_cases ha : 16383 < a % 32768 <;> by_cases hb : 16383 < b % 32768 <;> simp only [ha, hb, if_true, if_false] <;> split <;> (try split) <;> omega
theorem oAdd_comm (a b : Int) : oAdd a b = oAdd b a := by unfold oAdd; rw [Int.add_comm]
theorem oExt_bd (a : Int) : 0 ≤ oExt a ∧ oExt a < 65536 := by unfold oExt; split <;> omega
theorem oAddA_bd (a b : Int) (h0 : 0 ≤ a) (h1 : a < 65536) (h2 : 0 ≤ b) (h3 : b < 65536) : 0 ≤ oAddA a b ∧ oAddA a b < 65536 := by unfold oAddA; split <;> omega
theorem oCorr_bd (a : Int) (h0 : 0 ≤ a) (h1 : a < 65536) : 0 ≤ oCorr a ∧ oCorr a < 65536 := by unfold oCorr; omega
theorem oAdd_bd (a b : Int) : 0 ≤ oAdd a b ∧ oAdd a b < 65536 := by unfold oAdd; split <;> omega
theorem oTwos_bd (a b : Int) : 0 ≤ oTwos a b ∧ oTwos a b < 65536 := by unfold oTwos; split <;> omega
theorem oCyR_bd (a : Int) : 0 ≤ oCyR a ∧ oCyR a < 65536 := by unfold oCyR; omega
theorem oCyL_bd (a : Int) : 0 ≤ oCyL a ∧ oCyL a < 65536 := by unfold oCyL; omega
theorem oShR_bd (a : Int) : 0 ≤ oShR a ∧ oShR a < 65536 := by unfold oShR; omega
/-- x is a after k rotations to the left: 2^k a modulo 32767 -/
def rotOk (k : Nat) (a x : Int) : Prop := ∃ C : Int, x = 2 ^ k * a - 32767 * C ∧ 0 ≤ x ∧ x ≤ 32767 ∧ (x = 0 → a = 0) ∧ (a = 0 → x = 0)
theorem rotOk_zero (a : Int) (h0 : 0 ≤ a) (h1 : a < 32768) : rotOk 0 a a := ⟨0, by omega, h0, by omega, id, id⟩
theorem oCyL_lt (x : Int) (h0 : 0 ≤ x) (h1 : x < 16384) : oCyL x = 2 * x := by unfold oCyL; omega
theorem oCyL_ge (x : Int) (h0 : 16384 ≤ x) (h1 : x < 32768) : oCyL x = 2 * x - 32767 := by unfold oCyL; omega
theorem oCyR_even (x y : Int) (h0 : 0 ≤ y) (h1 : y < 16384) (h : x = 2 * y) : oCyR x = y := by subst h; unfold oCyR; omega
theorem oCyR_odd (x y : Int) (h0 : 16384 ≤ y) (h1 : y < 32768) (h : x = 2 * y - 32767) : oCyR x = y := by subst h; unfold oCyR; omega
theorem rotOk_step (k : Nat) (a x : Int) (h : rotOk k a x) : rotOk (k + 1) a (oCyL x) := by
  obtain ⟨C, h1, h2, h3, h4, h5⟩ := h
  have e : (2 : Int) ^ (k + 1) * a = 2 * (2 ^ k * a) := by rw [Int.pow_succ, Int.mul_comm (2 ^ k) 2, Int.mul_assoc]
  unfold rotOk
  rw [e]
  generalize (2 : Int) ^ k * a = t at *
  by_cases c : x < 16384
  · rw [oCyL_lt x h2 c]
    exact ⟨2 * C, by omega, by omega, by omega, by omega, by omega⟩
  · rw [oCyL_ge x (by omega) (by omega)]
    exact ⟨2 * C + 1, by omega, by omega, by omega, by omega, by omega⟩
theorem rotOk_bd (k : Nat) (a x : Int) (h : rotOk k a x) : 0 ≤ x ∧ x ≤ 32767 := by obtain ⟨C, h1, h2, h3, h4, h5⟩ := h; exact ⟨h2, h3⟩
theorem rotOk_full (a x : Int) (h0 : 0 ≤ a) (h1 : a < 32768) (h : rotOk 15 a x) : x = a := by
  obtain ⟨C, h2, h3, h4, h5, h6⟩ := h
  have e : (2 : Int) ^ 15 = 32768 := by decide
  rw [e] at h2; omega
theorem back_R (a : Int) (h0 : 0 ≤ a) (h1 : a < 32768) : oCyR (oCyL a) = a := by
  by_cases c : a < 16384
  · exact oCyR_even _ a h0 c (oCyL_lt a h0 c)
  · exact oCyR_odd _ a (by omega) h1 (oCyL_ge a (by omega) h1)
theorem back_L (a : Int) (h0 : 0 ≤ a) (h1 : a < 32768) : oCyL (oCyR a) = a := by
  by_cases c : a % 2 = 0
  · have e : oCyR a = a / 2 := by unfold oCyR; omega
    rw [e, oCyL_lt _ (by omega) (by omega)]; omega
  · have e : oCyR a = 16384 + a / 2 := by unfold oCyR; omega
    rw [e, oCyL_ge _ (by omega) (by omega)]; omega
theorem back_neg (a : Int) (h0 : 0 ≤ a) (h1 : a < 32768) : oAdd a (32767 - a % 32768) = 32767 := by unfold oAdd; rw [if_neg (by omega)]; omega
theorem of_val (a : Int) (h0 : 0 ≤ a) (h1 : a < 32768) : oOfE (oVal a) = 0 ∧ oOfW (oVal a) = if a = 32767 then 0 else a := by
  have hb := oVal_bd a
  have hv : oVal a = if 16383 < a then a - 32767 else a := by unfold oVal; rw [show a % 32768 = a by omega]
  unfold oOfE oOfW
  rw [if_neg (by omega), if_neg (by omega)]
  refine ⟨rfl, ?_⟩
  rw [hv]
  by_cases h : 16383 < a <;> simp only [h, if_true, if_false] <;> split <;> split <;> omega
theorem half_val (a : Int) (h0 : 0 ≤ a) (h1 : a < 32768) : oVal (oShR a) = (oVal a).tdiv 2 := by
  have hv : oVal a = if 16383 < a then a - 32767 else a := by unfold oVal; rw [show a % 32768 = a by omega]
  have hs : oShR a = if 16383 < a then 16384 + a / 2 else a / 2 := by unfold oShR; split <;> omega
  rw [hv, hs]
  by_cases h : 16383 < a
  · rw [if_pos h, if_pos h]
    have e : a - 32767 = -(32767 - a) := by omega
    rw [e, Int.neg_tdiv, Int.tdiv_eq_ediv_of_nonneg (by omega)]
    unfold oVal; rw [if_pos (by omega)]; omega
  · rw [if_neg h, if_neg h]
    rw [Int.tdiv_eq_ediv_of_nonneg h0]; unfold oVal; rw [if_neg (by omega)]; omega
theorem half_dim (a : Int) (h0 : 0 ≤ a) (h1 : a < 32768) : oDim (oExt a) = if oVal a = 0 then 0 else if 0 < oVal a then oVal a - 1 else -oVal a - 1 := by
  unfold oDim oExt oVal
  by_cases h : 16383 < a % 32768 <;> simp only [h, if_true, if_false] <;> split <;> (try split) <;> (try split) <;> omega
theorem half_class (a : Int) (h0 : 0 ≤ a) (h1 : a < 32768) : oClass (oExt a) = (if 16383 < a then 2 else 0) + (if oVal a = 0 then 1 else 0) := by
  unfold oClass oExt oVal
  by_cases h : 16383 < a % 32768 <;> simp only [h, if_true, if_false] <;> split <;> (try split) <;> (try split) <;> (try split) <;> omega
theorem half_neg (a : Int) (h0 : 0 ≤ a) (h1 : a < 32768) : oClass (65535 - oExt a) = ((if 16383 < a then 2 else 0) + (if oVal a = 0 then 1 else 0) + 2) % 4 := by
  unfold oClass oExt oVal
  by_cases h : 16383 < a % 32768 <;> simp only [h, if_true, if_false] <;> split <;> (try split) <;> (try split) <;> (try split) <;> omega
theorem half_corr (a : Int) (h0 : 0 ≤ a) (h1 : a < 32768) : oCorr (oExt a) = a ∧ oOver (oExt a) = 0 := by
  unfold oCorr oOver oExt
  by_cases h : 16383 < a % 32768 <;> simp only [h, if_true, if_false] <;> omega
theorem twos_half (a b : Int) (h : (a - b) % 32768 = 16384) : oVal (oTwos a b) = -16383 := by
  unfold oTwos oVal; split <;> split <;> omega
theorem twos_other (a b : Int) (h : (a - b) % 32768 ≠ 16384) : (b % 32768 + oVal (oTwos a b) + 32768) % 32768 = a % 32768 := by
  unfold oTwos oVal; split <;> split <;> omega
end Go.Proofs.Ytdinjohalkllpaa
