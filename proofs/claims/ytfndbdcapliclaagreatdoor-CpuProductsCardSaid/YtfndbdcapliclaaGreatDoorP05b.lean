/- Plain facts on products and quotients (layer 5). -/
import Derived.Test.YtfndbdcapliclaaGreatDoorM05w
set_option linter.unusedSimpArgs false
set_option linter.unusedVariables false
namespace Go.Proofs.YtfndbdcapliclaaGreatDoor
theorem oVal_sgn (a : Int) : oVal a = if sgn a = true then -mag a else mag a := by
  unfold mag sgn oVal
  by_cases h : 16383 < a % 32768 <;> simp [h] <;> omega
theorem oVal_pos {u : Int} (h0 : 0 ≤ u) (h1 : u ≤ 16383) : oVal u = u := by unfold oVal; rw [if_neg (by omega)]; omega
theorem oVal_neg {u : Int} (h0 : 0 ≤ u) (h1 : u ≤ 16383) : oVal (oNg u) = -u := by unfold oNg oVal; split <;> omega
theorem sgn_pos {u : Int} (h0 : 0 ≤ u) (h1 : u ≤ 16383) : sgn u = false := by unfold sgn; simp; omega
theorem sgn_neg {u : Int} (h0 : 0 ≤ u) (h1 : u ≤ 16383) : sgn (oNg u) = true := by unfold sgn oNg; simp; omega
theorem mm_bd (a b : Int) : 0 ≤ mag a * mag b ∧ mag a * mag b ≤ 268402689 := by
  have ha := mag_bd a
  have hb := mag_bd b
  refine ⟨Int.mul_nonneg ha.1 hb.1, ?_⟩
  calc mag a * mag b ≤ 16383 * mag b := Int.mul_le_mul_of_nonneg_right ha.2 hb.1
    _ ≤ 16383 * 16383 := Int.mul_le_mul_of_nonneg_left hb.2 (by omega)
theorem prod_sgn (a b : Int) : oVal a * oVal b = if sgn a = sgn b then mag a * mag b else -(mag a * mag b) := by
  rw [oVal_sgn a, oVal_sgn b]
  cases sgn a <;> cases sgn b <;> simp [Int.neg_mul, Int.mul_neg]
theorem mul_val (a b : Int) : 16384 * oVal (mulHi a b) + oVal (mulLo a b) = oVal a * oVal b := by
  have hm := mm_bd a b
  rw [prod_sgn]
  unfold mulHi mulLo
  generalize mag a * mag b = m at hm ⊢
  by_cases h : sgn a = sgn b
  · rw [if_pos h, if_pos h, if_pos h, oVal_pos (by omega) (by omega), oVal_pos (by omega) (by omega)]; omega
  · rw [if_neg h, if_neg h, if_neg h, oVal_neg (by omega) (by omega), oVal_neg (by omega) (by omega)]; omega
theorem dvN_sgn (a b : Int) : 16384 * oVal a + oVal b = if dvS a b = true then -dvN a b else dvN a b := by
  have va := oVal_sgn a
  have vb := oVal_sgn b
  have ma := mag_bd a
  have mb := mag_bd b
  unfold dvS dvN
  simp only []
  by_cases h : oVal a = 0
  · rw [if_pos h, h]
    cases hs : sgn b <;> rw [hs] at vb <;> simp at vb ⊢ <;> (first | (intro hx; omega) | (split <;> omega) | omega)
  · rw [if_neg h]
    have vb' : -16383 ≤ oVal b ∧ oVal b ≤ 16383 := by split at vb <;> omega
    cases hs : sgn a <;> rw [hs] at va <;> simp at va ⊢ <;> (first | (intro hx; omega) | (split <;> omega) | omega)
/-- What a quotient and its remainder are. -/
theorem div_val (a b d : Int) (h : dvOk a b d) : oVal (dvQ a b d) * oVal d + oVal (dvR a b d) = 16384 * oVal a + oVal b ∧ -16383 ≤ oVal (dvR a b d) ∧ oVal (dvR a b d) ≤ 16383 ∧ (oVal (dvR a b d) < mag d ∧ -oVal (dvR a b d) < mag d) := by
  have hN : 0 ≤ dvN a b := by unfold dvN; simp only []; split <;> omega
  have hM := mag_bd d
  have h' : dvN a b < 16384 * mag d := h
  have hM0 : 0 < mag d := by omega
  have r0 := Int.emod_nonneg (dvN a b) (show mag d ≠ 0 by omega)
  have r1 := Int.emod_lt_of_pos (dvN a b) hM0
  have q0 := Int.ediv_nonneg hN hM.1
  have q1 : dvN a b / mag d < 16384 := Int.ediv_lt_of_lt_mul hM0 h'
  have e := Int.mul_ediv_add_emod (dvN a b) (mag d)
  rw [dvN_sgn, oVal_sgn d]
  unfold dvQ dvR
  simp only [h, if_true]
  generalize dvN a b % mag d = r at *
  generalize dvN a b / mag d = q at *
  generalize dvN a b = n at *
  generalize mag d = m at *
  have hr := oVal_pos (u := r) (by omega) (by omega)
  have hr' := oVal_neg (u := r) (by omega) (by omega)
  have hq := oVal_pos (u := q) (by omega) (by omega)
  have hq' := oVal_neg (u := q) (by omega) (by omega)
  have e' : q * m + r = n := by rw [Int.mul_comm]; exact e
  cases dvS a b <;> cases sgn d <;> simp [hr, hr', hq, hq', Int.neg_mul, Int.mul_neg] <;> omega
theorem div_sat (a b d : Int) (h : ¬ dvOk a b d) : dvR a b d = b % 32768 ∧ (oVal (dvQ a b d) = 16383 ∨ oVal (dvQ a b d) = -16383) := by
  unfold dvQ dvR
  simp only [h, if_false]
  refine ⟨trivial, ?_⟩
  split
  · left; decide
  · right; decide
/-- A product divided by one factor. -/
theorem div_mul (a b : Int) (ha : oVal a ≠ 0) (hb : oVal b ≠ 0) : oVal (dvQ (mulHi a b) (mulLo a b) b) = oVal a ∧ oVal (dvR (mulHi a b) (mulLo a b) b) = 0 := by
  have hm := mm_bd a b
  have ma := mag_bd a
  have mb := mag_bd b
  have hma : 0 < mag a := by have := oVal_sgn a; split at this <;> omega
  have hmb : 0 < mag b := by have := oVal_sgn b; split at this <;> omega
  have hN : dvN (mulHi a b) (mulLo a b) = mag a * mag b := by
    unfold dvN
    simp only []
    rw [mul_val, prod_sgn]
    split <;> split <;> omega
  have hp : 0 < mag a * mag b := Int.mul_pos hma hmb
  have hS : dvS (mulHi a b) (mulLo a b) = (sgn a != sgn b) := by
    unfold dvS mulHi mulLo
    generalize mag a * mag b = m at hm
    by_cases h : sgn a = sgn b
    · rw [if_pos h, if_pos h, sgn_pos (by omega) (by omega), sgn_pos (by omega) (by omega)]; simp [h]
    · rw [if_neg h, if_neg h, sgn_neg (by omega) (by omega), sgn_neg (by omega) (by omega)]; simp [h]
  have hok : dvOk (mulHi a b) (mulLo a b) b := by
    unfold dvOk
    rw [hN]
    exact Int.mul_lt_mul_of_pos_right (by omega) hmb
  have hq : mag a * mag b / mag b = mag a := Int.mul_ediv_cancel _ (by omega)
  have hr : mag a * mag b % mag b = 0 := Int.mul_emod_left _ _
  unfold dvQ dvR
  simp only [hok, if_true]
  rw [hN, hq, hr, hS, oVal_sgn a]
  have p1 := oVal_pos (u := mag a) (by omega) (by omega)
  have p2 := oVal_neg (u := mag a) (by omega) (by omega)
  have z1 : oVal 0 = 0 := by decide
  have z2 : oVal (oNg 0) = 0 := by decide
  cases sgn a <;> cases sgn b <;> simp [p1, p2, z1, z2]
end Go.Proofs.YtfndbdcapliclaaGreatDoor
