/- Plain functions of layer 7 (interrupt): sets of the numbers 1 to 10 as bits. -/
import Derived.Test.YtmmpifcfhjdfnaaP05
set_option linter.unusedSimpArgs false
set_option linter.unusedVariables false
namespace Go.Proofs.Ytmmpifcfhjdfnaa
open Go.RowKit
/-- The set of the numbers from 1 to k that q holds of, as bits. -/
def sB (q : Nat → Bool) : Nat → Nat
  | 0 => 0
  | k + 1 => (if q (k + 1) = true then 2 ^ (k + 1) else 0) ||| sB q k
/-- Whether the bit n is set. -/
def pb (p : Int) (n : Nat) : Bool := p.toNat.testBit n
theorem sB_bit (q : Nat → Bool) : ∀ k i, (sB q k).testBit i = (decide (1 ≤ i ∧ i ≤ k) && q i)
  | 0, i => by simp [sB]; omega
  | k + 1, i => by
    unfold sB
    rw [Nat.testBit_or, sB_bit q k i]
    by_cases h : i = k + 1
    · subst h
      split
      · rename_i h; rw [Nat.testBit_two_pow_self]; simp [h]
      · rename_i h; simp [h]
    · have e : ∀ b : Bool, (if b = true then 2 ^ (k + 1) else 0 : Nat).testBit i = false := fun b => by
        split
        · rw [Nat.testBit_two_pow]; simp; omega
        · simp
      rw [e]
      have e2 : (1 ≤ i ∧ i ≤ k) ↔ (1 ≤ i ∧ i ≤ k + 1) := by omega
      simp [e2]
theorem sB_lt (q : Nat → Bool) : ∀ k, sB q k < 2 ^ (k + 1)
  | 0 => by simp [sB]
  | k + 1 => by
    have h := sB_lt q k
    have p : (2 : Nat) ^ (k + 1 + 1) = 2 ^ (k + 1) + 2 ^ (k + 1) := by rw [Nat.pow_succ]; omega
    unfold sB
    refine Nat.or_lt_two_pow ?_ ?_
    · have := Nat.two_pow_pos (k + 1); split <;> omega
    · omega
theorem sB_add (q : Nat → Bool) (k : Nat) : sB q (k + 1) = sB q k + (if q (k + 1) = true then 2 ^ (k + 1) else 0) := by
  have h := sB_lt q k
  show (if q (k + 1) = true then 2 ^ (k + 1) else 0) ||| sB q k = _
  split
  · have e := Nat.two_pow_add_eq_or_of_lt h 1
    rw [Nat.mul_one] at e
    rw [← e, Nat.add_comm]
  · simp
theorem sB_congr {q r : Nat → Bool} : ∀ k, (∀ n, 1 ≤ n → n ≤ k → q n = r n) → sB q k = sB r k
  | 0, _ => rfl
  | k + 1, h => by unfold sB; rw [sB_congr k (fun n h0 h1 => h n h0 (by omega)), h (k + 1) (by omega) (by omega)]
theorem sB10 (q : Nat → Bool) : sB q 10 < 2048 := sB_lt q 10
theorem pb_sB (q : Nat → Bool) (n : Nat) (h0 : 1 ≤ n) (h1 : n ≤ 10) : pb ((sB q 10 : Nat) : Int) n = q n := by
  unfold pb
  rw [Int.toNat_natCast, sB_bit]
  simp [h0, h1]
theorem sB_pb (q : Nat → Bool) : sB (pb ((sB q 10 : Nat) : Int)) 10 = sB q 10 := sB_congr 10 (fun n h0 h1 => pb_sB q n h0 h1)
/-- The bit of a number. -/
def bV (n : Nat) : Int := ((2 ^ n : Nat) : Int)
theorem bV_bd (n : Nat) (h : n ≤ 15) : 0 ≤ bV n ∧ bV n < 65536 := by
  unfold bV
  have h1 := Nat.pow_le_pow_right (n := 2) (by decide) h
  generalize (2 : Nat) ^ n = m at *
  have : (2 : Nat) ^ 15 = 32768 := by decide
  omega
theorem and_yes (p : Int) (h0 : 0 ≤ p) (h1 : p < 65536) (n : Nat) (hn : n ≤ 15) (h : pb p n = true) : bits .and .u16 p (bV n) = bV n := by
  have := bV_bd n hn
  rw [u16_and p (bV n) h0 h1 this.1 this.2]
  unfold bV
  rw [Int.toNat_natCast]
  congr 1
  apply Nat.eq_of_testBit_eq
  intro i
  rw [Nat.testBit_and, Nat.testBit_two_pow]
  by_cases c : n = i
  · subst c; unfold pb at h; simp [h]
  · simp [c]
theorem and_no (p : Int) (h0 : 0 ≤ p) (h1 : p < 65536) (n : Nat) (hn : n ≤ 15) (h : pb p n = false) : bits .and .u16 p (bV n) = 0 := by
  have := bV_bd n hn
  rw [u16_and p (bV n) h0 h1 this.1 this.2]
  unfold bV
  rw [Int.toNat_natCast]
  have e : p.toNat &&& 2 ^ n = 0 := by
    apply Nat.eq_of_testBit_eq
    intro i
    rw [Nat.testBit_and, Nat.testBit_two_pow]
    by_cases c : n = i
    · subst c; unfold pb at h; simp [h]
    · simp [c]
  rw [e]; rfl
theorem bV_ne (n : Nat) : bV n ≠ 0 := by unfold bV; have := Nat.two_pow_pos n; omega
/-- A number is joined to a set. -/
theorem or_bit (q : Nat → Bool) (n : Nat) (h0 : 1 ≤ n) (h1 : n ≤ 10) : bits .or .u16 ((sB q 10 : Nat) : Int) (bV n) = ((sB (fun i => i == n || q i) 10 : Nat) : Int) := by
  have := bV_bd n (by omega)
  have h := sB10 q
  rw [u16_or _ _ (by omega) (by omega) this.1 this.2]
  unfold bV
  rw [Int.toNat_natCast, Int.toNat_natCast]
  congr 1
  apply Nat.eq_of_testBit_eq
  intro i
  rw [Nat.testBit_or, sB_bit, sB_bit, Nat.testBit_two_pow]
  by_cases c : n = i
  · subst c; simp [h0, h1]
  · have c' : ¬ i = n := fun e => c e.symm
    have c2 : (i == n) = false := by rw [beq_eq_false_iff_ne]; exact c'
    simp [c, c2]
/-- The numbers that are taken one after the other, each less 1. -/
def yl (p : Int) : Nat → List (Fin 10)
  | 0 => []
  | j + 1 => if h : j < 10 then (if pb p (j + 1) = true then yl p j ++ [⟨j, h⟩] else yl p j) else yl p j
theorem yl_yes (p : Int) (j : Nat) (h : j < 10) (c : pb p (j + 1) = true) : yl p (j + 1) = yl p j ++ [⟨j, h⟩] := by
  show (if h : j < 10 then (if pb p (j + 1) = true then yl p j ++ [⟨j, h⟩] else yl p j) else yl p j) = _
  rw [dif_pos h, if_pos c]
theorem yl_no (p : Int) (j : Nat) (c : pb p (j + 1) = false) : yl p (j + 1) = yl p j := by
  show (if h : j < 10 then (if pb p (j + 1) = true then yl p j ++ [⟨j, h⟩] else yl p j) else yl p j) = _
  rw [c]; simp
theorem yl_len (p : Int) : ∀ j, (yl p j).length ≤ j
  | 0 => Nat.le_refl _
  | j + 1 => by
    have := yl_len p j
    show (if h : j < 10 then (if pb p (j + 1) = true then yl p j ++ [⟨j, h⟩] else yl p j) else yl p j).length ≤ _
    split
    · split
      · simp; omega
      · omega
    · omega
/-- The least number of those up to k; 0 if there is none. -/
def fs (p : Int) : Nat → Nat
  | 0 => 0
  | k + 1 => if fs p k ≠ 0 then fs p k else if pb p (k + 1) = true then k + 1 else 0
theorem fs_keep (p : Int) (k : Nat) (h : fs p k ≠ 0) : ∀ m, fs p (k + m) = fs p k
  | 0 => rfl
  | m + 1 => by
    have e := fs_keep p k h m
    show (if fs p (k + m) ≠ 0 then fs p (k + m) else _) = _
    rw [if_pos (by rw [e]; exact h), e]
theorem fs_at (p : Int) (j : Nat) (h : j < 10) (h0 : fs p j = 0) (c : pb p (j + 1) = true) : fs p 10 = j + 1 := by
  have e : fs p (j + 1) = j + 1 := by
    show (if fs p j ≠ 0 then fs p j else if pb p (j + 1) = true then j + 1 else 0) = _
    simp [h0, c]
  have := fs_keep p (j + 1) (by omega) (10 - (j + 1))
  rw [show j + 1 + (10 - (j + 1)) = 10 by omega] at this
  rw [this, e]
theorem fs_no (p : Int) (j : Nat) (h0 : fs p j = 0) (c : pb p (j + 1) = false) : fs p (j + 1) = 0 := by
  show (if fs p j ≠ 0 then fs p j else if pb p (j + 1) = true then j + 1 else 0) = _
  simp [h0, c]
theorem yl_nil (p : Int) : ∀ j, j ≤ 10 → yl p j = [] → fs p j = 0
  | 0, _, _ => rfl
  | j + 1, hj, h => by
    by_cases c : pb p (j + 1) = true
    · rw [yl_yes p j (by omega) c] at h; simp at h
    · have c : pb p (j + 1) = false := by simpa using c
      rw [yl_no p j c] at h
      exact fs_no p j (yl_nil p j (by omega) h) c
/-- The first number that is taken is the least one. -/
theorem yl_first (p : Int) (j : Nat) (h : j < 10) (c : pb p (j + 1) = true) (x : Fin 10) (e : yl p (j + 1) = [x]) : fs p 10 = x.val + 1 := by
  rw [yl_yes p j h c] at e
  have e1 : yl p j = [] := by
    rcases hl : yl p j with _ | ⟨a, l⟩
    · rfl
    · rw [hl] at e; simp at e
  rw [e1] at e
  simp at e
  subst e
  exact fs_at p j h (yl_nil p j (by omega) e1) c
theorem fs_spec (p : Int) : ∀ k, (fs p k = 0 ∧ ∀ n, 1 ≤ n → n ≤ k → pb p n = false) ∨ (1 ≤ fs p k ∧ fs p k ≤ k ∧ pb p (fs p k) = true ∧ ∀ n, 1 ≤ n → n < fs p k → pb p n = false)
  | 0 => .inl ⟨rfl, fun n h0 h1 => by omega⟩
  | k + 1 => by
    have e : fs p (k + 1) = if fs p k ≠ 0 then fs p k else if pb p (k + 1) = true then k + 1 else 0 := rfl
    rcases fs_spec p k with ⟨h0, h1⟩ | ⟨h0, h1, h2, h3⟩
    · by_cases c : pb p (k + 1) = true
      · rw [e, h0]; simp only [c, if_true, ne_eq, not_true_eq_false, if_false]
        exact .inr ⟨by omega, by omega, trivial, fun n a b => h1 n a (by omega)⟩
      · have c' : pb p (k + 1) = false := by simpa using c
        rw [e, h0]; simp only [c, if_false, ne_eq, not_true_eq_false]
        refine .inl ⟨rfl, fun n a b => ?_⟩
        by_cases d : n = k + 1
        · subst d; exact c'
        · exact h1 n a (by omega)
    · rw [e, if_pos (by omega)]
      exact .inr ⟨h0, by omega, h2, h3⟩
end Go.Proofs.Ytmmpifcfhjdfnaa
