/- Plain facts for layer 2: the number of ones of a number, its parity, and inverting one bit. -/
import Derived.Test.YteongalbljdjlaaBits
set_option linter.unusedSimpArgs false
set_option linter.unusedVariables false
namespace Go.Proofs.Yteongalbljdjlaa
open Go.RowKit
def onesN : Nat → Nat → Nat
  | 0, _ => 0
  | b + 1, n => onesN b n + n / 2 ^ b % 2
theorem onesN_succ (b n : Nat) : onesN (b + 1) n = onesN b n + n / 2 ^ b % 2 := rfl
def odds (b : Nat) (s : Int) : Bool := onesN b s.toNat % 2 == 1
def pPut (s : Int) : Int := if odds 15 s = true then s % 32768 else s % 32768 + 32768
def xorB (s : Int) (k : Nat) : Int := ((s.toNat ^^^ 2 ^ k : Nat) : Int)
def fV (s k : Int) : Int := if k < 0 ∨ 15 < k then 0 else xorB s k.toNat
def fE (k : Int) : Int := if k < 0 ∨ 15 < k then 3 else 0
theorem odds_zero (s : Int) : odds 0 s = false := rfl
theorem odds_succ1 (k : Nat) (s : Int) (h0 : 0 ≤ s) (h : s / 2 ^ k % 2 = 1) : odds (k + 1) s = !odds k s := by
  have e : s.toNat / 2 ^ k % 2 = 1 := by
    obtain ⟨n, rfl⟩ := Int.eq_ofNat_of_zero_le h0
    have : ((n / 2 ^ k % 2 : Nat) : Int) = 1 := by rw [← h]; simp
    simp only [Int.ofNat_eq_natCast, Int.toNat_natCast]; omega
  unfold odds
  rw [onesN_succ, e]
  by_cases c : onesN k s.toNat % 2 = 1
  · have : (onesN k s.toNat + 1) % 2 = 0 := by omega
    simp [c, this]
  · have d : onesN k s.toNat % 2 = 0 := by omega
    have : (onesN k s.toNat + 1) % 2 = 1 := by omega
    simp [d, this]
theorem odds_succ0 (k : Nat) (s : Int) (h0 : 0 ≤ s) (h : ¬ s / 2 ^ k % 2 = 1) : odds (k + 1) s = odds k s := by
  have e : s.toNat / 2 ^ k % 2 = 0 := by
    obtain ⟨n, rfl⟩ := Int.eq_ofNat_of_zero_le h0
    have : ¬ ((n / 2 ^ k % 2 : Nat) : Int) = 1 := by intro c; apply h; rw [← c]; simp
    have : ¬ n / 2 ^ k % 2 = 1 := by intro c; apply this; rw [c]; rfl
    simp only [Int.ofNat_eq_natCast, Int.toNat_natCast]; omega
  unfold odds
  rw [onesN_succ, e]; simp
theorem onesN_le (b n : Nat) : onesN b n ≤ b := by
  induction b with
  | zero => simp [onesN]
  | succ b ih => rw [onesN_succ]; have := Nat.mod_lt (n / 2 ^ b) (show 2 > 0 by decide); omega
theorem onesN_stop (j b n : Nat) (h : n / 2 ^ j = 0) (hb : j ≤ b) : onesN b n = onesN j n := by
  induction b with
  | zero => have : j = 0 := by omega
            subst this; rfl
  | succ b ih =>
    by_cases c : j = b + 1
    · rw [c]
    · have hj : j ≤ b := by omega
      rw [onesN_succ, ih hj]
      have : n / 2 ^ b = 0 := by
        apply Nat.div_eq_of_lt
        have h1 : n < 2 ^ j := by
          by_cases c : n < 2 ^ j
          · exact c
          · exfalso
            have := Nat.div_pos (Nat.le_of_not_lt c) (Nat.two_pow_pos j)
            omega
        exact Nat.lt_of_lt_of_le h1 (Nat.pow_le_pow_right (by decide) hj)
      rw [this]; simp
theorem onesN_mod (b n : Nat) : ∀ c, b ≤ c → onesN b (n % 2 ^ c) = onesN b n := by
  induction b with
  | zero => intro c _; rfl
  | succ b ih =>
    intro c hc
    rw [onesN_succ, onesN_succ, ih c (by omega)]
    congr 1
    obtain ⟨d, rfl⟩ : ∃ d, c = b + (d + 1) := ⟨c - b - 1, by omega⟩
    rw [Nat.pow_add, Nat.mod_mul_right_div_self, Nat.pow_succ, Nat.mod_mul_left_mod]
theorem odds_low (s : Int) (h0 : 0 ≤ s) : odds 15 (s % 32768) = odds 15 s := by
  obtain ⟨n, rfl⟩ := Int.eq_ofNat_of_zero_le h0
  unfold odds
  have : ((n : Int) % 32768).toNat = n % 2 ^ 15 := by simp; omega
  rw [this, onesN_mod 15 n 15 (by omega)]; simp
theorem odds16 (s : Int) (h0 : 0 ≤ s) (h1 : s < 65536) : odds 16 s = if s < 32768 then odds 15 s else !odds 15 s := by
  by_cases c : s < 32768
  · rw [if_pos c]; apply odds_succ0 15 s h0; omega
  · rw [if_neg c]; apply odds_succ1 15 s h0; omega
theorem pPut_bd (s : Int) (h0 : 0 ≤ s) : 0 ≤ pPut s ∧ pPut s < 65536 := by unfold pPut; split <;> omega
theorem pPut_mod (s : Int) (h0 : 0 ≤ s) : pPut s % 32768 = s % 32768 := by unfold pPut; split <;> omega
theorem pPut_odds (s : Int) (h0 : 0 ≤ s) : odds 16 (pPut s) = true := by
  have b := pPut_bd s h0
  rw [odds16 _ b.1 b.2]
  have e : odds 15 (pPut s) = odds 15 s := by rw [← odds_low _ b.1, pPut_mod s h0, odds_low s h0]
  rw [e]
  unfold pPut
  split
  · rename_i c; rw [if_pos (by omega), c]
  · rename_i c; rw [if_neg (by omega)]; simp at c; simp [c]
theorem testBit_ones (b n k : Nat) : onesN b (n ^^^ 2 ^ k) % 2 = (onesN b n + if k < b then 1 else 0) % 2 := by
  induction b with
  | zero => simp [onesN]
  | succ b ih =>
    have e : (n ^^^ 2 ^ k) / 2 ^ b % 2 = if k = b then 1 - n / 2 ^ b % 2 else n / 2 ^ b % 2 := by
      have h1 := Nat.testBit_xor n (2 ^ k) b
      rw [Nat.testBit_two_pow, Nat.testBit_eq_decide_div_mod_eq, Nat.testBit_eq_decide_div_mod_eq] at h1
      have m1 := Nat.mod_lt ((n ^^^ 2 ^ k) / 2 ^ b) (show 2 > 0 by decide)
      have m2 := Nat.mod_lt (n / 2 ^ b) (show 2 > 0 by decide)
      by_cases c : k = b
      · rw [if_pos c]; simp [c] at h1 ⊢
        by_cases d : n / 2 ^ b % 2 = 1
        · simp [d] at h1; rw [d]; omega
        · simp [d] at h1; omega
      · rw [if_neg c]; simp [c] at h1
        by_cases d : n / 2 ^ b % 2 = 1
        · simp [d] at h1; omega
        · simp [d] at h1; omega
    rw [onesN_succ, onesN_succ, Nat.add_mod, ih, e]
    have m2 := Nat.mod_lt (n / 2 ^ b) (show 2 > 0 by decide)
    by_cases c : k = b
    · rw [if_pos c, if_neg (by omega), if_pos (by omega)]; omega
    · rw [if_neg c]
      by_cases d : k < b
      · rw [if_pos d, if_pos (by omega)]; omega
      · rw [if_neg d, if_neg (by omega)]; omega
theorem xorB_bd (s : Int) (h0 : 0 ≤ s) (h1 : s < 65536) (k : Nat) (hk : k ≤ 15) : 0 ≤ xorB s k ∧ xorB s k < 65536 := by
  unfold xorB
  refine ⟨by omega, ?_⟩
  have h2 : s.toNat < 2 ^ 16 := by omega
  have h3 : 2 ^ k < 2 ^ 16 := Nat.pow_lt_pow_right (by decide) (by omega)
  have := Nat.xor_lt_two_pow h2 h3
  omega
theorem xorB_odds (s : Int) (k : Nat) (hk : k ≤ 15) : odds 16 (xorB s k) = !odds 16 s := by
  unfold odds xorB
  rw [Int.toNat_natCast, testBit_ones, if_pos (by omega)]
  by_cases c : onesN 16 s.toNat % 2 = 1
  · have : (onesN 16 s.toNat + 1) % 2 = 0 := by omega
    simp [c, this]
  · have d : onesN 16 s.toNat % 2 = 0 := by omega
    have : (onesN 16 s.toNat + 1) % 2 = 1 := by omega
    simp [d, this]
theorem xorB_back (s : Int) (h0 : 0 ≤ s) (k : Nat) : xorB (xorB s k) k = s := by
  unfold xorB
  rw [Int.toNat_natCast, Nat.xor_assoc, Nat.xor_self, Nat.xor_zero]; omega
theorem xorB_ne (s : Int) (h0 : 0 ≤ s) (k : Nat) (hk : k ≤ 15) : xorB s k ≠ s := by
  intro h
  have := xorB_odds s k hk
  rw [h] at this
  cases h : odds 16 s <;> simp [h] at this
theorem xor_mod2 (a b : Nat) : (a ^^^ b) % 2 = (a + b) % 2 := by
  have h := Nat.testBit_xor a b 0
  rw [Nat.testBit_zero, Nat.testBit_zero, Nat.testBit_zero] at h
  have m := Nat.mod_two_eq_zero_or_one (a ^^^ b)
  by_cases c : a % 2 = 1
  · by_cases d : b % 2 = 1
    · rw [decide_eq_true c, decide_eq_true d] at h
      have : ¬ (a ^^^ b) % 2 = 1 := of_decide_eq_false h
      omega
    · rw [decide_eq_true c, decide_eq_false d] at h
      have : (a ^^^ b) % 2 = 1 := of_decide_eq_true h
      omega
  · by_cases d : b % 2 = 1
    · rw [decide_eq_false c, decide_eq_true d] at h
      have : (a ^^^ b) % 2 = 1 := of_decide_eq_true h
      omega
    · rw [decide_eq_false c, decide_eq_false d] at h
      have : ¬ (a ^^^ b) % 2 = 1 := of_decide_eq_false h
      omega
theorem xorN (k : Nat) : ∀ n : Nat, n ^^^ 2 ^ k = if n / 2 ^ k % 2 = 1 then n - 2 ^ k else n + 2 ^ k := by
  induction k with
  | zero =>
    intro n
    have h1 := Nat.xor_div_two (a := n) (b := 1)
    have h2 : (n ^^^ 1) % 2 = (n + 1) % 2 := by
      exact xor_mod2 n 1
    simp at h1
    simp
    split <;> omega
  | succ k ih =>
    intro n
    have h1 := Nat.xor_div_two (a := n) (b := 2 ^ (k + 1))
    have h2 := xor_mod2 n (2 ^ (k + 1))
    have e1 : 2 ^ (k + 1) / 2 = 2 ^ k := by rw [Nat.pow_succ]; omega
    have e2 : 2 ^ (k + 1) = 2 * 2 ^ k := by rw [Nat.pow_succ]; omega
    rw [e1, ih (n / 2), Nat.div_div_eq_div_mul, ← e2] at h1
    have p := Nat.two_pow_pos k
    have g : n / 2 ^ (k + 1) % 2 = 1 → 2 ^ (k + 1) ≤ n := by
      intro h
      by_cases c : 2 ^ (k + 1) ≤ n
      · exact c
      · rw [Nat.div_eq_of_lt (by omega)] at h; simp at h
    split at h1
    · rename_i c; rw [if_pos c]; have := g c; omega
    · rename_i c; rw [if_neg c]; omega
theorem xorB_eq (s : Int) (h0 : 0 ≤ s) (k : Nat) : xorB s k = if s / 2 ^ k % 2 = 1 then s - 2 ^ k else s + 2 ^ k := by
  obtain ⟨n, rfl⟩ := Int.eq_ofNat_of_zero_le h0
  unfold xorB
  have e : ((n : Int) / 2 ^ k % 2 = 1) ↔ (n / 2 ^ k % 2 = 1) := by
    have : (n : Int) / 2 ^ k % 2 = ((n / 2 ^ k % 2 : Nat) : Int) := by simp
    rw [this]; omega
  have p : ((2 ^ k : Nat) : Int) = 2 ^ k := by simp
  simp only [Int.ofNat_eq_natCast, Int.toNat_natCast, xorN, e]
  split
  · rename_i c
    have g : 2 ^ k ≤ n := by
      by_cases d : 2 ^ k ≤ n
      · exact d
      · rw [Nat.div_eq_of_lt (by omega)] at c; simp at c
    omega
  · omega
theorem flip_facts (x q : Int) (h0 : 0 ≤ x) (h1 : x < 65536) (q0 : 0 ≤ q) (q1 : q < 16) : ∃ y, fV x q = y ∧ fE q = 0 ∧ fV y q = x ∧ y ≠ x ∧ 0 ≤ y ∧ y < 65536 ∧ odds 16 y = !odds 16 x := by
  have e : ∀ z, fV z q = xorB z q.toNat := fun z => by unfold fV; rw [if_neg (by omega)]
  have k : q.toNat ≤ 15 := by omega
  refine ⟨_, e x, by unfold fE; rw [if_neg (by omega)], by rw [e]; exact xorB_back x h0 _, xorB_ne x h0 _ k, (xorB_bd x h0 h1 _ k).1, (xorB_bd x h0 h1 _ k).2, xorB_odds x _ k⟩
theorem kpar : pPut 0 = 32768 ∧ pPut 1 = 1 ∧ pPut 3 = 32771 ∧ pPut 32767 = 32767 ∧ pPut 65535 = 32767 ∧ fV 1 15 = 32769 ∧ fE 15 = 0 ∧ fV 1 16 = 0 ∧ fE 16 = 3 ∧ fV 1 0 = 0 ∧ fE 0 = 0 ∧ fV 1 (-1) = 0 ∧ fE (-1) = 3 := by decide
theorem kodd : odds 15 0 = false ∧ odds 15 7 = true ∧ odds 15 32769 = true ∧ odds 15 32771 = false ∧ odds 16 32768 = true ∧ odds 16 32769 = false ∧ odds 16 0 = false ∧ odds 16 65535 = false ∧ odds 16 1 = true ∧ odds 16 3 = false := by decide
-- the count of right words among those with the parity bit set
def cntP : Nat → Nat
  | 0 => 0
  | n + 1 => cntP n + if odds 15 n = true then 0 else 1
theorem odds_pair (n : Nat) : odds 15 ((2 * n + 1 : Nat) : Int) = !odds 15 ((2 * n : Nat) : Int) := by
  unfold odds
  simp only [Int.toNat_natCast]
  have e : 2 * n + 1 = (2 * n) ^^^ 2 ^ 0 := by rw [xorN]; simp
  rw [e, testBit_ones, if_pos (by omega)]
  by_cases c : onesN 15 (2 * n) % 2 = 1
  · have : (onesN 15 (2 * n) + 1) % 2 = 0 := by omega
    simp [c, this]
  · have d : onesN 15 (2 * n) % 2 = 0 := by omega
    have : (onesN 15 (2 * n) + 1) % 2 = 1 := by omega
    simp [d, this]
theorem cntP_two (n : Nat) : cntP (2 * n) = n := by
  induction n with
  | zero => rfl
  | succ n ih =>
    have e : 2 * (n + 1) = 2 * n + 1 + 1 := by omega
    rw [e]
    unfold cntP
    unfold cntP
    rw [ih, odds_pair]
    cases odds 15 ((2 * n : Nat) : Int) <;> simp
theorem cntP_le (n : Nat) : cntP n ≤ n := by
  induction n with
  | zero => simp [cntP]
  | succ n ih => unfold cntP; split <;> omega
end Go.Proofs.Yteongalbljdjlaa
