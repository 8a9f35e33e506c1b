/- Bit operations on 16-bit numbers, as division and remainder. -/
import Derived.WalkKit
import Derived.ProofKit
import Derived.Laws.BitsAllLaws
namespace Go.Proofs.Yteongalbljdjlaa
open Go.RowKit
theorem ret_int {k : IntKind} {a b : Int} (h : a = b) : Ending.returned (.int k a) = .returned (.int k b) := by rw [h]
theorem ret_bool {a b : Bool} (h : a = b) : Ending.returned (.bool a) = .returned (.bool b) := by rw [h]
theorem ret_tup2 {k k' : IntKind} {a b c d : Int} (h : a = b) (h' : c = d) : Ending.returned (.tuple #[.int k a, .int k' c]) = .returned (.tuple #[.int k b, .int k' d]) := by rw [h, h']
theorem and15 (a : Int) (h0 : 0 ≤ a) (h1 : a < 65536) : bits .and .u16 a 32767 = a % 32768 := by
  have := bits_mask .u16 16 (by decide) (fun n h h' => IntWalk.u16_in n (by omega)) 15 (by decide) a h0 (by omega)
  simpa using this
theorem and1 (a : Int) (h0 : 0 ≤ a) (h1 : a < 65536) : bits .and .u16 a 1 = a % 2 := by
  have := bits_mask .u16 16 (by decide) (fun n h h' => IntWalk.u16_in n (by omega)) 1 (by decide) a h0 (by omega)
  simpa using this
theorem and7 (a : Int) (h0 : 0 ≤ a) (h1 : a < 65536) : bits .and .u16 a 127 = a % 128 := by
  have := bits_mask .u16 16 (by decide) (fun n h h' => IntWalk.u16_in n (by omega)) 7 (by decide) a h0 (by omega)
  simpa using this
theorem and14 (a : Int) (h0 : 0 ≤ a) (h1 : a < 65536) : bits .and .u16 a 16383 = a % 16384 := by
  have := bits_mask .u16 16 (by decide) (fun n h h' => IntWalk.u16_in n (by omega)) 14 (by decide) a h0 (by omega)
  simpa using this
theorem nat_and_bit (a i : Nat) : a &&& 2 ^ i = a / 2 ^ i % 2 * 2 ^ i := by
  apply Nat.eq_of_testBit_eq
  intro j
  rw [Nat.mul_comm, Nat.testBit_and, Nat.testBit_two_pow, Nat.testBit_two_pow_mul]
  by_cases h : i = j
  · subst h; simp [Nat.testBit, Nat.shiftRight_eq_div_pow]
  · simp [h]
    intro hj
    have hk : j - i ≠ 0 := by omega
    obtain ⟨k, hk⟩ : ∃ k, j - i = k + 1 := ⟨j - i - 1, by omega⟩
    rw [hk, Nat.testBit_succ]
    have : a / 2 ^ i % 2 / 2 = 0 := by omega
    rw [this]; simp
theorem andBit14 (a : Int) (h0 : 0 ≤ a) (h1 : a < 65536) : bits .and .u16 a 16384 = a / 16384 % 2 * 16384 := by
  have h := u16_and a 16384 h0 h1 (by omega) (by omega)
  rw [h]
  have := nat_and_bit a.toNat 14
  simp at this
  simp [this]
  omega
theorem andBit15 (a : Int) (h0 : 0 ≤ a) (h1 : a < 65536) : bits .and .u16 a 32768 = a / 32768 * 32768 := by
  have h := u16_and a 32768 h0 h1 (by omega) (by omega)
  rw [h]
  have := nat_and_bit a.toNat 15
  simp at this
  simp [this]
  omega
theorem andSigns (a : Int) (h0 : 0 ≤ a) (h1 : a < 65536) : bits .and .u16 a 49152 = a / 16384 * 16384 := by
  have h := u16_and a 49152 h0 h1 (by omega) (by omega)
  rw [h]
  have e : a.toNat &&& 49152 = a.toNat / 16384 * 16384 := by
    have h1 : (49152 : Nat) = 2 ^ 14 * 3 := by decide
    have h2 : a.toNat = 2 ^ 14 * (a.toNat / 16384) + a.toNat % 16384 := by omega
    apply Nat.eq_of_testBit_eq
    intro j
    rw [Nat.mul_comm, show (16384 : Nat) = 2 ^ 14 from rfl, h1, Nat.testBit_and, Nat.testBit_two_pow_mul, Nat.testBit_two_pow_mul, Nat.testBit_div_two_pow]
    by_cases hj : 14 ≤ j
    · obtain ⟨k, rfl⟩ : ∃ k, j = k + 14 := ⟨j - 14, by omega⟩
      simp
      intro ht
      have : k < 2 := by
        by_cases hk : k < 2
        · exact hk
        · exfalso
          have := Nat.testBit_lt_two_pow (x := a.toNat) (i := k + 14) (Nat.lt_of_lt_of_le (show a.toNat < 2 ^ 16 by omega) (Nat.pow_le_pow_right (by decide) (by omega)))
          simp [this] at ht
      match k, this with
      | 0, _ => rfl
      | 1, _ => rfl
    · simp [hj]
  simp [e]
  omega
theorem or_join (i : Nat) (x y : Int) (hx₀ : 0 ≤ x) (hx : x % 2 ^ i = 0) (hx₁ : x < 65536) (hy₀ : 0 ≤ y) (hy : y < 2 ^ i) (hy₁ : y < 65536) : bits .or .u16 x y = x + y :=
  bits_join .u16 16 (by decide) (fun n h h' => IntWalk.u16_in n (by omega)) i x y hx₀ hx hx₁ hy₀ hy hy₁
theorem or_join' (i : Nat) (x y : Int) (hx₀ : 0 ≤ x) (hx : x % 2 ^ i = 0) (hx₁ : x < 65536) (hy₀ : 0 ≤ y) (hy : y < 2 ^ i) (hy₁ : y < 65536) : bits .or .u16 y x = y + x := by
  have := or_join i x y hx₀ hx hx₁ hy₀ hy hy₁
  rw [show bits .or .u16 y x = bits .or .u16 x y by unfold bits; simp only [BitVec.or_comm], this]; omega
end Go.Proofs.Yteongalbljdjlaa
