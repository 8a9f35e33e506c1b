/- Plain functions of layer 7: the flags of InterruptBars. -/
import Derived.Test.YtmmpifcfhjdfnaaP07b
import Derived.Test.YtmmpifcfhjdfnaaM07f
set_option linter.unusedSimpArgs false
set_option linter.unusedVariables false
namespace Go.Proofs.Ytmmpifcfhjdfnaa
open Go.RowKit
theorem u8_2 (f : Int) (f0 : 0 ≤ f) (f1 : f < 256) : bits .and .u8 f 2 = f / 2 % 2 * 2 := by
  have h := u8_and f 2 f0 f1 (by omega) (by omega)
  rw [h]
  have := nat_and_bit f.toNat 1
  simp at this
  simp [this]
  omega
theorem u8_4 (f : Int) (f0 : 0 ≤ f) (f1 : f < 256) : bits .and .u8 f 4 = f / 4 % 2 * 4 := by
  have h := u8_and f 4 f0 f1 (by omega) (by omega)
  rw [h]
  have := nat_and_bit f.toNat 2
  simp at this
  simp [this]
  omega
theorem u8_8 (f : Int) (f0 : 0 ≤ f) (f1 : f < 256) : bits .and .u8 f 8 = f / 8 % 2 * 8 := by
  have h := u8_and f 8 f0 f1 (by omega) (by omega)
  rw [h]
  have := nat_and_bit f.toNat 3
  simp at this
  simp [this]
  omega
theorem u8_low (f : Int) (f0 : 0 ≤ f) (f1 : f < 256) : bits .and .u8 f 31 = f % 32 := by
  have := bits_mask .u8 8 (by decide) (fun n h h' => IntWalk.u8_in n (by omega)) 5 (by decide) f f0 (by omega)
  simpa using this
theorem u8_one (f : Int) (f0 : 0 ≤ f) (f1 : f < 256) : bits .and .u8 f 1 = f % 2 := by
  have := bits_mask .u8 8 (by decide) (fun n h h' => IntWalk.u8_in n (by omega)) 1 (by decide) f f0 (by omega)
  simpa using this
/-- The registers that the flags stand for. -/
def flR (a f : Int) : Rg := { rg0 with A := a, Ih := (bits .and .u8 f 1 != 0), Sv := (bits .and .u8 f 2 != 0), Ex := (bits .and .u8 f 4 != 0), Hd := (bits .and .u8 f 8 != 0), Ix := f / 16 % 2 }
theorem flR_alw (a f : Int) (a0 : 0 ≤ a) (a1 : a < 65536) (f0 : 0 ≤ f) (f1 : f < 256) : alw (flR a f) = decide (f % 32 = 0 ∧ (a < 16384 ∨ 49152 ≤ a)) := by
  have h1 := u8_one f f0 f1
  have h2 := u8_2 f f0 f1
  have h4 := u8_4 f f0 f1
  have h8 := u8_8 f f0 f1
  unfold alw flR
  simp only [h1, h2, h4, h8]
  have ho : decide (oOver a = 0) = decide (a < 16384 ∨ 49152 ≤ a) := by
    unfold oOver
    apply decide_eq_decide.2
    omega
  rw [ho]
  rw [Bool.eq_iff_iff]
  simp only [Bool.and_eq_true, Bool.not_eq_true', bne_eq_false_iff_eq, decide_eq_true_eq]
  omega
theorem flR_fit (a f : Int) (a0 : 0 ≤ a) (a1 : a < 65536) : (flR a f).Fit := by
  constructor <;> simp only [flR, rg0] <;> omega
/-- The bits 1 to 10 of a number. -/
theorem and2046 (p : Int) (p0 : 0 ≤ p) (p1 : p < 65536) : bits .and .u16 p 2046 = ((sB (pb p) 10 : Nat) : Int) := by
  rw [u16_and p 2046 p0 p1 (by decide) (by decide)]
  congr 1
  apply Nat.eq_of_testBit_eq
  intro i
  rw [Nat.testBit_and, sB_bit]
  unfold pb
  by_cases h : i < 11
  · have : i = 0 ∨ i = 1 ∨ i = 2 ∨ i = 3 ∨ i = 4 ∨ i = 5 ∨ i = 6 ∨ i = 7 ∨ i = 8 ∨ i = 9 ∨ i = 10 := by omega
    rcases this with rfl | rfl | rfl | rfl | rfl | rfl | rfl | rfl | rfl | rfl | rfl <;> simp <;> (try (intro _; decide))
  · have e : (2046 : Int).toNat = 2046 := rfl
    rw [e, Nat.testBit_lt_two_pow (show 2046 < 2 ^ i from Nat.lt_of_lt_of_le (by decide) (Nat.pow_le_pow_right (by decide) (show 11 ≤ i by omega)))]
    have : ¬ (1 ≤ i ∧ i ≤ 10) := by omega
    simp [this]
theorem fs_zero (p : Int) : (fs p 10 = 0 ↔ sB (pb p) 10 = 0) := by
  constructor
  · intro h
    rcases fs_spec p 10 with ⟨_, h1⟩ | ⟨h0, _⟩
    · have : sB (pb p) 10 = sB (fun _ => false) 10 := sB_congr 10 (fun n a b => h1 n a b)
      rw [this]; rfl
    · omega
  · intro h
    rcases fs_spec p 10 with ⟨h0, _⟩ | ⟨h0, h1, h2, _⟩
    · exact h0
    · have := sB_bit (pb p) 10 (fs p 10)
      rw [h, h2] at this
      simp [h0, h1] at this
end Go.Proofs.Ytmmpifcfhjdfnaa
