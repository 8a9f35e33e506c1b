/- Layer 3: what operands and addresses have to do with each other. -/
import Derived.Test.YtmmpifcfhjdfnaaL03
set_option linter.unusedSimpArgs false
set_option linter.unusedVariables false
namespace Go.Proofs.Ytmmpifcfhjdfnaa
open Go.RowKit
/-- The operand k addresses the word a of the space s. -/
def mLead (k eb fb s a : Int) : Bool := decide (mAbsE k eb fb = 0 ∧ mAbsS k eb fb = s ∧ mAbsA k eb fb = a)
theorem mLead_mk {k eb fb s a : Int} (h : mAbsOk k eb fb) (hs : (if k ≤ 1023 then 1 else 2) = s) (ha : (if k ≤ 767 then k else if k ≤ 1023 then 256 * eb + k - 768 else if k ≤ 2047 then 1024 * fb + k - 1024 else k) = a) : mLead k eb fb s a = true := by
  unfold mLead mAbsE mAbsS mAbsA
  rw [if_pos h, if_pos h, if_pos h, hs, ha]; simp
theorem reach1_yes (x b c : Int) (x0 : 0 ≤ x) (x1 : x < 2048) (b0 : 0 ≤ b) (b1 : b < 8) (c0 : 0 ≤ c) (c1 : c < 36) (h : x ≤ 767 ∨ x / 256 = b) :
    ∃ k, mOpV 1 x b c = k ∧ mOpE 1 x b c = 0 ∧ mLead k b c 1 x = true ∧ 0 ≤ k ∧ k ≤ 1023 ∧ (x ≤ 767 → k = x) ∧ (767 < x → k = 768 + x % 256) := by
  have ok := (mOpOk1 x b c).2 (by omega)
  by_cases d : x ≤ 767
  · have e : mOp 1 x b c = x := by unfold mOp; rw [if_pos rfl, if_pos d]
    refine ⟨x, (mOpV_yes 1 x b c x ⟨.inl rfl, ok⟩ e x0).symm, (mOpE_yes 1 x b c (.inl rfl) ok (by rw [e]; exact x0)).symm, mLead_mk (by unfold mAbsOk; omega) (by rw [if_pos (by omega)]) (by rw [if_pos d]), x0, by omega, fun _ => rfl, fun h => by omega⟩
  · have d2 : x / 256 = b := by omega
    have e : mOp 1 x b c = 768 + x % 256 := by unfold mOp; rw [if_pos rfl, if_neg d, if_pos d2]
    refine ⟨768 + x % 256, (mOpV_yes 1 x b c _ ⟨.inl rfl, ok⟩ e (by omega)).symm, (mOpE_yes 1 x b c (.inl rfl) ok (by rw [e]; omega)).symm, mLead_mk (by unfold mAbsOk; omega) (by rw [if_pos (by omega)]) (by rw [if_neg (by omega), if_pos (by omega)]; omega), by omega, by omega, fun h => by omega, fun _ => rfl⟩
theorem reach1_no (x b c : Int) (x0 : 0 ≤ x) (x1 : x < 2048) (b0 : 0 ≤ b) (b1 : b < 8) (c0 : 0 ≤ c) (c1 : c < 36) (h : ¬ (x ≤ 767 ∨ x / 256 = b)) : mOpE 1 x b c = 3 :=
  (mOpE_none 1 x b c (.inl rfl) (by unfold mOp; rw [if_pos rfl, if_neg (by omega), if_neg (by omega)])).symm
theorem reach2_yes (y b c : Int) (y0 : 0 ≤ y) (y1 : y < 36864) (b0 : 0 ≤ b) (b1 : b < 8) (c0 : 0 ≤ c) (c1 : c < 36) (h : y / 1024 = 2 ∨ y / 1024 = 3 ∨ y / 1024 = c) :
    ∃ k, mOpV 2 y b c = k ∧ mOpE 2 y b c = 0 ∧ mLead k b c 2 y = true ∧ 1024 ≤ k ∧ k ≤ 4095 ∧ (2048 ≤ y ∧ y ≤ 4095 → k = y) ∧ (¬ (2048 ≤ y ∧ y ≤ 4095) → k = 1024 + y % 1024) := by
  have ok := (mOpOk2 y b c).2 (by omega)
  by_cases d : 2048 ≤ y ∧ y ≤ 4095
  · have e : mOp 2 y b c = y := by unfold mOp; rw [if_neg (by omega), if_pos d]
    refine ⟨y, (mOpV_yes 2 y b c y ⟨.inr rfl, ok⟩ e y0).symm, (mOpE_yes 2 y b c (.inr rfl) ok (by rw [e]; exact y0)).symm, mLead_mk (by unfold mAbsOk; omega) (by rw [if_neg (by omega)]) (by rw [if_neg (by omega), if_neg (by omega), if_neg (by omega)]), by omega, by omega, fun _ => rfl, fun h => absurd d h⟩
  · have d2 : y / 1024 = c := by omega
    have e : mOp 2 y b c = 1024 + y % 1024 := by unfold mOp; rw [if_neg (by omega), if_neg d, if_pos d2]
    refine ⟨1024 + y % 1024, (mOpV_yes 2 y b c _ ⟨.inr rfl, ok⟩ e (by omega)).symm, (mOpE_yes 2 y b c (.inr rfl) ok (by rw [e]; omega)).symm, mLead_mk (by unfold mAbsOk; omega) (by rw [if_neg (by omega)]) (by rw [if_neg (by omega), if_neg (by omega), if_pos (by omega)]; omega), by omega, by omega, fun h => absurd h d, fun _ => rfl⟩
theorem reach2_no (y b c : Int) (y0 : 0 ≤ y) (y1 : y < 36864) (b0 : 0 ≤ b) (b1 : b < 8) (c0 : 0 ≤ c) (c1 : c < 36) (h : ¬ (y / 1024 = 2 ∨ y / 1024 = 3 ∨ y / 1024 = c)) : mOpE 2 y b c = 3 :=
  (mOpE_none 2 y b c (.inr rfl) (by unfold mOp; rw [if_neg (by omega), if_neg (by omega), if_neg (by omega)])).symm
theorem kmem : mBankV 27 7 = 35 ∧ mBankE 27 7 = 0 ∧ mBankV 28 4 = 0 ∧ mBankE 28 4 = 3 := by decide
theorem klead : mLead 768 5 9 1 1280 = true ∧ mLead 1024 5 9 2 9216 = true ∧ mLead 767 5 9 1 767 = true ∧ mLead 2048 5 9 2 2048 = true ∧ mAbsE 4096 0 0 = 3 ∧ mAbsS 4096 0 0 = 0 ∧ mAbsA 4096 0 0 = 0 := by decide
theorem koper : mOpV 2 9217 5 9 = 1025 ∧ mOpE 2 9217 5 9 = 0 ∧ mOpV 1 1281 4 9 = 0 ∧ mOpE 1 1281 4 9 = 3 ∧ mOpV 1 300 5 9 = 300 ∧ mOpE 1 300 5 9 = 0 ∧ mOpV 1 1281 5 9 = 769 ∧ mOpE 1 1281 5 9 = 0 ∧ mOpV 2 3000 5 2 = 3000 ∧ mOpE 2 3000 5 2 = 0 ∧ mOpV 0 1 0 0 = 0 ∧ mOpE 0 1 0 0 = 2 ∧ mOpV 3 1 0 0 = 0 ∧ mOpE 3 1 0 0 = 2 := by decide
end Go.Proofs.Ytmmpifcfhjdfnaa
