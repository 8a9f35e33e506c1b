/- Plain functions of layer 3: addresses and operands. -/
import Derived.Test.YtmmpifcfhjdfnaaP02
set_option linter.unusedSimpArgs false
set_option linter.unusedVariables false
namespace Go.Proofs.Ytmmpifcfhjdfnaa
open Go.RowKit
/-- What Bank returns: the number, and the error. -/
def mBankV (fb su : Int) : Int := if 0 ≤ fb ∧ fb ≤ 31 ∧ 0 ≤ su ∧ su ≤ 7 then (if 24 ≤ fb ∧ 4 ≤ su then (if fb ≤ 27 then fb + 8 else 0) else fb) else 0
def mBankE (fb su : Int) : Int := if 0 ≤ fb ∧ fb ≤ 31 ∧ 0 ≤ su ∧ su ≤ 7 then (if 24 ≤ fb ∧ 4 ≤ su then (if fb ≤ 27 then 0 else 3) else 0) else 3
/-- The arguments of Absolute are in their ranges. -/
def mAbsOk (k eb fb : Int) : Prop := 0 ≤ k ∧ k ≤ 4095 ∧ 0 ≤ eb ∧ eb ≤ 7 ∧ 0 ≤ fb ∧ fb ≤ 35
instance (k eb fb : Int) : Decidable (mAbsOk k eb fb) := by unfold mAbsOk; infer_instance
def mAbsS (k eb fb : Int) : Int := if mAbsOk k eb fb then (if k ≤ 1023 then 1 else 2) else 0
def mAbsA (k eb fb : Int) : Int := if mAbsOk k eb fb then (if k ≤ 767 then k else if k ≤ 1023 then 256 * eb + k - 768 else if k ≤ 2047 then 1024 * fb + k - 1024 else k) else 0
def mAbsE (k eb fb : Int) : Int := if mAbsOk k eb fb then 0 else 3
/-- The arguments of Operand are in their ranges, for a space that exists. -/
def mOpOk (s a eb fb : Int) : Prop := 0 ≤ eb ∧ eb ≤ 7 ∧ 0 ≤ fb ∧ fb ≤ 35 ∧ 0 ≤ a ∧ a ≤ (if s = 2 then 36863 else 2047)
instance (s a eb fb : Int) : Decidable (mOpOk s a eb fb) := by unfold mOpOk; infer_instance
/-- The operand, or -1 if there is none. -/
def mOp (s a eb fb : Int) : Int := if s = 1 then (if a ≤ 767 then a else if a / 256 = eb then 768 + a % 256 else -1) else (if 2048 ≤ a ∧ a ≤ 4095 then a else if a / 1024 = fb then 1024 + a % 1024 else -1)
def mOpV (s a eb fb : Int) : Int := if (s = 1 ∨ s = 2) ∧ mOpOk s a eb fb then (if mOp s a eb fb < 0 then 0 else mOp s a eb fb) else 0
def mOpE (s a eb fb : Int) : Int := if s = 1 ∨ s = 2 then (if mOpOk s a eb fb then (if mOp s a eb fb < 0 then 3 else 0) else 3) else 2
end Go.Proofs.Ytmmpifcfhjdfnaa
