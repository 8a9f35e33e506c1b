/- Contracts of layer 3: the reference's functions on addresses. -/
import Derived.Test.YtmmpifcfhjdfnaaChecked
import Derived.Test.YtmmpifcfhjdfnaaP03
import Derived.Test.YtmmpifcfhjdfnaaBase
set_option linter.unusedSimpArgs false
set_option linter.unusedVariables false
namespace Go.Proofs.Ytmmpifcfhjdfnaa
open Go.ChangeShapes Go.WideShapes Go.ChangeAt Go.RowKit
theorem ret_tup3 {k k' k'' : IntKind} {a b c d e f : Int} (h : a = b) (h' : c = d) (h'' : e = f) : Ending.returned (.tuple #[.int k a, .int k' c, .int k'' e]) = .returned (.tuple #[.int k b, .int k' d, .int k'' f]) := by rw [h, h', h'']
theorem mOpV_no (s a eb fb : Int) (h : ¬ ((s = 1 ∨ s = 2) ∧ mOpOk s a eb fb)) : 0 = mOpV s a eb fb := by unfold mOpV; rw [if_neg h]
theorem mOpV_yes (s a eb fb x : Int) (h : (s = 1 ∨ s = 2) ∧ mOpOk s a eb fb) (hx : mOp s a eb fb = x) (h0 : 0 ≤ x) : x = mOpV s a eb fb := by unfold mOpV; rw [if_pos h, hx, if_neg (by omega)]
theorem mOpV_none (s a eb fb : Int) (hx : mOp s a eb fb = -1) : 0 = mOpV s a eb fb := by
  unfold mOpV; rw [hx]; split <;> rfl
theorem mOpE_arg (s a eb fb : Int) (h : ¬ (s = 1 ∨ s = 2)) : 2 = mOpE s a eb fb := by unfold mOpE; rw [if_neg h]
theorem mOpE_no (s a eb fb : Int) (h : s = 1 ∨ s = 2) (h' : ¬ mOpOk s a eb fb) : 3 = mOpE s a eb fb := by unfold mOpE; rw [if_pos h, if_neg h']
theorem mOpE_yes (s a eb fb : Int) (h : s = 1 ∨ s = 2) (h' : mOpOk s a eb fb) (h0 : 0 ≤ mOp s a eb fb) : 0 = mOpE s a eb fb := by unfold mOpE; rw [if_pos h, if_pos h', if_neg (by omega)]
theorem mOpE_none (s a eb fb : Int) (h : s = 1 ∨ s = 2) (hx : mOp s a eb fb = -1) : 3 = mOpE s a eb fb := by
  unfold mOpE; rw [if_pos h, hx]; split <;> rfl
theorem mOpOk1 (a eb fb : Int) : mOpOk 1 a eb fb ↔ (0 ≤ eb ∧ eb ≤ 7 ∧ 0 ≤ fb ∧ fb ≤ 35 ∧ 0 ≤ a ∧ a ≤ 2047) := by unfold mOpOk; rw [if_neg (by omega)]
theorem mOpOk2 (a eb fb : Int) : mOpOk 2 a eb fb ↔ (0 ≤ eb ∧ eb ≤ 7 ∧ 0 ≤ fb ∧ fb ≤ 35 ∧ 0 ≤ a ∧ a ≤ 36863) := by unfold mOpOk; rw [if_pos rfl]
end Go.Proofs.Ytmmpifcfhjdfnaa
