/- Plain functions of layer 6 (counter). -/
import Derived.Test.YteongalbljdjlaaL01
set_option linter.unusedSimpArgs false
set_option linter.unusedVariables false
namespace Go.Proofs.Yteongalbljdjlaa
/-- The word behind a pulse of the kind k, of a valid word. -/
def pW (x k : Int) : Int :=
  if k = 1 then (if x = 16383 then 0 else oAdd x 1)
  else if k = 2 then (if x = 16384 then 32767 else oAdd x 32766)
  else if k = 3 then (x + 1) % 32768
  else if k = 4 then (x + 32767) % 32768
  else if k = 5 then (if x = 0 ∨ x = 32767 then x else if x ≤ 16383 then x - 1 else x + 1)
  else if k = 6 then 2 * x % 32768
  else if k = 7 then (2 * x + 1) % 32768
  else 0
/-- Its signal. -/
def pS (x k : Int) : Int :=
  if k = 1 then (if x = 16383 then 1 else 0)
  else if k = 2 then (if x = 16384 then -1 else 0)
  else if k = 3 ∨ k = 4 then 0
  else if k = 5 then (if x = 0 ∨ x = 32767 then 0 else if x ≤ 16383 then 1 else -1)
  else if k = 6 ∨ k = 7 then (if 16383 < x then 1 else 0)
  else 0
def pE (k : Int) : Int := if 1 ≤ k ∧ k ≤ 7 then 0 else 2
theorem pE_cases (k : Int) : (pE k = 0 ∧ (k = 1 ∨ k = 2 ∨ k = 3 ∨ k = 4 ∨ k = 5 ∨ k = 6 ∨ k = 7)) ∨ (pE k = 2 ∧ ¬ (1 ≤ k ∧ k ≤ 7)) := by
  unfold pE; split <;> omega
theorem pW_bd (x k : Int) (h0 : 0 ≤ x) (h1 : x < 32768) : 0 ≤ pW x k ∧ pW x k < 32768 := by
  unfold pW oAdd
  repeat' split
  all_goals omega
theorem pS_bd (x k : Int) : -1 ≤ pS x k ∧ pS x k ≤ 1 := by
  unfold pS
  repeat' split
  all_goals omega
end Go.Proofs.Yteongalbljdjlaa
