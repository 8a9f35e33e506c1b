/- Contracts of layer 5: the reference's values and Load. -/
import Derived.Test.YtmmpifcfhjdfnaaL05
set_option linter.unusedSimpArgs false
set_option linter.unusedVariables false
namespace Go.Proofs.Ytmmpifcfhjdfnaa
open Go.ChangeShapes Go.WideShapes Go.ChangeAt Go.RowKit
theorem wd_bd (n : Nat) (z : Nat → Int) (a : Int) : 0 ≤ wd n z a ∧ wd n z a ≤ 32767 := by unfold wd; split <;> omega
/-- The three boxes that 'value' makes. -/
theorem below3 (w : World) (o o' o'' : Obj) : Below w.heap.size w (((w.alloc o).alloc o').alloc o'') := (below2 w o o').alloc (by simp; omega) _
theorem ret_vb {a b : Int} {c d : Bool} (h : a = b) (h' : c = d) : Ending.returned (.tuple #[.int .u16 a, .bool c]) = .returned (.tuple #[.int .u16 b, .bool d]) := by rw [h, h']
end Go.Proofs.Ytmmpifcfhjdfnaa
