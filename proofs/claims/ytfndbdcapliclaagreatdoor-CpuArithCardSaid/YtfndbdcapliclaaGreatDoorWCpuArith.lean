/- The walk of CpuArith. -/
import Derived.Test.YtfndbdcapliclaaGreatDoorW05c
import Derived.Test.YtfndbdcapliclaaGreatDoorL05d
import Derived.Test.YtfndbdcapliclaaGreatDoorL05e
set_option linter.unusedSimpArgs false
set_option linter.unusedVariables false
set_option maxRecDepth 100000
namespace Go.Proofs.YtfndbdcapliclaaGreatDoor
open Go.ChangeShapes Go.WideShapes Go.ChangeAt Go.RowKit
set_option maxHeartbeats 4000000 in
theorem cpuArith_walk (a b c : Int) (w_a : (Lit.int .u16 a).wf = true) (w_b : (Lit.int .u16 b).wf = true) (w_c : (Lit.int .u16 c).wf = true) (w : World) (hL : Lay w) :
    Calls Tryz.prog 5 #[.int .u16 a, .int .u16 b, .int .u16 c] w fun e w' => e = .returned (.bool true) ∧ Below w.heap.size w w' := by
  obtain ⟨a0, a1⟩ := bounds_u16 w_a
  obtain ⟨b0, b1⟩ := bounds_u16 w_b
  obtain ⟨c0, c1⟩ := bounds_u16 w_c
  have HL := Lib.hid hL
  clear hL w_a w_b w_c
  obtain ⟨x, hx⟩ : ∃ x, mulHi a b = x := ⟨_, rfl⟩
  obtain ⟨y, hy⟩ : ∃ y, mulLo a b = y := ⟨_, rfl⟩
  obtain ⟨q, hq⟩ : ∃ q, dvQ a b c = q := ⟨_, rfl⟩
  obtain ⟨r, hr⟩ : ∃ r, dvR a b c = r := ⟨_, rfl⟩
  have M1 := Lib.hid (Multiply_any a b x y a0 (by omega) b0 (by omega) hx hy)
  have M2 := Lib.hid (rMultiply_any a b x y a0 (by omega) b0 (by omega) hx hy)
  have D1 := Lib.hid (Divide_any a b c q r a0 (by omega) b0 (by omega) c0 (by omega) hq hr)
  have D2 := Lib.hid (rDivide_any a b c q r a0 (by omega) b0 (by omega) c0 (by omega) hq hr)
  clear hx hy hq hr
  go_enter Tryz.func5, Tryz.ntmps5
  go_wp2_with (first
    | (go_at_call 23; refine (M1.out _).mono ?_; rintro e w1 ⟨rfl, k1, rfl⟩)
    | (go_at_call 24; refine (M2.out _).mono ?_; rintro e w2 ⟨rfl, rfl⟩)
    | (go_at_call 25; refine (D1.out _).mono ?_; rintro e w3 ⟨rfl, k3, rfl⟩)
    | (go_at_call 26; refine (D2.out _).mono ?_; rintro e w4 ⟨rfl, hb4⟩; (have X4 := Lib.hid (show Below w.heap.size w w4 by first | exact from_drewN hb4 | exact from_drewN (from_drewN hb4))); clear hb4)
    | (go_at_call 19; refine (works5_any _ (HL.out.below X4.out)).mono ?_; rintro e w5 ⟨rfl, hb5⟩; (have X5 := Lib.hid (X4.out.trans (hb5.mono X4.out.size))); clear hb5)
    | fail)
  go_ret
  exact ⟨rfl, X5.out⟩
end Go.Proofs.YtfndbdcapliclaaGreatDoor
