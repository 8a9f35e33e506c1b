/- The walk of IsaDecodes. -/
import Derived.Test.YtjkdojdkmgaofaaDoorL04f
set_option linter.unusedSimpArgs false
set_option linter.unusedVariables false
namespace Go.Proofs.YtjkdojdkmgaofaaDoor
open Go.ChangeShapes Go.WideShapes Go.ChangeAt Go.RowKit
set_option maxHeartbeats 2000000 in
theorem isaDecodes_walk (x : Int) (ex : Bool) (hx : (Lit.int .u16 x).wf = true) (w : World) (hL : Lay w) :
    Calls Tryd.prog 5 #[.int .u16 x, .bool ex] w fun e w' => e = .returned (.bool true) ∧ Below w.heap.size w w' := by
  have HL := Lib.hid hL
  clear hL
  have hb := bounds_u16 hx
  clear hx
  by_cases h : x ≤ 32767
  · obtain ⟨i, hi⟩ : ∃ i, decI x ex = i := ⟨_, rfl⟩
    have HI := Lib.hid hi
    clear hi
    go_enter Tryd.func5, Tryd.ntmps5
    go_wp2_with (first
      | (go_at_call 23; refine (Decode_yes x (by omega) h ex i HI.out _ (by repeat (first | exact HL.out | exact Lay.keep HL (by assumption) | exact Lay.keep HLW (by assumption) | refine Lay.alloc ?_ _ | refine Lay.drew ?_ | (refine Lay.below HL.out (Below.setCell ?_ ?_ _) <;> first | exact Nat.le_refl _ | exact Hid.out (by assumption) | omega)))).mono ?_; rintro e w1 ⟨rfl, hb⟩; (have B1 := Lib.hid hb); clear hb)
      | (go_at_call 24; refine (rDecode_yes x (by omega) h ex i HI.out _).mono ?_; rintro e w2 ⟨rfl, hb⟩; (obtain ⟨hk1, hk2⟩ := bcell hb); (have hz2 : w1.heap.size < w2.heap.size := by have := hb.size; simp at this; omega); (have B2 := Lib.hid ((B1.out.alloc B1.out.size _).trans (hb.mono (by have := B1.out.size; simp; omega)))); clear hb)
      | (go_at_call 20; refine (works4_any _ (by repeat (first | exact HL.out | exact Lay.keep HL (by assumption) | exact Lay.keep HLW (by assumption) | refine Lay.alloc ?_ _ | refine Lay.drew ?_ | (refine Lay.below HL.out (Below.setCell ?_ ?_ _) <;> first | exact Nat.le_refl _ | exact Hid.out (by assumption) | omega)))).mono ?_; rintro e w3 ⟨rfl, hb⟩; (have B3 := Lib.hid ((B2.out.alloc B2.out.size _).trans (hb.mono (by have := B2.out.size; simp; omega)))); clear hb))
    go_ret
    exact ⟨rfl, B3.out⟩
  · have h' : 32767 < x := by omega
    clear h
    go_enter Tryd.func5, Tryd.ntmps5
    go_wp2_with (first
      | (go_at_call 23; refine (Decode_no x h' (by omega) ex _).mono ?_; rintro e w1 ⟨rfl, hb⟩; (have B1 := Lib.hid hb); clear hb)
      | (go_at_call 24; refine (rDecode_no x h' ex _).mono ?_; rintro e w2 ⟨rfl, hb⟩; (obtain ⟨hk1, hk2⟩ := bcell hb); (have hz2 : w1.heap.size < w2.heap.size := by have := hb.size; simp at this; omega); (have B2 := Lib.hid ((B1.out.alloc B1.out.size _).trans (hb.mono (by have := B1.out.size; simp; omega)))); clear hb)
      | (go_at_call 20; refine (works4_any _ (by repeat (first | exact HL.out | exact Lay.keep HL (by assumption) | exact Lay.keep HLW (by assumption) | refine Lay.alloc ?_ _ | refine Lay.drew ?_ | (refine Lay.below HL.out (Below.setCell ?_ ?_ _) <;> first | exact Nat.le_refl _ | exact Hid.out (by assumption) | omega)))).mono ?_; rintro e w3 ⟨rfl, hb⟩; (have B3 := Lib.hid ((B2.out.alloc B2.out.size _).trans (hb.mono (by have := B2.out.size; simp; omega)))); clear hb))
    go_ret
    exact ⟨rfl, B3.out⟩
end Go.Proofs.YtjkdojdkmgaofaaDoor
