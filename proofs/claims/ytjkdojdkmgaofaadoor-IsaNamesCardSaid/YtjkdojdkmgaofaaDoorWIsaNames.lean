/- The walk of IsaNames. -/
import Derived.Test.YtjkdojdkmgaofaaDoorL04g
set_option linter.unusedSimpArgs false
set_option linter.unusedVariables false
namespace Go.Proofs.YtjkdojdkmgaofaaDoor
open Go.ChangeShapes Go.WideShapes Go.ChangeAt Go.RowKit
set_option maxHeartbeats 4000000 in
theorem isaNames_walk (s : ByteArray) (c k : Int) (hl : s.size ≤ maxLen) (hc : (Lit.int .u8 c).wf = true) (hk : (Lit.int .u8 k).wf = true) (w : World) (hL : Lay w) :
    Calls Tryd.prog 3 #[.string s, .int .u8 c, .int .u8 k] w fun e w' => e = .returned (.bool true) ∧ Below w.heap.size w w' := by
  have HL := Lib.hid hL
  clear hL
  have hcb := bounds_u8 hc
  have hkb := bounds_u8 hk
  clear hc hk
  obtain ⟨a0, a1, a2, a3, a4, a5, a6, ha1, ha2⟩ := find_both s hl
  obtain ⟨d0, d1, d2, d3, d4, d5, d6, hd1, hd2⟩ := of_both c (by omega) (by omega)
  have F1 := Lib.hid ha1
  have F2 := Lib.hid ha2
  have O1 := Lib.hid hd1
  have O2 := Lib.hid hd2
  clear ha1 ha2 hd1 hd2
  go_enter Tryd.func3, Tryd.ntmps3
  go_wp2_with (first
    | (go_at_call 12; refine (Names_any _ (by repeat (first | exact HL.out | exact Lay.keep HL (by assumption) | exact Lay.keep HLW (by assumption) | refine Lay.alloc ?_ _ | refine Lay.drew ?_ | (refine Lay.below HL.out (Below.setCell ?_ ?_ _) <;> first | exact Nat.le_refl _ | exact Hid.out (by assumption) | omega)))).mono ?_; rintro e w1 ⟨g1, c1, rfl, hg1, hg1', hcell1, hb⟩; (have B1 := Lib.hid hb); (have C1 := Lib.hid hcell1); clear hb hcell1)
    | (go_at_call 13; refine (rNames_any _).mono ?_; rintro e w2 ⟨g2, c2, rfl, hg2, hg2', hcell2, hb⟩; (have C1' := Lib.hid (fun i hi => (hb.cell (p := ⟨g1, i, none⟩) hg1').trans (C1.out i hi))); (have B2 := Lib.hid (B1.out.trans (hb.mono B1.out.size))); (have C2 := Lib.hid hcell2); clear hb hcell2)
    | (go_at_call 11; refine (rTexts_yes g1 c1 g2 c2 _ C1'.out C2.out).mono ?_; rintro e wt ⟨rfl, m, rfl⟩))
  obtain ⟨w2', hw2'⟩ : ∃ w2', w2.drewN m = w2' := ⟨_, rfl⟩
  have B3 : Hid (Below w.heap.size w w2') := by rw [← hw2']; exact below_drewN B2.out m
  rw [hw2']
  clear hg1 hg1' hg2 hg2' hw2' B1 B2 C1 C2 C1'
  go_wp2_with (first
    | (go_at_call 14; refine (F1.out _ (by repeat (first | exact HL.out | exact Lay.keep HL (by assumption) | exact Lay.keep HLW (by assumption) | refine Lay.alloc ?_ _ | refine Lay.drew ?_ | (refine Lay.below HL.out (Below.setCell ?_ ?_ _) <;> first | exact Nat.le_refl _ | exact Hid.out (by assumption) | omega)))).mono ?_; rintro e w4 ⟨rfl, hb⟩; (have B4 := Lib.hid (B3.out.trans (hb.mono B3.out.size))); clear hb)
    | (go_at_call 15; refine (F2.out _ (by repeat (first | exact HL.out | exact Lay.keep HL (by assumption) | exact Lay.keep HLW (by assumption) | refine Lay.alloc ?_ _ | refine Lay.drew ?_ | (refine Lay.below HL.out (Below.setCell ?_ ?_ _) <;> first | exact Nat.le_refl _ | exact Hid.out (by assumption) | omega)))).mono ?_; rintro e w5 ⟨rfl, hb⟩; (obtain ⟨hk5, hl5⟩ := bcell hb); (have hz5 : w4.heap.size < w5.heap.size := by have := hb.size; simp at this; omega); (have B5 := Lib.hid ((B4.out.alloc B4.out.size _).trans (hb.mono (by have := B4.out.size; simp; omega)))); clear hb)
    | (go_at_call 16; refine (O1.out _ (by repeat (first | exact HL.out | exact Lay.keep HL (by assumption) | exact Lay.keep HLW (by assumption) | refine Lay.alloc ?_ _ | refine Lay.drew ?_ | (refine Lay.below HL.out (Below.setCell ?_ ?_ _) <;> first | exact Nat.le_refl _ | exact Hid.out (by assumption) | omega)))).mono ?_; rintro e w6 ⟨rfl, hb⟩; (obtain ⟨hk6, hl6⟩ := bcell hb); (have hz6 : w5.heap.size < w6.heap.size := by have := hb.size; simp at this; omega); (have hy6 : w4.heap.size < w6.heap.size := by omega); (have B6 := Lib.hid ((B5.out.alloc B5.out.size _).trans (hb.mono (by have := B5.out.size; simp; omega)))); clear hb)
    | (go_at_call 17; refine (O2.out _ (by repeat (first | exact HL.out | exact Lay.keep HL (by assumption) | exact Lay.keep HLW (by assumption) | refine Lay.alloc ?_ _ | refine Lay.drew ?_ | (refine Lay.below HL.out (Below.setCell ?_ ?_ _) <;> first | exact Nat.le_refl _ | exact Hid.out (by assumption) | omega)))).mono ?_; rintro e w7 ⟨rfl, hb⟩; (obtain ⟨hk7, hl7⟩ := bcell hb); (have hz7 : w6.heap.size < w7.heap.size := by have := hb.size; simp at this; omega); (have hy7 : w4.heap.size < w7.heap.size := by omega); (have hx7 : w5.heap.size < w7.heap.size := by omega); (have B7 := Lib.hid ((B6.out.alloc B6.out.size _).trans (hb.mono (by have := B6.out.size; simp; omega)))); clear hb)
    | (go_at_call 18; refine (Range_any _ _ _ _ _ _ _ (by first | exact kd_255 _ (by assumption) | omega | decide) (by repeat (first | exact HL.out | exact Lay.keep HL (by assumption) | exact Lay.keep HLW (by assumption) | refine Lay.alloc ?_ _ | refine Lay.drew ?_ | (refine Lay.below HL.out (Below.setCell ?_ ?_ _) <;> first | exact Nat.le_refl _ | exact Hid.out (by assumption) | omega)))).mono ?_; rintro e w8 ⟨rfl, hb⟩; (have B8 := Lib.hid ((B7.out.alloc B7.out.size _).trans (hb.mono (by have := B7.out.size; simp; omega)))); clear hb)
    | (go_at_call 19; refine (rRange_any _ _ _ _ _ _ _).mono ?_; rintro e w9 ⟨rfl, hb⟩; (have B9 := Lib.hid (B8.out.trans (hb.mono B8.out.size))); clear hb)
    | (go_at_call 20; refine (works4_any _ (by repeat (first | exact HL.out | exact Lay.keep HL (by assumption) | exact Lay.keep HLW (by assumption) | refine Lay.alloc ?_ _ | refine Lay.drew ?_ | (refine Lay.below HL.out (Below.setCell ?_ ?_ _) <;> first | exact Nat.le_refl _ | exact Hid.out (by assumption) | omega)))).mono ?_; rintro e w10 ⟨rfl, hb⟩; (have B10 := Lib.hid (B9.out.trans (hb.mono B9.out.size))); clear hb))
  go_ret
  exact ⟨rfl, B10.out⟩
end Go.Proofs.YtjkdojdkmgaofaaDoor
