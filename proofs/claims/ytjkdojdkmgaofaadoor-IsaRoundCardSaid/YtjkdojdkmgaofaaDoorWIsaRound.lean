/- The walk of IsaRound. -/
import Derived.Test.YtjkdojdkmgaofaaDoorL04g
set_option linter.unusedSimpArgs false
set_option linter.unusedVariables false
namespace Go.Proofs.YtjkdojdkmgaofaaDoor
open Go.ChangeShapes Go.WideShapes Go.ChangeAt Go.RowKit
/-- What is known of a word's instruction. -/
theorem dec_facts (x : Int) (x0 : 0 ≤ x) (x1 : x ≤ 32767) (ex : Bool) : ∃ i, decI x ex = i ∧ i < 39 ∧ decide (19 ≤ i) = ex ∧ encE i (x - bs i) = 0 ∧ encW i (x - bs i) = x ∧ lo (kd i) ≤ x - bs i ∧ x - bs i ≤ hi (kd i) ∧ 0 ≤ bs i ∧ bs i ≤ 28672 := by
  have h39 := decI_lt x ex
  have ok := dec_ok x x0 x1 ex
  have e := enc_yes ok
  have b := bs_bd _ h39
  exact ⟨_, rfl, h39, decI_ext x ex, e.2.symm, by rw [← e.1]; omega, ok.1, ok.2.1, b.1, b.2⟩
set_option maxRecDepth 100000 in
set_option maxHeartbeats 1500000 in
theorem isaRound_walk (x : Int) (hx : (Lit.int .u16 x).wf = true) (w : World) (hL : Lay w) :
    Calls Tryd.prog 6 #[.int .u16 x] w fun e w' => e = .returned (.bool true) ∧ Below w.heap.size w w' := by
  have HL := Lib.hid hL
  clear hL
  have hb := bounds_u16 hx
  clear hx
  have z0 : 0 ≤ x % 32768 := by omega
  have z1 : x % 32768 ≤ 32767 := by omega
  go_enter Tryd.func6, Tryd.ntmps6
  go_wp2
  generalize x % 32768 = z at z0 z1 ⊢
  have i0 : ∀ w : World, (Instr.index 47 (.agg #[.bool false, .bool true]) (.int .i64 0)).run Tryd.prog w = .ok (.bool false) w := fun _ => by kernel_rfl
  have i1 : ∀ w : World, (Instr.index 47 (.agg #[.bool false, .bool true]) (.int .i64 1)).run Tryd.prog w = .ok (.bool true) w := fun _ => by kernel_rfl
  go_loopw [17] (fun i wr => ∃ j : Int, 0 ≤ j ∧ j ≤ 2 ∧ i = .int .i64 j ∧ Below w.heap.size w wr) (fun i _ => 2 - (intOf i).toNat)
  case atStart => exact ⟨0, by omega, by omega, rfl, Below.refl _ _⟩
  case round =>
    obtain ⟨j, hj0, hj, rfl, hb⟩ := hrel
    have X0 := Lib.hid hb
    clear hb
    by_cases hlt : j < 2
    · have hjj : j = 0 ∨ j = 1 := by omega
      rcases hjj with rfl | rfl
      · obtain ⟨i, f1, f2, f3, f4, f5, f6, f7, f8, f9⟩ := dec_facts z z0 z1 false
        have HI := Lib.hid f1
        clear f1
        go_wp2_with (first
          | (go_at_call 23; refine (Decode_yes z z0 z1 _ i HI.out _ (by repeat (first | exact HL.out | exact Lay.keep HL (by assumption) | exact Lay.keep HLW (by assumption) | refine Lay.alloc ?_ _ | refine Lay.drew ?_ | (refine Lay.below HL.out (Below.setCell ?_ ?_ _) <;> first | exact Nat.le_refl _ | exact Hid.out (by assumption) | omega)))).mono ?_; rintro e w1 ⟨rfl, hb⟩; (have X1 := Lib.hid (X0.out.trans (hb.mono X0.out.size))); clear hb)
          | (go_at_call 21; refine (Encode_yes _ _ _ _ _ _ i f2 (by omega) (z - bs i) (by omega) (by omega) _ (by repeat (first | exact HL.out | exact Lay.keep HL (by assumption) | exact Lay.keep HLW (by assumption) | refine Lay.alloc ?_ _ | refine Lay.drew ?_ | (refine Lay.below HL.out (Below.setCell ?_ ?_ _) <;> first | exact Nat.le_refl _ | exact Hid.out (by assumption) | omega)))).mono ?_; rintro e w2 ⟨rfl, hb⟩; (obtain ⟨hk2, hl2⟩ := bcell hb); (have hz2 : w1.heap.size < w2.heap.size := by have := hb.size; simp at this; omega); (have X2 := Lib.hid ((X1.out.alloc X1.out.size _).trans (hb.mono (by have := X1.out.size; simp; omega)))); clear hb)
          | (go_at_call 16; refine (Of_yes _ i f2 (by omega) _ (by repeat (first | exact HL.out | exact Lay.keep HL (by assumption) | exact Lay.keep HLW (by assumption) | refine Lay.alloc ?_ _ | refine Lay.drew ?_ | (refine Lay.below HL.out (Below.setCell ?_ ?_ _) <;> first | exact Nat.le_refl _ | exact Hid.out (by assumption) | omega)))).mono ?_; rintro e w3 ⟨rfl, hb⟩; (obtain ⟨hk3, hl3⟩ := bcell hb); (have hz3 := hb.size); (have hz4 : w1.heap.size < w3.heap.size := by omega); (have X3 := Lib.hid (X2.out.trans (hb.mono X2.out.size))); clear hb)
          | (go_at_call 18; refine (Range_any _ _ _ _ _ _ _ (by first | exact kd_255 _ (by assumption) | omega | decide) (by repeat (first | exact HL.out | exact Lay.keep HL (by assumption) | exact Lay.keep HLW (by assumption) | refine Lay.alloc ?_ _ | refine Lay.drew ?_ | (refine Lay.below HL.out (Below.setCell ?_ ?_ _) <;> first | exact Nat.le_refl _ | exact Hid.out (by assumption) | omega)))).mono ?_; rintro e w4 ⟨rfl, hb⟩; (obtain ⟨hk4, hl4⟩ := bcell hb); (have hz5 : w3.heap.size < w4.heap.size := by have := hb.size; simp at this; omega); (have hz6 : w1.heap.size < w4.heap.size := by omega); (have X4 := Lib.hid ((X3.out.alloc X3.out.size _).trans (hb.mono (by have := X3.out.size; simp; omega)))); clear hb))
        go_roundw
        case rel => first | exact ⟨1, by decide, by decide, rfl, X4.out⟩ | exact ⟨2, by decide, by decide, rfl, X4.out⟩
        case measure => decide
      · obtain ⟨i, f1, f2, f3, f4, f5, f6, f7, f8, f9⟩ := dec_facts z z0 z1 true
        have HI := Lib.hid f1
        clear f1
        go_wp2_with (first
          | (go_at_call 23; refine (Decode_yes z z0 z1 _ i HI.out _ (by repeat (first | exact HL.out | exact Lay.keep HL (by assumption) | exact Lay.keep HLW (by assumption) | refine Lay.alloc ?_ _ | refine Lay.drew ?_ | (refine Lay.below HL.out (Below.setCell ?_ ?_ _) <;> first | exact Nat.le_refl _ | exact Hid.out (by assumption) | omega)))).mono ?_; rintro e w1 ⟨rfl, hb⟩; (have X1 := Lib.hid (X0.out.trans (hb.mono X0.out.size))); clear hb)
          | (go_at_call 21; refine (Encode_yes _ _ _ _ _ _ i f2 (by omega) (z - bs i) (by omega) (by omega) _ (by repeat (first | exact HL.out | exact Lay.keep HL (by assumption) | exact Lay.keep HLW (by assumption) | refine Lay.alloc ?_ _ | refine Lay.drew ?_ | (refine Lay.below HL.out (Below.setCell ?_ ?_ _) <;> first | exact Nat.le_refl _ | exact Hid.out (by assumption) | omega)))).mono ?_; rintro e w2 ⟨rfl, hb⟩; (obtain ⟨hk2, hl2⟩ := bcell hb); (have hz2 : w1.heap.size < w2.heap.size := by have := hb.size; simp at this; omega); (have X2 := Lib.hid ((X1.out.alloc X1.out.size _).trans (hb.mono (by have := X1.out.size; simp; omega)))); clear hb)
          | (go_at_call 16; refine (Of_yes _ i f2 (by omega) _ (by repeat (first | exact HL.out | exact Lay.keep HL (by assumption) | exact Lay.keep HLW (by assumption) | refine Lay.alloc ?_ _ | refine Lay.drew ?_ | (refine Lay.below HL.out (Below.setCell ?_ ?_ _) <;> first | exact Nat.le_refl _ | exact Hid.out (by assumption) | omega)))).mono ?_; rintro e w3 ⟨rfl, hb⟩; (obtain ⟨hk3, hl3⟩ := bcell hb); (have hz3 := hb.size); (have hz4 : w1.heap.size < w3.heap.size := by omega); (have X3 := Lib.hid (X2.out.trans (hb.mono X2.out.size))); clear hb)
          | (go_at_call 18; refine (Range_any _ _ _ _ _ _ _ (by first | exact kd_255 _ (by assumption) | omega | decide) (by repeat (first | exact HL.out | exact Lay.keep HL (by assumption) | exact Lay.keep HLW (by assumption) | refine Lay.alloc ?_ _ | refine Lay.drew ?_ | (refine Lay.below HL.out (Below.setCell ?_ ?_ _) <;> first | exact Nat.le_refl _ | exact Hid.out (by assumption) | omega)))).mono ?_; rintro e w4 ⟨rfl, hb⟩; (obtain ⟨hk4, hl4⟩ := bcell hb); (have hz5 : w3.heap.size < w4.heap.size := by have := hb.size; simp at this; omega); (have hz6 : w1.heap.size < w4.heap.size := by omega); (have X4 := Lib.hid ((X3.out.alloc X3.out.size _).trans (hb.mono (by have := X3.out.size; simp; omega)))); clear hb))
        go_roundw
        case rel => first | exact ⟨1, by decide, by decide, rfl, X4.out⟩ | exact ⟨2, by decide, by decide, rfl, X4.out⟩
        case measure => decide
    · have e : j = 2 := by omega
      subst e
      clear hj0 hj hlt
      go_wp2_with (go_at_call 20; refine (works4_any _ (by repeat (first | exact HL.out | exact Lay.keep HL (by assumption) | exact Lay.keep HLW (by assumption) | refine Lay.alloc ?_ _ | refine Lay.drew ?_ | (refine Lay.below HL.out (Below.setCell ?_ ?_ _) <;> first | exact Nat.le_refl _ | exact Hid.out (by assumption) | omega)))).mono ?_; rintro e w5 ⟨rfl, hb⟩; (have B2 := Lib.hid (X0.out.trans (hb.mono X0.out.size))); clear hb)
      go_ret
      exact ⟨rfl, B2.out⟩
end Go.Proofs.YtjkdojdkmgaofaaDoor
