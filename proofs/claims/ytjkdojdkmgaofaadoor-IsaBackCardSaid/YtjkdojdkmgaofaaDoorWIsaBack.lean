/- The walk of IsaBack. -/
import Derived.Test.YtjkdojdkmgaofaaDoorL04g
set_option linter.unusedSimpArgs false
set_option linter.unusedVariables false
namespace Go.Proofs.YtjkdojdkmgaofaaDoor
open Go.ChangeShapes Go.WideShapes Go.ChangeAt Go.RowKit
theorem OpAt.set0 {w : World} {g : Nat} {c0 : Int} {n : ByteArray} {b : Bool} {q x y : Int} (h : OpAt w g c0 n b q x y) (d : Int) : OpAt (w.setCell ⟨g, 0, none⟩ (.int .u8 d)) g d n b q x y := by
  obtain ⟨h0, h1, h2, h3, h4, h5⟩ := h
  exact ⟨World.cell?_setCell_same _ _ _ h0, (World.cell?_setCell_other _ _ _ _ (by simp)).trans h1, (World.cell?_setCell_other _ _ _ _ (by simp)).trans h2, (World.cell?_setCell_other _ _ _ _ (by simp)).trans h3, (World.cell?_setCell_other _ _ _ _ (by simp)).trans h4, (World.cell?_setCell_other _ _ _ _ (by simp)).trans h5⟩
set_option maxRecDepth 100000 in
set_option maxHeartbeats 2000000 in
theorem isaBack_core (c k : Int) (o0 : Int) (s : ByteArray) (b : Bool) (q x y : Int) (c0 : 0 ≤ c ∧ c ≤ 255) (k0 : 0 ≤ k ∧ k ≤ 65535) (i : Nat) (hi9 : c % 39 = i) (w : World) (hL : Lay w) :
    Calls Tryd.prog 7 #[.int .u8 c, .int .u16 k, .agg #[.int .u8 o0, .string s, .bool b, .int .u8 q, .int .i64 x, .int .i64 y]] w fun e w' => e = .returned (.bool true) ∧ Below w.heap.size w w' := by
  have HL := Lib.hid hL
  clear hL
  have HI := Lib.hid hi9
  have i39 : i < 39 := by omega
  have hb := bs_hi i i39
  clear hi9
  have tokA : True := trivial
  have O0 := Lib.hid (OpAt.alloc w 28 o0 s b q x y)
  have m0 := Int.emod_nonneg k (show hi (kd i) - lo (kd i) + 1 ≠ 0 by omega)
  have m1 := Int.emod_lt_of_pos k (show 0 < hi (kd i) - lo (kd i) + 1 by omega)
  have nz : hi (kd i) - lo (kd i) + 1 ≠ 0 := by omega
  go_enter Tryd.func7, Tryd.ntmps7
  go_wp2_with (first
    | (go_at_call 16; refine (Of_yes _ i i39 (by have := HI.out; omega) _ (by repeat (first | exact HL.out | exact Lay.keep HL (by assumption) | exact Lay.keep HLW (by assumption) | refine Lay.alloc ?_ _ | refine Lay.drew ?_ | (refine Lay.below HL.out (Below.setCell ?_ ?_ _) <;> first | exact Nat.le_refl _ | exact Hid.out (by assumption) | omega)))).mono ?_; rintro e w1 ⟨rfl, hb⟩; (obtain ⟨hk1, hl1⟩ := bcell hb); (have hz1 : w.heap.size < w1.heap.size := by have := hb.size; simp at this; omega); (have Y1 := Lib.hid hb); (have X1 := Lib.hid (((Below.refl w.heap.size w).alloc (Nat.le_refl _) _).trans (hb.mono (by simp)))); clear hb)
    | (go_at_call 18; refine (Range_any _ _ _ _ _ _ _ (by first | exact kd_255 _ (by assumption) | omega | decide) (by repeat (first | exact HL.out | exact Lay.keep HL (by assumption) | exact Lay.keep HLW (by assumption) | refine Lay.alloc ?_ _ | refine Lay.drew ?_ | (refine Lay.below HL.out (Below.setCell ?_ ?_ _) <;> first | exact Nat.le_refl _ | exact Hid.out (by assumption) | omega)))).mono ?_; rintro e w2 ⟨rfl, hb⟩; (obtain ⟨hk2, hl2⟩ := bcell hb); (have hz2 : w1.heap.size < w2.heap.size := by have := hb.size; simp at this; omega); (have hy2 : w.heap.size < w2.heap.size := by omega); (have Y2 := Lib.hid ((Y1.out.alloc Y1.out.size _).trans (hb.mono (by have := Y1.out.size; simp at this ⊢; omega)))); (have X2 := Lib.hid ((X1.out.alloc X1.out.size _).trans (hb.mono (by have := X1.out.size; simp; omega)))); clear hb))
  obtain ⟨n, hn⟩ : ∃ n, lo (kd i) + k % (hi (kd i) - lo (kd i) + 1) = n := ⟨_, rfl⟩
  have n0 : lo (kd i) ≤ n := by omega
  have n1 : n ≤ hi (kd i) := by omega
  rw [hn]
  clear hn m0 m1
  by_cases d : encOk i n
  · have HE := Lib.hid ((enc_yes d).2.symm)
    have HV := Lib.hid ((enc_yes d).1.symm)
    have HD : Hid (decI (bs i + n) (decide (19 ≤ i)) = i) := dec_one i39 rfl (by rw [show bs i + n - bs i = n by omega]; exact d)
    have bb := bs_bd i i39
    clear d
    go_wp2_with (first
      | (go_at_call 21; have _t := tokA; clear _t tokA; refine (Encode_yes _ _ _ _ _ _ i i39 (by have := HI.out; omega) n (by omega) (by omega) _ (by repeat (first | exact HL.out | exact Lay.keep HL (by assumption) | exact Lay.keep HLW (by assumption) | refine Lay.alloc ?_ _ | refine Lay.drew ?_ | (refine Lay.below HL.out (Below.setCell ?_ ?_ _) <;> first | exact Nat.le_refl _ | exact Hid.out (by assumption) | omega)))).mono ?_; rintro e w3 ⟨rfl, hb⟩; rw [HE.out, HV.out]; (obtain ⟨hk3, hl3⟩ := bcell hb); (have hz3 := hb.size); (have hy3 : w.heap.size < w3.heap.size := by omega); (have hx3 : w1.heap.size < w3.heap.size := by omega); (have hne : w.heap.size ≠ w1.heap.size := by omega); (have Y3 := Lib.hid (Y2.out.trans (hb.mono Y2.out.size))); (have O3 := O0.out.below Y3.out (by simp)); (obtain ⟨oc, od, oe, of, og, oh⟩ := O3.set0 (c % 39 + 1)); (obtain ⟨o6, o7, o8, o9, oa, ob⟩ := O3);  (have X3 := Lib.hid (X2.out.trans (hb.mono X2.out.size))); clear hb)
      | (go_at_call 21; refine (Encode_yes _ _ _ _ _ _ i i39 (by have := HI.out; omega) n (by omega) (by omega) _ (by repeat (first | exact HL.out | exact Lay.keep HL (by assumption) | exact Lay.keep HLW (by assumption) | refine Lay.alloc ?_ _ | refine Lay.drew ?_ | (refine Lay.below HL.out (Below.setCell ?_ ?_ _) <;> first | exact Nat.le_refl _ | exact Hid.out (by assumption) | omega)))).mono ?_; rintro e w4 ⟨rfl, hb⟩; rw [HE.out, HV.out]; (obtain ⟨hk4, hl4⟩ := bcell hb); (have hz4 : w3.heap.size ≤ w4.heap.size := by have := hb.size; simp at this; omega); (have hx4 : w1.heap.size < w4.heap.size := by omega); (have X4 := Lib.hid ((X3.out.setCell (p := ⟨w.heap.size, 0, none⟩) (Nat.le_refl _) (.int .u8 (c % 39 + 1))).trans (hb.mono (by have := X3.out.size; simp; omega)))); clear hb)
      | (go_at_call 23; refine (Decode_yes (bs i + n) (by omega) (by omega) _ i HD.out _ (by repeat (first | exact HL.out | exact Lay.keep HL (by assumption) | exact Lay.keep HLW (by assumption) | refine Lay.alloc ?_ _ | refine Lay.drew ?_ | (refine Lay.below HL.out (Below.setCell ?_ ?_ _) <;> first | exact Nat.le_refl _ | exact Hid.out (by assumption) | omega)))).mono ?_; rintro e w5 ⟨rfl, hb⟩; rw [show bs i + n - bs i = n by omega, show (i : Int) + 1 = c % 39 + 1 by have := HI.out; omega]; (obtain ⟨hk5, hl5⟩ := bcell hb); (have hz5 := hb.size); (have hx5 : w1.heap.size < w5.heap.size := by omega); (have X5 := Lib.hid (X4.out.trans (hb.mono X4.out.size))); clear hb)
      | (go_at_call 20; refine (works4_any _ (by repeat (first | exact HL.out | exact Lay.keep HL (by assumption) | exact Lay.keep HLW (by assumption) | refine Lay.alloc ?_ _ | refine Lay.drew ?_ | (refine Lay.below HL.out (Below.setCell ?_ ?_ _) <;> first | exact Nat.le_refl _ | exact Hid.out (by assumption) | omega)))).mono ?_; rintro e w6 ⟨rfl, hb⟩; (have X6 := Lib.hid ((X5.out.alloc X5.out.size _).trans (hb.mono (by have := X5.out.size; simp; omega)))); clear hb))
    go_ret
    exact ⟨rfl, X6.out⟩
  · have HE := Lib.hid ((enc_no d).2.symm)
    have HV := Lib.hid ((enc_no d).1.symm)
    have r : rsv i n := by
      by_cases r : rsv i n
      · exact r
      · exact absurd ⟨n0, n1, r⟩ d
    clear d
    have t0 := nmT_TC i i39
    have t1 := nmT_INDEX i i39
    rcases r with ⟨r0, rfl | rfl | rfl⟩ | ⟨r0, rfl⟩
    all_goals
      first
        | (have e1 := t0.2 r0; have e2 : ¬ (nm i).toList = [73, 78, 68, 69, 88] := fun c => by have := t1.1 c; omega)
        | (have e2 := t1.2 r0; have e1 : ¬ (nm i).toList = [84, 67] := fun c => by have := t0.1 c; omega)
      clear t0 t1 r0
      go_wp2_with (first
        | (go_at_call 21; have _t := tokA; clear _t tokA; refine (Encode_yes _ _ _ _ _ _ i i39 (by have := HI.out; omega) _ (by omega) (by omega) _ (by repeat (first | exact HL.out | exact Lay.keep HL (by assumption) | exact Lay.keep HLW (by assumption) | refine Lay.alloc ?_ _ | refine Lay.drew ?_ | (refine Lay.below HL.out (Below.setCell ?_ ?_ _) <;> first | exact Nat.le_refl _ | exact Hid.out (by assumption) | omega)))).mono ?_; rintro e w3 ⟨rfl, hb⟩; rw [HE.out, HV.out]; (obtain ⟨hk3, hl3⟩ := bcell hb); (have hz3 := hb.size); (have hy3 : w.heap.size < w3.heap.size := by omega); (have hx3 : w1.heap.size < w3.heap.size := by omega); (have hne : w.heap.size ≠ w1.heap.size := by omega); (have Y3 := Lib.hid (Y2.out.trans (hb.mono Y2.out.size))); (have O3 := O0.out.below Y3.out (by simp)); (obtain ⟨oc, od, oe, of, og, oh⟩ := O3.set0 (c % 39 + 1)); (obtain ⟨o6, o7, o8, o9, oa, ob⟩ := O3);  (have X3 := Lib.hid (X2.out.trans (hb.mono X2.out.size))); clear hb)
        | (go_at_call 21; refine (Encode_yes _ _ _ _ _ _ i i39 (by have := HI.out; omega) _ (by omega) (by omega) _ (by repeat (first | exact HL.out | exact Lay.keep HL (by assumption) | exact Lay.keep HLW (by assumption) | refine Lay.alloc ?_ _ | refine Lay.drew ?_ | (refine Lay.below HL.out (Below.setCell ?_ ?_ _) <;> first | exact Nat.le_refl _ | exact Hid.out (by assumption) | omega)))).mono ?_; rintro e w4 ⟨rfl, hb⟩; rw [HE.out, HV.out]; (obtain ⟨hk4, hl4⟩ := bcell hb); (have hz4 : w3.heap.size ≤ w4.heap.size := by have := hb.size; simp at this; omega); (have hx4 : w1.heap.size < w4.heap.size := by omega); (have X4 := Lib.hid ((X3.out.setCell (p := ⟨w.heap.size, 0, none⟩) (Nat.le_refl _) (.int .u8 (c % 39 + 1))).trans (hb.mono (by have := X3.out.size; simp; omega)))); clear hb)
        | (go_at_call 20; refine (works4_any _ (by repeat (first | exact HL.out | exact Lay.keep HL (by assumption) | exact Lay.keep HLW (by assumption) | refine Lay.alloc ?_ _ | refine Lay.drew ?_ | (refine Lay.below HL.out (Below.setCell ?_ ?_ _) <;> first | exact Nat.le_refl _ | exact Hid.out (by assumption) | omega)))).mono ?_; rintro e w6 ⟨rfl, hb⟩; (have X6 := Lib.hid (X4.out.trans (hb.mono X4.out.size))); clear hb))
      all_goals
        go_ret
        exact ⟨rfl, X6.out⟩
theorem isaBack_walk (c k o0 : Int) (s : ByteArray) (b : Bool) (q x y : Int) (hc : (Lit.int .u8 c).wf = true) (hk : (Lit.int .u16 k).wf = true) (w : World) (hL : Lay w) :
    Calls Tryd.prog 7 #[.int .u8 c, .int .u16 k, .agg #[.int .u8 o0, .string s, .bool b, .int .u8 q, .int .i64 x, .int .i64 y]] w fun e w' => e = .returned (.bool true) ∧ Below w.heap.size w w' := by
  have HL := Lib.hid hL
  clear hL
  have c0 := bounds_u8 hc
  have k0 := bounds_u16 hk
  obtain ⟨i, hi9⟩ := Int.eq_ofNat_of_zero_le (show 0 ≤ c % 39 by omega)
  try simp only [Int.ofNat_eq_natCast] at hi9
  exact isaBack_core c k o0 s b q x y ⟨c0.1, by omega⟩ ⟨k0.1, by omega⟩ i hi9 w HL.out
end Go.Proofs.YtjkdojdkmgaofaaDoor
