/- The walk of IsaDiffers. -/
import Derived.Test.YtjkdojdkmgaofaaDoorL04g
import Derived.Deep.QuietTactic
set_option linter.unusedSimpArgs false
set_option linter.unusedVariables false
namespace Go.Proofs.YtjkdojdkmgaofaaDoor
open Go.ChangeShapes Go.WideShapes Go.ChangeAt Go.RowKit
/-- Different instructions or operands of one table have different words. -/
theorem enc_inj {i j : Nat} {k n : Int} (hi39 : i < 39) (hj39 : j < 39) (hx : decide (19 ≤ i) = decide (19 ≤ j)) (h1 : encOk i k) (h2 : encOk j n) (he : encW i k = encW j n) : i = j ∧ k = n := by
  have e1 := (enc_yes h1).1
  have e2 := (enc_yes h2).1
  have a1 : decI (bs i + k) (decide (19 ≤ i)) = i := dec_one hi39 rfl (by rw [show bs i + k - bs i = k by omega]; exact h1)
  have a2 : decI (bs j + n) (decide (19 ≤ j)) = j := dec_one hj39 rfl (by rw [show bs j + n - bs j = n by omega]; exact h2)
  have e3 : bs i + k = bs j + n := by omega
  rw [e3, hx, a2] at a1
  subst a1
  exact ⟨rfl, by omega⟩
set_option maxRecDepth 100000 in
set_option maxHeartbeats 3000000 in
theorem isaDiffers_core (a b p q : Int) (a0 : 0 ≤ a ∧ a ≤ 65535) (b0 : 0 ≤ b ∧ b ≤ 65535) (p0 : 0 ≤ p ∧ p ≤ 65535) (q0 : 0 ≤ q ∧ q ≤ 65535) (i j : Nat) (hi : a % 39 = i) (hj : b % 39 = j) (w : World) (hL : Lay w)
    (g h : Int) (v u : Int) (hg : encE i (p % 4096) = g) (hh : encE j (q % 4096) = h) (hv : encW i (p % 4096) = v) (hu : encW j (q % 4096) = u) (ei ej : Bool) (xi : decide (19 ≤ i) = ei) (xj : decide (19 ≤ j) = ej)
    (H : g ≠ 0 ∨ (g = 0 ∧ h ≠ 0) ∨ (g = 0 ∧ h = 0 ∧ ei ≠ ej) ∨ (g = 0 ∧ h = 0 ∧ ei = ej ∧ a % 39 + 1 = b % 39 + 1 ∧ p % 4096 = q % 4096 ∧ v = u) ∨ (g = 0 ∧ h = 0 ∧ ei = ej ∧ a % 39 + 1 = b % 39 + 1 ∧ p % 4096 ≠ q % 4096 ∧ v ≠ u) ∨ (g = 0 ∧ h = 0 ∧ ei = ej ∧ a % 39 + 1 ≠ b % 39 + 1 ∧ v ≠ u)) :
    Calls Tryd.prog 8 #[.agg #[.int .u16 a, .int .u16 b], .agg #[.int .u16 p, .int .u16 q]] w fun e w' => e = .returned (.bool true) ∧ Below w.heap.size w w' := by
  have HL := Lib.hid hL
  clear hL
  have HI := Lib.hid hi
  have HJ := Lib.hid hj
  have XI := Lib.hid xi
  have XJ := Lib.hid xj
  have HG := Lib.hid hg
  have HH := Lib.hid hh
  have HV := Lib.hid hv
  have HU := Lib.hid hu
  have i39 : i < 39 := by omega
  have j39 : j < 39 := by omega
  clear hi hj xi xj hg hh hv hu
  have tokA : True := trivial
  have tokB : True := trivial
  have F : (g != 0) = true ∨ (g = 0 ∧ (h != 0) = true) ∨ (g = 0 ∧ h = 0 ∧ (ei != ej) = true) ∨ (g = 0 ∧ h = 0 ∧ ei = ej ∧ (a % 39 + 1 == b % 39 + 1) = true ∧ (p % 4096 == q % 4096) = true ∧ (v == u) = true) ∨ (g = 0 ∧ h = 0 ∧ ei = ej ∧ (a % 39 + 1 == b % 39 + 1) = true ∧ (p % 4096 == q % 4096) = false ∧ (v == u) = false) ∨ (g = 0 ∧ h = 0 ∧ ei = ej ∧ (a % 39 + 1 == b % 39 + 1) = false ∧ (v == u) = false) := by
    rcases H with h1 | ⟨h1, h2⟩ | ⟨h1, h2, h3⟩ | ⟨h1, h2, h3, h4, h5, h6⟩ | ⟨h1, h2, h3, h4, h5, h6⟩ | ⟨h1, h2, h3, h4, h5⟩
    · exact .inl (by rw [bne_iff_ne]; exact h1)
    · exact .inr (.inl ⟨h1, by rw [bne_iff_ne]; exact h2⟩)
    · exact .inr (.inr (.inl ⟨h1, h2, by rw [bne_iff_ne]; exact h3⟩))
    · exact .inr (.inr (.inr (.inl ⟨h1, h2, h3, by rw [beq_iff_eq]; exact h4, by rw [beq_iff_eq]; exact h5, by rw [beq_iff_eq]; exact h6⟩)))
    · exact .inr (.inr (.inr (.inr (.inl ⟨h1, h2, h3, by rw [beq_iff_eq]; exact h4, by rw [beq_eq_false_iff_ne]; exact h5, by rw [beq_eq_false_iff_ne]; exact h6⟩))))
    · exact .inr (.inr (.inr (.inr (.inr ⟨h1, h2, h3, by rw [beq_eq_false_iff_ne]; exact h4, by rw [beq_eq_false_iff_ne]; exact h5⟩))))
  clear H
  have HF := Lib.hid F
  clear F
  go_enter Tryd.func8, Tryd.ntmps8
  go_wp2_with (first
    | (go_at_call 16; have _t := tokA; clear _t tokA; refine (Of_yes _ i i39 (by have := HI.out; omega) _ (by repeat (first | exact HL.out | exact Lay.keep HL (by assumption) | exact Lay.keep HLW (by assumption) | refine Lay.alloc ?_ _ | refine Lay.drew ?_ | exact Lay.below HL.out (below_drewN (Hid.out (by assumption)) _) | (refine Lay.below HL.out (Below.setCell ?_ ?_ _) <;> first | exact Nat.le_refl _ | exact Hid.out (by assumption) | omega)))).mono ?_; rintro e w1 ⟨rfl, hb⟩; rw [XI.out]; (obtain ⟨hk1, hl1⟩ := bcell hb); (have hz1 : w.heap.size + 1 < w1.heap.size := by have := hb.size; simp at this; omega); (have hy1 : w.heap.size < w1.heap.size := by omega); (have X1 := Lib.hid ((((Below.refl w.heap.size w).alloc (Nat.le_refl _) _).alloc (by simp) _).trans (hb.mono (by simp; omega)))); clear hb)
    | (go_at_call 16; refine (Of_yes _ j j39 (by have := HJ.out; omega) _ (by repeat (first | exact HL.out | exact Lay.keep HL (by assumption) | exact Lay.keep HLW (by assumption) | refine Lay.alloc ?_ _ | refine Lay.drew ?_ | exact Lay.below HL.out (below_drewN (Hid.out (by assumption)) _) | (refine Lay.below HL.out (Below.setCell ?_ ?_ _) <;> first | exact Nat.le_refl _ | exact Hid.out (by assumption) | omega)))).mono ?_; rintro e w2 ⟨rfl, hb⟩; rw [XJ.out]; (obtain ⟨hk2, hl2⟩ := bcell hb); (have hz2 : w1.heap.size < w2.heap.size := by have := hb.size; simp at this; omega); (have hy2 : w.heap.size < w2.heap.size := by omega); (have hx2 : w.heap.size + 1 < w2.heap.size := by omega); (have X2 := Lib.hid ((X1.out.alloc X1.out.size _).trans (hb.mono (by have := X1.out.size; simp; omega)))); clear hb))
  go_quiet (fail)
  have X2' := Lib.hid (X2.out.alloc X2.out.size (.cells #[.int .u8 (b % 39 + 1), .string (nm j), .bool ej, .int .u8 (kd j), .int .i64 (bt (kd j)), .int .i64 (cy j)] 28))
  rcases HF.out with f1 | ⟨f1, f2⟩ | ⟨f1, f2, f3⟩ | ⟨f1, f2, f3, f4, f5, f6⟩ | ⟨f1, f2, f3, f4, f5, f6⟩ | ⟨f1, f2, f3, f4, f5⟩
  all_goals
    go_wp2_with (first
      | (go_at_call 21; have _t := tokB; clear _t tokB; refine (Encode_yes _ _ _ _ _ _ i i39 (by have := HI.out; omega) (p % 4096) (by omega) (by omega) _ (by repeat (first | exact HL.out | exact Lay.keep HL (by assumption) | exact Lay.keep HLW (by assumption) | refine Lay.alloc ?_ _ | refine Lay.drew ?_ | exact Lay.below HL.out (below_drewN (Hid.out (by assumption)) _) | (refine Lay.below HL.out (Below.setCell ?_ ?_ _) <;> first | exact Nat.le_refl _ | exact Hid.out (by assumption) | omega)))).mono ?_; rintro e w3 ⟨rfl, hb⟩; rw [HG.out, HV.out]; (replace hb := from_drewN hb); (obtain ⟨hk3, hl3⟩ := bcell hb); (have hz3 : w2.heap.size < w3.heap.size := by have := hb.size; simp at this; omega); (have hy3 : w1.heap.size < w3.heap.size := by omega); (have X3 := Lib.hid (X2'.out.trans (hb.mono X2'.out.size))); clear hb)
      | (go_at_call 21; refine (Encode_yes _ _ _ _ _ _ j j39 (by have := HJ.out; omega) (q % 4096) (by omega) (by omega) _ (by repeat (first | exact HL.out | exact Lay.keep HL (by assumption) | exact Lay.keep HLW (by assumption) | refine Lay.alloc ?_ _ | refine Lay.drew ?_ | exact Lay.below HL.out (below_drewN (Hid.out (by assumption)) _) | (refine Lay.below HL.out (Below.setCell ?_ ?_ _) <;> first | exact Nat.le_refl _ | exact Hid.out (by assumption) | omega)))).mono ?_; rintro e w4 ⟨rfl, hb⟩; rw [HH.out, HU.out]; (obtain ⟨hk4, hl4⟩ := bcell hb); (have hz4 := hb.size); (have hy4 : w1.heap.size < w4.heap.size := by omega); (have hx4 : w2.heap.size < w4.heap.size := by omega); (have X4 := Lib.hid (X3.out.trans (hb.mono X3.out.size))); clear hb)
      | (go_at_call 20; refine (works4_any _ (by repeat (first | exact HL.out | exact Lay.keep HL (by assumption) | exact Lay.keep HLW (by assumption) | refine Lay.alloc ?_ _ | refine Lay.drew ?_ | exact Lay.below HL.out (below_drewN (Hid.out (by assumption)) _) | (refine Lay.below HL.out (Below.setCell ?_ ?_ _) <;> first | exact Nat.le_refl _ | exact Hid.out (by assumption) | omega)))).mono ?_; rintro e w5 ⟨rfl, hb⟩; (have X5 := Lib.hid (X4.out.trans (hb.mono X4.out.size))); clear hb))
    all_goals
      first
        | (go_ret; exact ⟨rfl, X5.out⟩)
        | (exfalso; simp only [beq_iff_eq, beq_eq_false_iff_ne, bne_iff_ne, ne_eq] at *; omega)
        | (exfalso; simp_all; done)
theorem isaDiffers_walk (a b p q : Int) (ha : (Lit.int .u16 a).wf = true) (hb : (Lit.int .u16 b).wf = true) (hp : (Lit.int .u16 p).wf = true) (hq : (Lit.int .u16 q).wf = true) (w : World) (hL : Lay w) :
    Calls Tryd.prog 8 #[.agg #[.int .u16 a, .int .u16 b], .agg #[.int .u16 p, .int .u16 q]] w fun e w' => e = .returned (.bool true) ∧ Below w.heap.size w w' := by
  have HL := Lib.hid hL
  clear hL
  have a0 := bounds_u16 ha
  have b0 := bounds_u16 hb
  have p0 := bounds_u16 hp
  have q0 := bounds_u16 hq
  obtain ⟨i, hi⟩ := Int.eq_ofNat_of_zero_le (show 0 ≤ a % 39 by omega)
  obtain ⟨j, hj⟩ := Int.eq_ofNat_of_zero_le (show 0 ≤ b % 39 by omega)
  try simp only [Int.ofNat_eq_natCast] at hi hj
  refine isaDiffers_core a b p q ⟨a0.1, by omega⟩ ⟨b0.1, by omega⟩ ⟨p0.1, by omega⟩ ⟨q0.1, by omega⟩ i j hi hj w HL.out _ _ _ _ rfl rfl rfl rfl _ _ rfl rfl ?_
  by_cases d1 : encOk i (p % 4096)
  · by_cases d2 : encOk j (q % 4096)
    · have g1 : encE i (p % 4096) = 0 := (enc_yes d1).2.symm
      have g2 : encE j (q % 4096) = 0 := (enc_yes d2).2.symm
      by_cases x : decide (19 ≤ i) = decide (19 ≤ j)
      · by_cases c1 : a % 39 + 1 = b % 39 + 1
        · have hij : i = j := by omega
          by_cases c2 : p % 4096 = q % 4096
          · exact .inr (.inr (.inr (.inl ⟨g1, g2, x, c1, c2, by rw [hij, c2]⟩)))
          · exact .inr (.inr (.inr (.inr (.inl ⟨g1, g2, x, c1, c2, fun e => c2 (enc_inj (by omega) (by omega) x d1 d2 e).2⟩))))
        · exact .inr (.inr (.inr (.inr (.inr ⟨g1, g2, x, c1, fun e => c1 (by have := (enc_inj (by omega) (by omega) x d1 d2 e).1; omega)⟩))))
      · exact .inr (.inr (.inl ⟨g1, g2, x⟩))
    · exact .inr (.inl ⟨(enc_yes d1).2.symm, by rw [← (enc_no d2).2]; omega⟩)
  · exact .inl (by rw [← (enc_no d1).2]; omega)
end Go.Proofs.YtjkdojdkmgaofaaDoor
