/- The walk of CpuProducts. -/
import Derived.Test.YtfndbdcapliclaaGreatDoorW05c
import Derived.Test.YtfndbdcapliclaaGreatDoorP05b
set_option linter.unusedSimpArgs false
set_option linter.unusedVariables false
set_option maxRecDepth 100000
namespace Go.Proofs.YtfndbdcapliclaaGreatDoor
open Go.ChangeShapes Go.WideShapes Go.ChangeAt Go.RowKit
theorem oVal_lim5 (a : Int) : -16383 ≤ oVal a ∧ oVal a ≤ 16383 := by unfold oVal; split <;> omega
theorem mul_rng (a b : Int) : (0 ≤ mulHi a b ∧ mulHi a b < 65536) ∧ (0 ≤ mulLo a b ∧ mulLo a b < 65536) := by
  have hm := mm_bd a b
  unfold mulHi mulLo oNg
  generalize mag a * mag b = m at hm
  split <;> omega
theorem dv_rng (a b d : Int) : (0 ≤ dvQ a b d ∧ dvQ a b d < 65536) ∧ (0 ≤ dvR a b d ∧ dvR a b d < 65536) := by
  have hN : 0 ≤ dvN a b := by unfold dvN; simp only []; split <;> omega
  have hM := mag_bd d
  by_cases h : dvOk a b d
  · have h' : dvN a b < 16384 * mag d := h
    have hM0 : 0 < mag d := by omega
    have r0 := Int.emod_nonneg (dvN a b) (show mag d ≠ 0 by omega)
    have r1 := Int.emod_lt_of_pos (dvN a b) hM0
    have q0 := Int.ediv_nonneg hN hM.1
    have q1 : dvN a b / mag d < 16384 := Int.ediv_lt_of_lt_mul hM0 h'
    unfold dvQ dvR oNg
    simp only [h, if_true]
    constructor <;> split <;> omega
  · unfold dvQ dvR oNg
    simp only [h, if_false]
    constructor
    · split <;> omega
    · omega
theorem mag_max5 (a : Int) : max (oVal a) (-oVal a) = mag a := by unfold mag; split <;> omega
theorem dvOk_max (a b c : Int) : dvOk a b c ↔ max (16384 * oVal a + oVal b) (-(16384 * oVal a + oVal b)) < 16384 * max (oVal c) (-oVal c) := by
  rw [mag_max5]
  unfold dvOk dvN
  simp only []
  split <;> omega
theorem max3 (x y m : Int) (hx : x ≤ 16383) (hy : y ≤ 16383) (hm : m ≤ 16383) : ∃ M : Int, (∀ w : World, (Builtin.max_ #[3, 3, 3] 3 #[.int .i64 x, .int .i64 y, .int .i64 m]).run Tryz.prog w = .ok (.int .i64 M) w) ∧ M ≤ 16383 :=
  ⟨if m > (if y > x then y else x) then m else (if y > x then y else x), fun w => by simp [Builtin.max_, Builtin.max2], by split <;> (try split) <;> omega⟩
theorem min3 (x y m : Int) (hx : -16383 ≤ x) (hy : -16383 ≤ y) (hm : -16383 ≤ m) : ∃ M : Int, (∀ w : World, (Builtin.min_ #[3, 3, 3] 3 #[.int .i64 x, .int .i64 y, .int .i64 m]).run Tryz.prog w = .ok (.int .i64 M) w) ∧ -16383 ≤ M :=
  ⟨if m < (if y < x then y else x) then m else (if y < x then y else x), fun w => by simp [Builtin.min_, Builtin.min2], by split <;> (try split) <;> omega⟩
set_option maxHeartbeats 8000000 in
theorem cpuProducts_walk (a b c : Int) (w_a : (Lit.int .u16 a).wf = true) (w_b : (Lit.int .u16 b).wf = true) (w_c : (Lit.int .u16 c).wf = true) (w : World) (hL : Lay w) :
    Calls Tryz.prog 7 #[.int .u16 a, .int .u16 b, .int .u16 c] w fun e w' => e = .returned (.bool true) ∧ Below w.heap.size w w' := by
  obtain ⟨a0, a1⟩ := bounds_u16 w_a
  obtain ⟨b0, b1⟩ := bounds_u16 w_b
  obtain ⟨c0, c1⟩ := bounds_u16 w_c
  have HL := Lib.hid hL
  clear hL w_a w_b w_c
  have RM := mul_rng a b
  have RD := dv_rng a b c
  have RE := dv_rng (mulHi a b) (mulLo a b) b
  have V1 := Lib.hid (Value_any a a0 (by omega))
  have V2 := Lib.hid (Value_any b b0 (by omega))
  have V3 := Lib.hid (Value_any c c0 (by omega))
  have V4 := Lib.hid (Value_any (mulHi a b) RM.1.1 RM.1.2)
  have V5 := Lib.hid (Value_any (mulLo a b) RM.2.1 RM.2.2)
  have V6 := Lib.hid (Value_any (dvQ a b c) RD.1.1 RD.1.2)
  have V7 := Lib.hid (Value_any (dvR a b c) RD.2.1 RD.2.2)
  have V8 := Lib.hid (Value_any (dvQ (mulHi a b) (mulLo a b) b) RE.1.1 RE.1.2)
  have V9 := Lib.hid (Value_any (dvR (mulHi a b) (mulLo a b) b) RE.2.1 RE.2.2)
  have M1 := Lib.hid (Multiply_any a b _ _ a0 (by omega) b0 (by omega) rfl rfl)
  have D1 := Lib.hid (Divide_any a b c _ _ a0 (by omega) b0 (by omega) c0 (by omega) rfl rfl)
  have D2 := Lib.hid (Divide_any (mulHi a b) (mulLo a b) b _ _ RM.1.1 RM.1.2 RM.2.1 RM.2.2 b0 (by omega) rfl rfl)
  have F1 := mul_val a b
  have F2 := dvOk_max a b c
  have F3 := fun h => div_val a b c h
  have F4 := fun h => div_sat a b c h
  have F5 := fun h h' => div_mul a b h h'
  rw [← mag_max5 c] at F3
  have l1 := oVal_lim5 a
  have l2 := oVal_lim5 b
  have l3 := oVal_lim5 c
  have l4 := oVal_lim5 (mulHi a b)
  have l5 := oVal_lim5 (mulLo a b)
  have l6 := oVal_lim5 (dvQ a b c)
  have l7 := oVal_lim5 (dvR a b c)
  generalize dvQ (mulHi a b) (mulLo a b) b = q2 at *
  generalize dvR (mulHi a b) (mulLo a b) b = r2 at *
  generalize mulHi a b = hi at *
  generalize mulLo a b = lo at *
  generalize dvQ a b c = q at *
  generalize dvR a b c = r at *
  generalize oVal a = x at *
  generalize oVal b = y at *
  generalize oVal c = m at *
  generalize oVal hi = vh at *
  generalize oVal lo = vl at *
  generalize oVal q = vq at *
  generalize oVal r = vr at *
  generalize oVal q2 = vq2 at *
  generalize oVal r2 = vr2 at *
  have hxy : wrap64 (x * y) = 16384 * vh + vl := by rw [← F1]; unfold wrap64; omega
  by_cases hok : dvOk a b c
  · obtain ⟨g1, g2, g3, g4, g5⟩ := F3 hok
    have g6 := F2.1 hok
    clear F2 F3 F4
    obtain ⟨t, ht⟩ : ∃ t, vq * m = t := ⟨_, rfl⟩
    rw [ht] at g1
    have hqm : wrap64 (vq * m) = t := by rw [ht]; unfold wrap64; omega
    clear ht
    by_cases hz : y = 0
    · subst hz
      have hP : 16384 * vh + vl = 0 := by simpa using F1
      clear F1 hxy F5
      obtain ⟨MX, hmx, hmx1⟩ := (max3 x 0 m l1.2 (by omega) l3.2)
      obtain ⟨MN, hmn, hmn1⟩ := (min3 x 0 m l1.1 (by omega) l3.1)
      go_enter Tryz.func7, Tryz.ntmps7
      go_wp2_with (first
        | (go_at_call 28; first | ((with_reducible refine (V1.out _).mono ?_); rintro e w' ⟨rfl, rfl⟩) | ((with_reducible refine (V2.out _).mono ?_); rintro e w' ⟨rfl, rfl⟩) | ((with_reducible refine (V3.out _).mono ?_); rintro e w' ⟨rfl, rfl⟩) | ((with_reducible refine (V4.out _).mono ?_); rintro e w' ⟨rfl, rfl⟩) | ((with_reducible refine (V5.out _).mono ?_); rintro e w' ⟨rfl, rfl⟩) | ((with_reducible refine (V6.out _).mono ?_); rintro e w' ⟨rfl, rfl⟩) | ((with_reducible refine (V7.out _).mono ?_); rintro e w' ⟨rfl, rfl⟩) | ((with_reducible refine (V8.out _).mono ?_); rintro e w' ⟨rfl, rfl⟩) | ((with_reducible refine (V9.out _).mono ?_); rintro e w' ⟨rfl, rfl⟩))
        | (go_at_call 23; refine (M1.out _).mono ?_; rintro e w1 ⟨rfl, k1, rfl⟩)
        | (go_at_call 25; first | ((with_reducible refine (D1.out _).mono ?_); rintro e w2 ⟨rfl, k2, rfl⟩) | ((with_reducible refine (D2.out _).mono ?_); rintro e w3 ⟨rfl, k3, rfl⟩))
        | (go_at_call 19; refine (works5_any _ (by first | exact HL.out | exact HL.out.below (below_drewN (Below.refl w.heap.size w) _) | exact HL.out.below (below_drewN (below_drewN (Below.refl w.heap.size w) _) _) | exact HL.out.below (below_drewN (below_drewN (below_drewN (Below.refl w.heap.size w) _) _) _))).mono ?_; rintro e w5 ⟨rfl, hb5⟩; (have X5 := Lib.hid (show Below w.heap.size w w5 by first | exact from_drewN hb5 | exact from_drewN (from_drewN hb5) | exact from_drewN (from_drewN (from_drewN hb5)))); clear hb5)
        | fail)
      all_goals
        all_goals
          go_ret
          exact ⟨rfl, X5.out⟩
    · by_cases hz2 : x = 0
      · subst hz2
        have hP : 16384 * vh + vl = 0 := by simpa using F1
        clear F1 hxy F5
        have hy : (y == 0) = false := by simp [hz]
        obtain ⟨MX, hmx, hmx1⟩ := (max3 0 y m (by omega) l2.2 l3.2)
        obtain ⟨MN, hmn, hmn1⟩ := (min3 0 y m (by omega) l2.1 l3.1)
        go_enter Tryz.func7, Tryz.ntmps7
        go_wp2_with (first
          | (go_at_call 28; first | ((with_reducible refine (V1.out _).mono ?_); rintro e w' ⟨rfl, rfl⟩) | ((with_reducible refine (V2.out _).mono ?_); rintro e w' ⟨rfl, rfl⟩) | ((with_reducible refine (V3.out _).mono ?_); rintro e w' ⟨rfl, rfl⟩) | ((with_reducible refine (V4.out _).mono ?_); rintro e w' ⟨rfl, rfl⟩) | ((with_reducible refine (V5.out _).mono ?_); rintro e w' ⟨rfl, rfl⟩) | ((with_reducible refine (V6.out _).mono ?_); rintro e w' ⟨rfl, rfl⟩) | ((with_reducible refine (V7.out _).mono ?_); rintro e w' ⟨rfl, rfl⟩) | ((with_reducible refine (V8.out _).mono ?_); rintro e w' ⟨rfl, rfl⟩) | ((with_reducible refine (V9.out _).mono ?_); rintro e w' ⟨rfl, rfl⟩))
          | (go_at_call 23; refine (M1.out _).mono ?_; rintro e w1 ⟨rfl, k1, rfl⟩)
          | (go_at_call 25; first | ((with_reducible refine (D1.out _).mono ?_); rintro e w2 ⟨rfl, k2, rfl⟩) | ((with_reducible refine (D2.out _).mono ?_); rintro e w3 ⟨rfl, k3, rfl⟩))
          | (go_at_call 19; refine (works5_any _ (by first | exact HL.out | exact HL.out.below (below_drewN (Below.refl w.heap.size w) _) | exact HL.out.below (below_drewN (below_drewN (Below.refl w.heap.size w) _) _) | exact HL.out.below (below_drewN (below_drewN (below_drewN (Below.refl w.heap.size w) _) _) _))).mono ?_; rintro e w5 ⟨rfl, hb5⟩; (have X5 := Lib.hid (show Below w.heap.size w w5 by first | exact from_drewN hb5 | exact from_drewN (from_drewN hb5) | exact from_drewN (from_drewN (from_drewN hb5)))); clear hb5)
          | fail)
        all_goals
          go_ret
          exact ⟨rfl, X5.out⟩
      · obtain ⟨rfl, rfl⟩ := F5 hz2 hz
        clear F1 F5
        have hy : (y == 0) = false := by simp [hz]
        have hx : (vq2 == 0) = false := by simp [hz2]
        obtain ⟨MX, hmx, hmx1⟩ := (max3 vq2 y m (by omega) l2.2 l3.2)
        obtain ⟨MN, hmn, hmn1⟩ := (min3 vq2 y m (by omega) l2.1 l3.1)
        go_enter Tryz.func7, Tryz.ntmps7
        go_wp2_with (first
          | (go_at_call 28; first | ((with_reducible refine (V1.out _).mono ?_); rintro e w' ⟨rfl, rfl⟩) | ((with_reducible refine (V2.out _).mono ?_); rintro e w' ⟨rfl, rfl⟩) | ((with_reducible refine (V3.out _).mono ?_); rintro e w' ⟨rfl, rfl⟩) | ((with_reducible refine (V4.out _).mono ?_); rintro e w' ⟨rfl, rfl⟩) | ((with_reducible refine (V5.out _).mono ?_); rintro e w' ⟨rfl, rfl⟩) | ((with_reducible refine (V6.out _).mono ?_); rintro e w' ⟨rfl, rfl⟩) | ((with_reducible refine (V7.out _).mono ?_); rintro e w' ⟨rfl, rfl⟩) | ((with_reducible refine (V8.out _).mono ?_); rintro e w' ⟨rfl, rfl⟩) | ((with_reducible refine (V9.out _).mono ?_); rintro e w' ⟨rfl, rfl⟩))
          | (go_at_call 23; refine (M1.out _).mono ?_; rintro e w1 ⟨rfl, k1, rfl⟩)
          | (go_at_call 25; first | ((with_reducible refine (D1.out _).mono ?_); rintro e w2 ⟨rfl, k2, rfl⟩) | ((with_reducible refine (D2.out _).mono ?_); rintro e w3 ⟨rfl, k3, rfl⟩))
          | (go_at_call 19; refine (works5_any _ (by first | exact HL.out | exact HL.out.below (below_drewN (Below.refl w.heap.size w) _) | exact HL.out.below (below_drewN (below_drewN (Below.refl w.heap.size w) _) _) | exact HL.out.below (below_drewN (below_drewN (below_drewN (Below.refl w.heap.size w) _) _) _))).mono ?_; rintro e w5 ⟨rfl, hb5⟩; (have X5 := Lib.hid (show Below w.heap.size w w5 by first | exact from_drewN hb5 | exact from_drewN (from_drewN hb5) | exact from_drewN (from_drewN (from_drewN hb5)))); clear hb5)
          | fail)
        all_goals
          go_ret
          exact ⟨rfl, X5.out⟩
  · obtain ⟨rr, hv⟩ := F4 hok
    have g6 : ¬ (max (16384 * x + y) (-(16384 * x + y)) < 16384 * max m (-m)) := fun h => hok (F2.2 h)
    clear F2 F3 F4
    subst rr
    have HV := Lib.hid hv
    clear hv
    by_cases hz : y = 0
    · subst hz
      have hP : 16384 * vh + vl = 0 := by simpa using F1
      clear F1 hxy F5
      rcases HV.out with rfl | rfl
      all_goals
        clear HV
        obtain ⟨MX, hmx, hmx1⟩ := (max3 x 0 m l1.2 (by omega) l3.2)
        obtain ⟨MN, hmn, hmn1⟩ := (min3 x 0 m l1.1 (by omega) l3.1)
        go_enter Tryz.func7, Tryz.ntmps7
        go_wp2_with (first
          | (go_at_call 28; first | ((with_reducible refine (V1.out _).mono ?_); rintro e w' ⟨rfl, rfl⟩) | ((with_reducible refine (V2.out _).mono ?_); rintro e w' ⟨rfl, rfl⟩) | ((with_reducible refine (V3.out _).mono ?_); rintro e w' ⟨rfl, rfl⟩) | ((with_reducible refine (V4.out _).mono ?_); rintro e w' ⟨rfl, rfl⟩) | ((with_reducible refine (V5.out _).mono ?_); rintro e w' ⟨rfl, rfl⟩) | ((with_reducible refine (V6.out _).mono ?_); rintro e w' ⟨rfl, rfl⟩) | ((with_reducible refine (V7.out _).mono ?_); rintro e w' ⟨rfl, rfl⟩) | ((with_reducible refine (V8.out _).mono ?_); rintro e w' ⟨rfl, rfl⟩) | ((with_reducible refine (V9.out _).mono ?_); rintro e w' ⟨rfl, rfl⟩))
          | (go_at_call 23; refine (M1.out _).mono ?_; rintro e w1 ⟨rfl, k1, rfl⟩)
          | (go_at_call 25; first | ((with_reducible refine (D1.out _).mono ?_); rintro e w2 ⟨rfl, k2, rfl⟩) | ((with_reducible refine (D2.out _).mono ?_); rintro e w3 ⟨rfl, k3, rfl⟩))
          | (go_at_call 19; refine (works5_any _ (by first | exact HL.out | exact HL.out.below (below_drewN (Below.refl w.heap.size w) _) | exact HL.out.below (below_drewN (below_drewN (Below.refl w.heap.size w) _) _) | exact HL.out.below (below_drewN (below_drewN (below_drewN (Below.refl w.heap.size w) _) _) _))).mono ?_; rintro e w5 ⟨rfl, hb5⟩; (have X5 := Lib.hid (show Below w.heap.size w w5 by first | exact from_drewN hb5 | exact from_drewN (from_drewN hb5) | exact from_drewN (from_drewN (from_drewN hb5)))); clear hb5)
          | fail)
        all_goals
          all_goals
            go_ret
            exact ⟨rfl, X5.out⟩
    · by_cases hz2 : x = 0
      · subst hz2
        have hP : 16384 * vh + vl = 0 := by simpa using F1
        clear F1 hxy F5
        have hy : (y == 0) = false := by simp [hz]
        rcases HV.out with rfl | rfl
        all_goals
          clear HV
          obtain ⟨MX, hmx, hmx1⟩ := (max3 0 y m (by omega) l2.2 l3.2)
          obtain ⟨MN, hmn, hmn1⟩ := (min3 0 y m (by omega) l2.1 l3.1)
          go_enter Tryz.func7, Tryz.ntmps7
          go_wp2_with (first
            | (go_at_call 28; first | ((with_reducible refine (V1.out _).mono ?_); rintro e w' ⟨rfl, rfl⟩) | ((with_reducible refine (V2.out _).mono ?_); rintro e w' ⟨rfl, rfl⟩) | ((with_reducible refine (V3.out _).mono ?_); rintro e w' ⟨rfl, rfl⟩) | ((with_reducible refine (V4.out _).mono ?_); rintro e w' ⟨rfl, rfl⟩) | ((with_reducible refine (V5.out _).mono ?_); rintro e w' ⟨rfl, rfl⟩) | ((with_reducible refine (V6.out _).mono ?_); rintro e w' ⟨rfl, rfl⟩) | ((with_reducible refine (V7.out _).mono ?_); rintro e w' ⟨rfl, rfl⟩) | ((with_reducible refine (V8.out _).mono ?_); rintro e w' ⟨rfl, rfl⟩) | ((with_reducible refine (V9.out _).mono ?_); rintro e w' ⟨rfl, rfl⟩))
            | (go_at_call 23; refine (M1.out _).mono ?_; rintro e w1 ⟨rfl, k1, rfl⟩)
            | (go_at_call 25; first | ((with_reducible refine (D1.out _).mono ?_); rintro e w2 ⟨rfl, k2, rfl⟩) | ((with_reducible refine (D2.out _).mono ?_); rintro e w3 ⟨rfl, k3, rfl⟩))
            | (go_at_call 19; refine (works5_any _ (by first | exact HL.out | exact HL.out.below (below_drewN (Below.refl w.heap.size w) _) | exact HL.out.below (below_drewN (below_drewN (Below.refl w.heap.size w) _) _) | exact HL.out.below (below_drewN (below_drewN (below_drewN (Below.refl w.heap.size w) _) _) _))).mono ?_; rintro e w5 ⟨rfl, hb5⟩; (have X5 := Lib.hid (show Below w.heap.size w w5 by first | exact from_drewN hb5 | exact from_drewN (from_drewN hb5) | exact from_drewN (from_drewN (from_drewN hb5)))); clear hb5)
            | fail)
          all_goals
            go_ret
            exact ⟨rfl, X5.out⟩
      · obtain ⟨rfl, rfl⟩ := F5 hz2 hz
        clear F1 F5
        have hy : (y == 0) = false := by simp [hz]
        have hx : (vq2 == 0) = false := by simp [hz2]
        rcases HV.out with rfl | rfl
        all_goals
          clear HV
          obtain ⟨MX, hmx, hmx1⟩ := (max3 vq2 y m (by omega) l2.2 l3.2)
          obtain ⟨MN, hmn, hmn1⟩ := (min3 vq2 y m (by omega) l2.1 l3.1)
          go_enter Tryz.func7, Tryz.ntmps7
          go_wp2_with (first
            | (go_at_call 28; first | ((with_reducible refine (V1.out _).mono ?_); rintro e w' ⟨rfl, rfl⟩) | ((with_reducible refine (V2.out _).mono ?_); rintro e w' ⟨rfl, rfl⟩) | ((with_reducible refine (V3.out _).mono ?_); rintro e w' ⟨rfl, rfl⟩) | ((with_reducible refine (V4.out _).mono ?_); rintro e w' ⟨rfl, rfl⟩) | ((with_reducible refine (V5.out _).mono ?_); rintro e w' ⟨rfl, rfl⟩) | ((with_reducible refine (V6.out _).mono ?_); rintro e w' ⟨rfl, rfl⟩) | ((with_reducible refine (V7.out _).mono ?_); rintro e w' ⟨rfl, rfl⟩) | ((with_reducible refine (V8.out _).mono ?_); rintro e w' ⟨rfl, rfl⟩) | ((with_reducible refine (V9.out _).mono ?_); rintro e w' ⟨rfl, rfl⟩))
            | (go_at_call 23; refine (M1.out _).mono ?_; rintro e w1 ⟨rfl, k1, rfl⟩)
            | (go_at_call 25; first | ((with_reducible refine (D1.out _).mono ?_); rintro e w2 ⟨rfl, k2, rfl⟩) | ((with_reducible refine (D2.out _).mono ?_); rintro e w3 ⟨rfl, k3, rfl⟩))
            | (go_at_call 19; refine (works5_any _ (by first | exact HL.out | exact HL.out.below (below_drewN (Below.refl w.heap.size w) _) | exact HL.out.below (below_drewN (below_drewN (Below.refl w.heap.size w) _) _) | exact HL.out.below (below_drewN (below_drewN (below_drewN (Below.refl w.heap.size w) _) _) _))).mono ?_; rintro e w5 ⟨rfl, hb5⟩; (have X5 := Lib.hid (show Below w.heap.size w w5 by first | exact from_drewN hb5 | exact from_drewN (from_drewN hb5) | exact from_drewN (from_drewN (from_drewN hb5)))); clear hb5)
            | fail)
          all_goals
            go_ret
            exact ⟨rfl, X5.out⟩
end Go.Proofs.YtfndbdcapliclaaGreatDoor
