/- Contracts of layer 7's reference: Enter. -/
import Derived.Test.YtmmpifcfhjdfnaaL07b
set_option linter.unusedSimpArgs false
set_option linter.unusedVariables false
set_option maxRecDepth 100000
namespace Go.Proofs.Ytmmpifcfhjdfnaa
open Go.ChangeShapes Go.WideShapes Go.ChangeAt Go.RowKit
set_option maxHeartbeats 1000000 in
theorem rEnter_arg (r : Rg) (hm : ¬ r.may) (p nx : Int) (w : World) :
    Calls Try.prog 8 #[.agg #[.int .u16 r.A, .int .u16 r.L, .int .u16 r.Q, .int .i64 r.Z, .int .i64 r.EB, .int .i64 r.FB, .int .i64 r.Su, .bool r.Ex, .int .u16 r.Ix, .bool r.Hd, .int .u16 r.B, .bool r.Ih, .bool r.Sv], .agg #[.int .u16 p], .int .u16 nx] w (EnterErr 2 w) := by
  have K := Lib.hid (ent4_facts w r p)
  have hM := Lib.hid (fun w => rMay_any r false (decide_eq_false hm) w)
  clear hm
  go_enter Try.func8, Try.ntmps8
  go_upto_region 1 with (fail)
  change Code.wp _ _ _ _ (ent4 w r p)
  obtain ⟨k1, k2, k3, k4, k5, k6⟩ := K.out
  generalize ent4 w r p = W at k1 k2 k3 k4 k5 k6 ⊢
  have c0 := k1.cell 0 _ rfl; have c1 := k1.cell 1 _ rfl; have c2 := k1.cell 2 _ rfl; have c3 := k1.cell 3 _ rfl; have c4 := k1.cell 4 _ rfl; have c5 := k1.cell 5 _ rfl; have c6 := k1.cell 6 _ rfl; have c7 := k1.cell 7 _ rfl; have c8 := k1.cell 8 _ rfl; have c9 := k1.cell 9 _ rfl; have c10 := k1.cell 10 _ rfl; have c11 := k1.cell 11 _ rfl; have c12 := k1.cell 12 _ rfl
  clear K
  go_wp2_with (go_at_call 21; refine (hM.out _).mono ?_; rintro e w1 ⟨rfl, hb⟩; (have Q2 := k3.below hb (by omega)); (have Q3 := k4.below hb (by omega)); (have X1 := Lib.hid (k6.trans (hb.mono k6.size))); (have hz1 : w.heap.size + 4 ≤ w1.heap.size := by have := hb.size; omega); clear hb; have m0 := Q2.cell 0 _ rfl; have m1 := Q2.cell 1 _ rfl; have m2 := Q2.cell 2 _ rfl; have m3 := Q2.cell 3 _ rfl; have m4 := Q2.cell 4 _ rfl; have m5 := Q2.cell 5 _ rfl; have m6 := Q2.cell 6 _ rfl; have m7 := Q2.cell 7 _ rfl; have m8 := Q2.cell 8 _ rfl; have m9 := Q2.cell 9 _ rfl; have m10 := Q2.cell 10 _ rfl; have m11 := Q2.cell 11 _ rfl; have m12 := Q2.cell 12 _ rfl; have o0 := Q2.free 0 _ rfl; have o1 := Q2.free 1 _ rfl; have o2 := Q2.free 2 _ rfl; have o3 := Q2.free 3 _ rfl; have o4 := Q2.free 4 _ rfl; have o5 := Q2.free 5 _ rfl; have o6 := Q2.free 6 _ rfl; have o7 := Q2.free 7 _ rfl; have o8 := Q2.free 8 _ rfl; have o9 := Q2.free 9 _ rfl; have o10 := Q2.free 10 _ rfl; have o11 := Q2.free 11 _ rfl; have o12 := Q2.free 12 _ rfl; (have p0 := Q3.cell 0 _ rfl); (have q0 := Q3.free 0 _ rfl))
  clear m0 m1 m2 m3 m4 m5 m6 m7 m8 m9 m10 m11 m12 o0 o1 o2 o3 o4 o5 o6 o7 o8 o9 o10 o11 o12 c0 c1 c2 c3 c4 c5 c6 c7 c8 c9 c10 c11 c12 p0 q0
  change bodyPost _ _ _ _ _ ((w1.setCells (w.heap.size + 1 + 1) 0 (rgList rg0)).setCells (w.heap.size + 1 + 1 + 1) 0 [.int .u16 0])
  have Z2 := ((Q2.overS (rgList rg0) rfl).othersS (show w.heap.size + 1 + 1 + 1 ≠ w.heap.size + 1 + 1 by omega) [.int .u16 0] 0)
  have Z3 := ((Q3.othersS (show w.heap.size + 1 + 1 ≠ w.heap.size + 1 + 1 + 1 by omega) (rgList rg0) 0).overS [.int .u16 0] rfl)
  have ZX := below_setCells (w.heap.size + 1 + 1 + 1) (by omega) [.int .u16 0] 0 _ (below_setCells (w.heap.size + 1 + 1) (by omega) (rgList rg0) 0 _ X1.out)
  exact ret_enter Try.results8 Try.underlying26 Try.underlying28 (rgList rg0) [.int .u16 0] (by kernel_rfl) (by kernel_rfl) (w.heap.size + 1 + 1) (w.heap.size + 1 + 1 + 1) (.slice none 0 0) (.int .i64 0) (.int .i64 2) ⟨rfl, ZX⟩ Z2 Z3 rfl rfl rfl rfl rfl rfl
set_option maxHeartbeats 1000000 in
theorem rEnter_state (r : Rg) (hf : r.Fit) (hm : r.may) (p nx : Int) (hp0 : 0 ≤ p) (hp1 : p < 65536) (h0 : chz p r = 0) (w : World) :
    Calls Try.prog 8 #[.agg #[.int .u16 r.A, .int .u16 r.L, .int .u16 r.Q, .int .i64 r.Z, .int .i64 r.EB, .int .i64 r.FB, .int .i64 r.Su, .bool r.Ex, .int .u16 r.Ix, .bool r.Hd, .int .u16 r.B, .bool r.Ih, .bool r.Sv], .agg #[.int .u16 p], .int .u16 nx] w (EnterErr 14 w) := by
  have K := Lib.hid (ent4_facts w r p)
  have hM := Lib.hid (fun w => rMay_any r true (decide_eq_true hm) w)
  have hC := Lib.hid (fun w => rChoose_any p hp0 hp1 r hf hm 0 h0 false rfl w)
  clear hm
  go_enter Try.func8, Try.ntmps8
  go_upto_region 1 with (fail)
  change Code.wp _ _ _ _ (ent4 w r p)
  obtain ⟨k1, k2, k3, k4, k5, k6⟩ := K.out
  generalize ent4 w r p = W at k1 k2 k3 k4 k5 k6 ⊢
  have c0 := k1.cell 0 _ rfl; have c1 := k1.cell 1 _ rfl; have c2 := k1.cell 2 _ rfl; have c3 := k1.cell 3 _ rfl; have c4 := k1.cell 4 _ rfl; have c5 := k1.cell 5 _ rfl; have c6 := k1.cell 6 _ rfl; have c7 := k1.cell 7 _ rfl; have c8 := k1.cell 8 _ rfl; have c9 := k1.cell 9 _ rfl; have c10 := k1.cell 10 _ rfl; have c11 := k1.cell 11 _ rfl; have c12 := k1.cell 12 _ rfl
  clear K
  have p0 := k2.cell 0 _ rfl
  go_wp2_with (fail)
  refine (hM.out _).mono ?_
  rintro e w1 ⟨rfl, hb⟩
  have J1 := k1.below hb (by omega)
  have J2 := k2.below hb (by omega)
  have J3 := k3.below hb (by omega)
  have J4 := k4.below hb (by omega)
  have X1 := Lib.hid (k6.trans (hb.mono k6.size))
  have hz1 : w.heap.size + 4 ≤ w1.heap.size := by have := hb.size; omega
  clear hb c0 c1 c2 c3 c4 c5 c6 c7 c8 c9 c10 c11 c12 p0
  have c0 := J1.cell 0 _ rfl; have c1 := J1.cell 1 _ rfl; have c2 := J1.cell 2 _ rfl; have c3 := J1.cell 3 _ rfl; have c4 := J1.cell 4 _ rfl; have c5 := J1.cell 5 _ rfl; have c6 := J1.cell 6 _ rfl; have c7 := J1.cell 7 _ rfl; have c8 := J1.cell 8 _ rfl; have c9 := J1.cell 9 _ rfl; have c10 := J1.cell 10 _ rfl; have c11 := J1.cell 11 _ rfl; have c12 := J1.cell 12 _ rfl
  have p0 := J2.cell 0 _ rfl
  go_wp2_with (go_at_call 22; refine (hC.out _).mono ?_; rintro e w2 ⟨rfl, hb⟩; (have Q2 := J3.below hb (by omega)); (have Q3 := J4.below hb (by omega)); (have X2 := Lib.hid (X1.out.trans (hb.mono X1.out.size))); (have hz2 : w.heap.size + 4 ≤ w2.heap.size := by have := hb.size; omega); clear hb; have m0 := Q2.cell 0 _ rfl; have m1 := Q2.cell 1 _ rfl; have m2 := Q2.cell 2 _ rfl; have m3 := Q2.cell 3 _ rfl; have m4 := Q2.cell 4 _ rfl; have m5 := Q2.cell 5 _ rfl; have m6 := Q2.cell 6 _ rfl; have m7 := Q2.cell 7 _ rfl; have m8 := Q2.cell 8 _ rfl; have m9 := Q2.cell 9 _ rfl; have m10 := Q2.cell 10 _ rfl; have m11 := Q2.cell 11 _ rfl; have m12 := Q2.cell 12 _ rfl; have o0 := Q2.free 0 _ rfl; have o1 := Q2.free 1 _ rfl; have o2 := Q2.free 2 _ rfl; have o3 := Q2.free 3 _ rfl; have o4 := Q2.free 4 _ rfl; have o5 := Q2.free 5 _ rfl; have o6 := Q2.free 6 _ rfl; have o7 := Q2.free 7 _ rfl; have o8 := Q2.free 8 _ rfl; have o9 := Q2.free 9 _ rfl; have o10 := Q2.free 10 _ rfl; have o11 := Q2.free 11 _ rfl; have o12 := Q2.free 12 _ rfl; (have p1 := Q3.cell 0 _ rfl); (have q0 := Q3.free 0 _ rfl))
  clear m0 m1 m2 m3 m4 m5 m6 m7 m8 m9 m10 m11 m12 o0 o1 o2 o3 o4 o5 o6 o7 o8 o9 o10 o11 o12 c0 c1 c2 c3 c4 c5 c6 c7 c8 c9 c10 c11 c12 p0 q0 p1
  change bodyPost _ _ _ _ _ ((w2.setCells (w.heap.size + 1 + 1) 0 (rgList rg0)).setCells (w.heap.size + 1 + 1 + 1) 0 [.int .u16 0])
  have Z2 := ((Q2.overS (rgList rg0) rfl).othersS (show w.heap.size + 1 + 1 + 1 ≠ w.heap.size + 1 + 1 by omega) [.int .u16 0] 0)
  have Z3 := ((Q3.othersS (show w.heap.size + 1 + 1 ≠ w.heap.size + 1 + 1 + 1 by omega) (rgList rg0) 0).overS [.int .u16 0] rfl)
  have ZX := below_setCells (w.heap.size + 1 + 1 + 1) (by omega) [.int .u16 0] 0 _ (below_setCells (w.heap.size + 1 + 1) (by omega) (rgList rg0) 0 _ X2.out)
  exact ret_enter Try.results8 Try.underlying26 Try.underlying28 (rgList rg0) [.int .u16 0] (by kernel_rfl) (by kernel_rfl) (w.heap.size + 1 + 1) (w.heap.size + 1 + 1 + 1) (.slice none 0 0) (.int .i64 0) (.int .i64 14) ⟨rfl, ZX⟩ Z2 Z3 rfl rfl rfl rfl rfl rfl
set_option maxHeartbeats 2000000 in
theorem rEnter_ok (r : Rg) (hf : r.Fit) (hm : r.may) (p nx : Int) (hp0 : 0 ≤ p) (hp1 : p < 65536) (x0 : 0 ≤ nx) (x1 : nx < 65536) (n : Nat) (h0 : chz p r = n) (hn : n ≠ 0) (hn1 : n ≤ 10) (w : World) :
    Calls Try.prog 8 #[.agg #[.int .u16 r.A, .int .u16 r.L, .int .u16 r.Q, .int .i64 r.Z, .int .i64 r.EB, .int .i64 r.FB, .int .i64 r.Su, .bool r.Ex, .int .u16 r.Ix, .bool r.Hd, .int .u16 r.B, .bool r.Ih, .bool r.Sv], .agg #[.int .u16 p], .int .u16 nx] w (EnterRet r p nx n w) := by
  have K := Lib.hid (ent4_facts w r p)
  have hM := Lib.hid (fun w => rMay_any r true (decide_eq_true hm) w)
  have hC := Lib.hid (fun w => rChoose_any p hp0 hp1 r hf hm n h0 true (by simp [hn]) w)
  have HLw := Lib.hid (fun w => rLow_any nx x0 x1 w)
  have hxb : 0 ≤ nx % 32768 ∧ nx % 32768 < 32768 := by omega
  have hz0 : IntKind.u16.wrap r.Z = r.Z := IntWalk.u16_in _ (by have := hm.2.2.2.2.1; have := hm.2.2.2.2.2.1; omega)
  have hw1 : wrap64 (4 * (n : Int)) = 4 * n := by unfold wrap64; omega
  have hw2 : wrap64 (2048 + 4 * (n : Int)) = 2048 + 4 * n := by unfold wrap64; omega
  obtain ⟨x, hxe⟩ : ∃ x, nx % 32768 = x := ⟨_, rfl⟩
  rw [hxe] at hxb HLw
  have HE := Lib.hid hxe
  have hxw : IntKind.u16.wrap x = x := IntWalk.u16_in _ (by omega)
  clear hm hxe
  go_enter Try.func8, Try.ntmps8
  go_upto_region 1 with (fail)
  change Code.wp _ _ _ _ (ent4 w r p)
  obtain ⟨k1, k2, k3, k4, k5, k6⟩ := K.out
  generalize ent4 w r p = W at k1 k2 k3 k4 k5 k6 ⊢
  have c0 := k1.cell 0 _ rfl; have c1 := k1.cell 1 _ rfl; have c2 := k1.cell 2 _ rfl; have c3 := k1.cell 3 _ rfl; have c4 := k1.cell 4 _ rfl; have c5 := k1.cell 5 _ rfl; have c6 := k1.cell 6 _ rfl; have c7 := k1.cell 7 _ rfl; have c8 := k1.cell 8 _ rfl; have c9 := k1.cell 9 _ rfl; have c10 := k1.cell 10 _ rfl; have c11 := k1.cell 11 _ rfl; have c12 := k1.cell 12 _ rfl
  clear K
  have p0 := k2.cell 0 _ rfl
  go_wp2_with (fail)
  refine (hM.out _).mono ?_
  rintro e w1 ⟨rfl, hb⟩
  have J1 := k1.below hb (by omega)
  have J2 := k2.below hb (by omega)
  have J3 := k3.below hb (by omega)
  have J4 := k4.below hb (by omega)
  have X1 := Lib.hid (k6.trans (hb.mono k6.size))
  have hz1 : w.heap.size + 4 ≤ w1.heap.size := by have := hb.size; omega
  clear hb c0 c1 c2 c3 c4 c5 c6 c7 c8 c9 c10 c11 c12 p0
  have c0 := J1.cell 0 _ rfl; have c1 := J1.cell 1 _ rfl; have c2 := J1.cell 2 _ rfl; have c3 := J1.cell 3 _ rfl; have c4 := J1.cell 4 _ rfl; have c5 := J1.cell 5 _ rfl; have c6 := J1.cell 6 _ rfl; have c7 := J1.cell 7 _ rfl; have c8 := J1.cell 8 _ rfl; have c9 := J1.cell 9 _ rfl; have c10 := J1.cell 10 _ rfl; have c11 := J1.cell 11 _ rfl; have c12 := J1.cell 12 _ rfl
  have p0 := J2.cell 0 _ rfl
  go_wp2_with (fail)
  refine (hC.out _).mono ?_
  rintro e w2 ⟨rfl, hb⟩
  have Q1 := Lib.hid (J1.below hb (by omega))
  have Q2 := Lib.hid (J2.below hb (by omega))
  have Q3 := Lib.hid (J3.below hb (by omega))
  have Q4 := Lib.hid (J4.below hb (by omega))
  have X2 := Lib.hid (X1.out.trans (hb.mono X1.out.size))
  have hz2 : w.heap.size + 4 ≤ w2.heap.size := by have := hb.size; omega
  clear hb c0 c1 c2 c3 c4 c5 c6 c7 c8 c9 c10 c11 c12 p0 J1 J2 J3 J4
  have hcz := Q1.out.cell 3 _ rfl
  go_upto_region 6 with (fail)
  have hcz' : w2.drew.cell? ⟨w.heap.size, 3, none⟩ = some (.int .i64 r.Z) := hcz
  go_cut [13] (fun s wx => s = .slice (some ⟨w2.heap.size, 0, none⟩) 2 2 ∧ wx = (w2.alloc (.cells #[.int .i64 13, .int .u16 r.Z, .int .i64 15, .int .u16 x] 47)).drew)
  case first =>
    go_region_with (go_at_call 23; refine (HLw.out _).mono ?_; rintro e w' ⟨rfl, rfl⟩)
    all_goals
      go_wp2
      go_meet
      exact ⟨rfl, rfl⟩
  case rest =>
    obtain ⟨rfl, rfl⟩ := hcut
    have N1 := (Q1.out.alloc (show w.heap.size < w2.heap.size by omega) (.cells #[.int .i64 13, .int .u16 r.Z, .int .i64 15, .int .u16 x] 47)).drew
    have N2 := (Q2.out.alloc (show w.heap.size + 1 < w2.heap.size by omega) (.cells #[.int .i64 13, .int .u16 r.Z, .int .i64 15, .int .u16 x] 47)).drew
    have N3 := (Q3.out.alloc (show w.heap.size + 1 + 1 < w2.heap.size by omega) (.cells #[.int .i64 13, .int .u16 r.Z, .int .i64 15, .int .u16 x] 47)).drew
    have N4 := (Q4.out.alloc (show w.heap.size + 1 + 1 + 1 < w2.heap.size by omega) (.cells #[.int .i64 13, .int .u16 r.Z, .int .i64 15, .int .u16 x] 47)).drew
    have NC := (Blk.new w2 47 [.int .i64 13, .int .u16 r.Z, .int .i64 15, .int .u16 x] _ rfl).drew
    have NX := (X2.out.alloc (by omega) (.cells #[.int .i64 13, .int .u16 r.Z, .int .i64 15, .int .u16 x] 47)).drew
    have hV : (w2.alloc (.cells #[.int .i64 13, .int .u16 r.Z, .int .i64 15, .int .u16 x] 47)).drew.heap.size = w2.heap.size + 1 := by show (w2.alloc _).heap.size = _; simp
    clear Q1 Q2 Q3 Q4 X1 X2 hcz hcz'
    generalize (w2.alloc (.cells #[.int .i64 13, .int .u16 r.Z, .int .i64 15, .int .u16 x] 47)).drew = V at N1 N2 N3 N4 NC NX hV ⊢
    have c0 := N1.cell 0 _ rfl; have c1 := N1.cell 1 _ rfl; have c2 := N1.cell 2 _ rfl; have c3 := N1.cell 3 _ rfl; have c4 := N1.cell 4 _ rfl; have c5 := N1.cell 5 _ rfl; have c6 := N1.cell 6 _ rfl; have c7 := N1.cell 7 _ rfl; have c8 := N1.cell 8 _ rfl; have c9 := N1.cell 9 _ rfl; have c10 := N1.cell 10 _ rfl; have c11 := N1.cell 11 _ rfl; have c12 := N1.cell 12 _ rfl
    have f0 := N1.free 0 _ rfl; have f1 := N1.free 1 _ rfl; have f2 := N1.free 2 _ rfl; have f3 := N1.free 3 _ rfl; have f4 := N1.free 4 _ rfl; have f5 := N1.free 5 _ rfl; have f6 := N1.free 6 _ rfl; have f7 := N1.free 7 _ rfl; have f8 := N1.free 8 _ rfl; have f9 := N1.free 9 _ rfl; have f10 := N1.free 10 _ rfl; have f11 := N1.free 11 _ rfl; have f12 := N1.free 12 _ rfl
    go_upto_region 9 with (fail)
    have M1 := Lib.hid ((N1.set 3 (by simp [rgList]) (.int .i64 (2048 + 4 * n))).set 12 (by simp [rgList]) (.bool true))
    have M2 := Lib.hid ((N2.other (show w.heap.size ≠ w.heap.size + 1 by omega) 3 (.int .i64 (2048 + 4 * n))).other (show w.heap.size ≠ w.heap.size + 1 by omega) 12 (.bool true))
    have M3 := Lib.hid ((N3.other (show w.heap.size ≠ w.heap.size + 1 + 1 by omega) 3 (.int .i64 (2048 + 4 * n))).other (show w.heap.size ≠ w.heap.size + 1 + 1 by omega) 12 (.bool true))
    have M4 := Lib.hid ((N4.other (show w.heap.size ≠ w.heap.size + 1 + 1 + 1 by omega) 3 (.int .i64 (2048 + 4 * n))).other (show w.heap.size ≠ w.heap.size + 1 + 1 + 1 by omega) 12 (.bool true))
    have MC := Lib.hid ((NC.other (show w.heap.size ≠ w2.heap.size by omega) 3 (.int .i64 (2048 + 4 * n))).other (show w.heap.size ≠ w2.heap.size by omega) 12 (.bool true))
    have MX := Lib.hid ((NX.setCell (p := ⟨w.heap.size, 3, none⟩) (Nat.le_refl _) (.int .i64 (2048 + 4 * n))).setCell (p := ⟨w.heap.size, 12, none⟩) (Nat.le_refl _) (.bool true))
    have hU : w2.heap.size + 1 ≤ ((V.setCell ⟨w.heap.size, 3, none⟩ (.int .i64 (2048 + 4 * n))).setCell ⟨w.heap.size, 12, none⟩ (.bool true)).heap.size := by simp [hV]
    clear c0 c1 c2 c3 c4 c5 c6 c7 c8 c9 c10 c11 c12 f0 f1 f2 f3 f4 f5 f6 f7 f8 f9 f10 f11 f12 N1 N2 N3 N4 NC NX hV
    generalize (V.setCell ⟨w.heap.size, 3, none⟩ (.int .i64 (2048 + 4 * n))).setCell ⟨w.heap.size, 12, none⟩ (.bool true) = U at M1 M2 M3 M4 MC MX hU ⊢
    have HB10 := Lib.hid (sB10 (kq p n))
    go_wp2_with (fail)
    go_loopw [14, 15] (fun s i wr => ∃ k : Nat, k ≤ 10 ∧ i = .int .i64 ((k : Int) + 1) ∧ s = .int .i64 (sB (kq p n) k : Nat) ∧ Hid (Below U.heap.size U wr)) (fun _ i _ => 11 - (intOf i).toNat)
    case atStart => exact ⟨0, Nat.zero_le _, rfl, rfl, Lib.hid (Below.refl _ _)⟩
    case round =>
      obtain ⟨k, hk, rfl, rfl, HB⟩ := hrel
      have c0 := (M2.out.below HB.out (by omega)).cell 0 _ rfl
      by_cases hlt : k < 10
      · have HLT := Lib.hid hlt
        have hb2 := sB_lt (kq p n) k
        have hb3 : (2 : Nat) ^ (k + 1) ≤ 2 ^ 10 := Nat.pow_le_pow_right (by decide) (by omega)
        have hb4 : sB (kq p n) k < 1024 := Nat.lt_of_lt_of_le hb2 hb3
        have HS := Lib.hid (sB_add (kq p n) k)
        have hbv := bV_bd (k + 1) (by omega)
        clear hb2 hb3
        by_cases hkn : k + 1 = n
        · have hq : kq p n (k + 1) = false := by unfold kq; simp [hkn]
          have HS2 := Lib.hid (show sB (kq p n) (k + 1) = sB (kq p n) k by rw [HS.out, hq]; rfl)
          have hne : ((k : Int) + 1 != (n : Int)) = false := by have : (k : Int) + 1 = n := by omega
                                                                rw [this]; simp
          clear hq HS
          generalize sB (kq p n) k = u at *
          go_wp2
          go_roundw
          case rel => exact ⟨k + 1, by have := HLT.out; omega, by simp, by rw [HS2.out], HB⟩
          case measure => have := HLT.out; simp [intOf]; omega
        · have hne : ((k : Int) + 1 != (n : Int)) = true := by rw [bne_iff_ne]; omega
          by_cases c : pb p (k + 1) = true
          · have hq : kq p n (k + 1) = true := by
              unfold kq
              have : ¬ ((k + 1 : Nat) : Int) = n := by omega
              rw [c]; simp only [this, decide_false, Bool.not_false, Bool.and_true]
            have HS2 := Lib.hid (show ((sB (kq p n) (k + 1) : Nat) : Int) = (sB (kq p n) k : Nat) + bV (k + 1) by rw [HS.out, hq]; unfold bV; simp)
            have HW := Lib.hid (fun w => rWaits_yes p hp0 hp1 (k + 1) (by omega) (by omega) true c w)
            have HP := Lib.hid (fun w => rpower_any (k + 1) (by omega) w)
            clear hq HS c
            generalize sB (kq p n) k = u at *
            generalize bV (k + 1) = v at *
            have hwr : wrap64 ((u : Int) + v) = u + v := by unfold wrap64; omega
            go_wp2_with (first | (go_at_call 24; refine (HW.out _).mono ?_; rintro e w3 ⟨rfl, hb⟩; (have HB3 := Lib.hid (HB.out.trans (hb.mono HB.out.size))); clear hb) | (go_at_call 25; refine (HP.out _).mono ?_; rintro e w' ⟨rfl, rfl⟩))
            go_roundw
            case rel => exact ⟨k + 1, by have := HLT.out; omega, by simp, by rw [HS2.out], HB3⟩
            case measure => have := HLT.out; simp [intOf]; omega
          · have c' : pb p (k + 1) = false := by simpa using c
            have hq : kq p n (k + 1) = false := by unfold kq; rw [c']; rfl
            have HS2 := Lib.hid (show sB (kq p n) (k + 1) = sB (kq p n) k by rw [HS.out, hq]; rfl)
            have HW := Lib.hid (fun w => rWaits_yes p hp0 hp1 (k + 1) (by omega) (by omega) false c' w)
            clear hq HS c c'
            generalize sB (kq p n) k = u at *
            go_wp2_with (go_at_call 24; refine (HW.out _).mono ?_; rintro e w3 ⟨rfl, hb⟩; (have HB3 := Lib.hid (HB.out.trans (hb.mono HB.out.size))); clear hb)
            go_roundw
            case rel => exact ⟨k + 1, by have := HLT.out; omega, by simp, by rw [HS2.out], HB3⟩
            case measure => have := HLT.out; simp [intOf]; omega
      · have e : k = 10 := by omega
        subst e
        have P1 := Lib.hid (M1.out.below HB.out (by omega))
        have P3 := Lib.hid (M3.out.below HB.out (by omega))
        have P4 := Lib.hid (M4.out.below HB.out (by omega))
        have PC := Lib.hid (MC.out.below HB.out (by omega))
        have PX := Lib.hid (MX.out.trans (HB.out.mono MX.out.size))
        have hzr : w2.heap.size + 1 ≤ wr.heap.size := Nat.le_trans hU HB.out.size
        clear M1 M2 M3 M4 MC MX HB c0
        have hb10 := HB10.out
        have n1 := P1.out
        simp only [rgList, List.set_cons_succ, List.set_cons_zero] at n1
        have c0 := n1.cell 0 _ rfl; have c1 := n1.cell 1 _ rfl; have c2 := n1.cell 2 _ rfl; have c3 := n1.cell 3 _ rfl; have c4 := n1.cell 4 _ rfl; have c5 := n1.cell 5 _ rfl; have c6 := n1.cell 6 _ rfl; have c7 := n1.cell 7 _ rfl; have c8 := n1.cell 8 _ rfl; have c9 := n1.cell 9 _ rfl; have c10 := n1.cell 10 _ rfl; have c11 := n1.cell 11 _ rfl; have c12 := n1.cell 12 _ rfl
        have m0 := P3.out.cell 0 _ rfl; have m1 := P3.out.cell 1 _ rfl; have m2 := P3.out.cell 2 _ rfl; have m3 := P3.out.cell 3 _ rfl; have m4 := P3.out.cell 4 _ rfl; have m5 := P3.out.cell 5 _ rfl; have m6 := P3.out.cell 6 _ rfl; have m7 := P3.out.cell 7 _ rfl; have m8 := P3.out.cell 8 _ rfl; have m9 := P3.out.cell 9 _ rfl; have m10 := P3.out.cell 10 _ rfl; have m11 := P3.out.cell 11 _ rfl; have m12 := P3.out.cell 12 _ rfl
        have o0 := P3.out.free 0 _ rfl; have o1 := P3.out.free 1 _ rfl; have o2 := P3.out.free 2 _ rfl; have o3 := P3.out.free 3 _ rfl; have o4 := P3.out.free 4 _ rfl; have o5 := P3.out.free 5 _ rfl; have o6 := P3.out.free 6 _ rfl; have o7 := P3.out.free 7 _ rfl; have o8 := P3.out.free 8 _ rfl; have o9 := P3.out.free 9 _ rfl; have o10 := P3.out.free 10 _ rfl; have o11 := P3.out.free 11 _ rfl; have o12 := P3.out.free 12 _ rfl
        have q0 := P4.out.cell 0 _ rfl
        have q1 := P4.out.free 0 _ rfl
        obtain ⟨s, hs⟩ : ∃ s, sB (kq p n) 10 = s := ⟨_, rfl⟩
        have HSS := Lib.hid hs
        rw [hs] at hb10 ⊢
        have hsw : IntKind.u16.wrap (s : Int) = s := IntWalk.u16_in _ (by omega)
        clear n1 hs
        go_wp2
        clear c0 c1 c2 c3 c4 c5 c6 c7 c8 c9 c10 c11 c12 m0 m1 m2 m3 m4 m5 m6 m7 m8 m9 m10 m11 m12 o0 o1 o2 o3 o4 o5 o6 o7 o8 o9 o10 o11 o12 q0 q1
        change bodyPost _ _ _ _ _ ((wr.setCells (w.heap.size + 1 + 1) 0 (rgList (enR r n))).setCells (w.heap.size + 1 + 1 + 1) 0 [.int .u16 (s : Nat)])
        have Z2 := ((P3.out.overS (rgList (enR r n)) rfl).othersS (show w.heap.size + 1 + 1 + 1 ≠ w.heap.size + 1 + 1 by omega) [.int .u16 (s : Nat)] 0)
        have Z3 := ((P4.out.othersS (show w.heap.size + 1 + 1 ≠ w.heap.size + 1 + 1 + 1 by omega) (rgList (enR r n)) 0).overS [.int .u16 (s : Nat)] rfl)
        have ZC := ((PC.out.othersS (show w.heap.size + 1 + 1 ≠ w2.heap.size by omega) (rgList (enR r n)) 0).othersS (show w.heap.size + 1 + 1 + 1 ≠ w2.heap.size by omega) [.int .u16 (s : Nat)] 0)
        have ZX := below_setCells (w.heap.size + 1 + 1 + 1) (by omega) [.int .u16 (s : Nat)] 0 _ (below_setCells (w.heap.size + 1 + 1) (by omega) (rgList (enR r n)) 0 _ PX.out)
        have ZS : w2.heap.size < ((wr.setCells (w.heap.size + 1 + 1) 0 (rgList (enR r n))).setCells (w.heap.size + 1 + 1 + 1) 0 [.int .u16 (s : Nat)]).heap.size := by rw [setCells_size, setCells_size]; omega
        generalize (wr.setCells (w.heap.size + 1 + 1) 0 (rgList (enR r n))).setCells (w.heap.size + 1 + 1 + 1) 0 [.int .u16 (s : Nat)] = Y at Z2 Z3 ZC ZX ZS ⊢
        exact ret_enter Try.results8 Try.underlying26 Try.underlying28 (rgList (enR r n)) [.int .u16 (s : Nat)] (by kernel_rfl) (by kernel_rfl) (w.heap.size + 1 + 1) (w.heap.size + 1 + 1 + 1) (.slice (some ⟨w2.heap.size, 0, none⟩) 2 2) (.int .i64 n) (.int .i64 0) ⟨w2.heap.size, by rw [HSS.out]; rfl, by rw [HE.out]; exact ZC, by omega, ZS, ZX⟩ Z2 Z3 rfl rfl rfl rfl rfl rfl
end Go.Proofs.Ytmmpifcfhjdfnaa
