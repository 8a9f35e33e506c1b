/- The walk of CpuCalls. -/
import Derived.Test.YtjjkikghfmnikaaGreatDoorTop5
set_option linter.unusedSimpArgs false
set_option linter.unusedVariables false
set_option maxRecDepth 100000
namespace Go.Proofs.YtjjkikghfmnikaaGreatDoor
open Go.ChangeShapes Go.WideShapes Go.ChangeAt Go.RowKit
theorem enc_tc (b : Nat) (b0 : 2048 ≤ b) (b1 : b ≤ 4095) : encW 0 (b : Int) = b := by
  have h : encOk 0 ((b : Int) - bs 0) := (span_iff 0 (by decide) b).2 (by show 0 ≤ (b : Int) ∧ (b : Int) ≤ 4095 ∧ (b : Int) ≠ 3 ∧ (b : Int) ≠ 4 ∧ (b : Int) ≠ 6; omega)
  rw [show (b : Int) - bs 0 = b by show (b : Int) - 0 = b; omega] at h
  rw [← (enc_yes h).1]
  show (0 : Int) + b = b
  omega
/-- The view of CpuCalls as it lies in memory. -/
theorem vT_at {U : World} {T : TypeId} {g : Nat} (a b : Nat) (h : b ≤ 4095) (ha : Arr .u16 T U g g 4096 4096 (vT a b).zf) : VwAt U (vT a b) none (some ⟨g, 0, none⟩) none := by
  refine ⟨fun i hi => absurd hi (Nat.not_lt_zero _), ha.row, fun i hi => absurd hi (Nat.not_lt_zero _), fun i hi => absurd hi (Nat.not_lt_zero _), ?_, fun i hi => absurd hi (Nat.not_lt_zero _), show (0 : Nat) ≤ 140737488355328 by decide, show (4096 : Nat) ≤ 140737488355328 by decide, show (0 : Nat) ≤ 140737488355328 by decide⟩
  intro i hi
  show 0 ≤ (if i = a then (b : Int) else if i = b then 2 else 0) ∧ (if i = a then (b : Int) else if i = b then 2 else 0) ≤ 65535
  split
  · omega
  · split <;> omega
theorem Step_T1 (a b g : Nat) (a0 : 2048 ≤ a ∧ a ≤ 4094) (b0 : 2048 ≤ b ∧ b ≤ 4095) (w : World) (hv : VwAt w (vT a b) none (some ⟨g, 0, none⟩) none) (hL : Lay w) :
    Calls Tryz.prog 19 #[.agg #[.int .u16 5, .int .u16 0, .int .u16 0, .int .i64 a, .int .i64 0, .int .i64 0, .int .i64 0, .bool false, .int .u16 0, .bool false, .int .u16 0, .bool false, .bool false], .agg #[.slice none 0 0, .slice (some ⟨g, 0, none⟩) 4096 4096, .slice none 0 0]] w (StepRet (sSt (rT1 a) (vT a b)) w) :=
  have k := tc1 a b a0.1 a0.2 b0.1 b0.2
  mStep_go (rT1 a) (rT1_ok a (by omega)).1 (rT1_ok a (by omega)).2 k.2.1 (vT a b) k.1 none 0 (some ⟨g, 0, none⟩) 4096 none 0 w hv hL
theorem Step_T2 (a b g : Nat) (hab : a ≠ b) (a0 : 2048 ≤ a ∧ a ≤ 4094) (b0 : 2048 ≤ b ∧ b ≤ 4095) (w : World) (hv : VwAt w (vT a b) none (some ⟨g, 0, none⟩) none) (hL : Lay w) :
    Calls Tryz.prog 19 #[.agg #[.int .u16 5, .int .u16 0, .int .u16 ((a : Int) + 1), .int .i64 b, .int .i64 0, .int .i64 0, .int .i64 0, .bool false, .int .u16 0, .bool false, .int .u16 0, .bool false, .bool false], .agg #[.slice none 0 0, .slice (some ⟨g, 0, none⟩) 4096 4096, .slice none 0 0]] w (StepRet (sSt (rT2 a b) (vT a b)) w) :=
  have k := tc2 a b hab a0.1 a0.2 b0.1 b0.2
  mStep_go (rT2 a b) (rT2_ok a b (by omega) (by omega)).1 (rT2_ok a b (by omega) (by omega)).2 k.2.1 (vT a b) k.1 none 0 (some ⟨g, 0, none⟩) 4096 none 0 w hv hL
theorem Step_T3 (a b g : Nat) (a0 : 2048 ≤ a ∧ a ≤ 4094) (b0 : 2048 ≤ b ∧ b ≤ 4095) (w : World) (hv : VwAt w (vT a b) none (some ⟨g, 0, none⟩) none) (hL : Lay w) :
    Calls Tryz.prog 19 #[.agg #[.int .u16 5, .int .u16 0, .int .u16 (((b : Int) + 1) % 4096), .int .i64 2, .int .i64 0, .int .i64 0, .int .i64 0, .bool false, .int .u16 0, .bool true, .int .u16 ((a : Int) + 1), .bool false, .bool false], .agg #[.slice none 0 0, .slice (some ⟨g, 0, none⟩) 4096 4096, .slice none 0 0]] w (StepRet (sSt (rT3 a b) (vT a b)) w) :=
  have k := tc3 a b a0.1 a0.2 b0.1 b0.2
  mStep_go (rT3 a b) (rT3_ok a b (by omega) (by omega)).1 (rT3_ok a b (by omega) (by omega)).2 k.2.1 (vT a b) k.1 none 0 (some ⟨g, 0, none⟩) 4096 none 0 w hv hL
set_option maxHeartbeats 4000000 in
theorem cpuCalls_walk (x y : Int) (wx : (Lit.int .u16 x).wf = true) (wy : (Lit.int .u16 y).wf = true) (w : World) (hL : Lay w) :
    Calls Tryz.prog 7 #[.int .u16 x, .int .u16 y] w fun e w' => e = .returned (.bool true) ∧ Below w.heap.size w w' := by
  have hx := bounds_u16 wx
  have hy := bounds_u16 wy
  have HL := Lib.hid hL
  clear wx wy hL
  obtain ⟨a, ha⟩ : ∃ a : Nat, 2048 + x % 2047 = (a : Int) := ⟨(2048 + x % 2047).toNat, by omega⟩
  obtain ⟨b, hb⟩ : ∃ b : Nat, 2048 + y % 2048 = (b : Int) := ⟨(2048 + y % 2048).toNat, by omega⟩
  have a0 : 2048 ≤ a ∧ a ≤ 4094 := by omega
  have b0 : 2048 ≤ b ∧ b ≤ 4095 := by omega
  have tx : x.tmod 2047 = x % 2047 := Int.tmod_eq_emod_of_nonneg hx.1
  have ty : y.tmod 2048 = y % 2048 := Int.tmod_eq_emod_of_nonneg hy.1
  have vx : IntKind.i64.wrap (2048 + x % 2047) = (a : Int) := by rw [ha]; exact IntWalk.i64_in _ (by omega)
  have vy : IntKind.i64.wrap (2048 + y % 2048) = (b : Int) := by rw [hb]; exact IntWalk.i64_in _ (by omega)
  go_enter Tryz.func7, Tryz.ntmps7
  have hbl : (b : Int) < 4096 := by omega
  have hal : (a : Int) < 4096 := by omega
  have hbl2 : b < 4096 := by omega
  have hal2 : a < 4096 := by omega
  go_wp2_with (at_make; refine make_full _ _ rfl _ _ 27 rfl .u16 24 2 Tryz.underlying27 info_word _ 4096 rfl rfl (by decide) (by decide) (Below.refl _ _) (Nat.le_refl _) ?_; intro w1 hown1 hb1 hs1; (have A1 := Lib.hid (Arr.of_own hown1 (lst_replicate 4096 0))); (have B1 := Lib.hid hb1); (have S1 := Lib.hid hs1); clear hown1 hb1 hs1)
  clear tx ty ha hb hx hy vx vy
  refine (code_any _ 0 (by decide) (by decide) 2 (by decide) (by decide) 2 (by rfl) _ (HL.out.below B1.out)).mono ?_
  rintro e w2 ⟨rfl, hb⟩
  have A2 := Lib.hid (A1.out.below hb (Nat.le_refl _))
  have B2 := Lib.hid (B1.out.trans (hb.mono B1.out.size))
  have c0 := A2.out.cell hbl2
  have f0 := A2.out.free b
  clear hb A1
  go_wp2_with (fail)
  have A3 := Lib.hid (A2.out.set b 2)
  have B3 := Lib.hid (B2.out.setCell (p := ⟨w.heap.size, b, none⟩) (Nat.le_refl _) (.int .u16 2))
  clear c0 f0 A2
  refine (code_any _ 0 (by decide) (by decide) b (by omega) (by omega) b (enc_tc b b0.1 b0.2) _ (HL.out.below B3.out)).mono ?_
  rintro e w4 ⟨rfl, hb⟩
  have A4 := Lib.hid (A3.out.below hb (Nat.le_refl _))
  have B4 := Lib.hid (B3.out.trans (hb.mono B3.out.size))
  have c0 := A4.out.cell hal2
  have f0 := A4.out.free a
  clear hb A3
  go_wp2_with (fail)
  have A5 : Arr .u16 24 ((w4.setCell ⟨w.heap.size, a, none⟩ (.int .u16 b)).alloc (.cells #[.slice none 0 0, .slice (some ⟨w.heap.size, 0, none⟩) 4096 4096, .slice none 0 0] 29)) w.heap.size w.heap.size 4096 4096 (vT a b).zf := (A4.out.set a b).below ((Below.refl _ _).alloc (Nat.le_refl _) _) (Nat.le_refl _)
  have VB := Blk.new (w4.setCell ⟨w.heap.size, a, none⟩ (.int .u16 b)) 29 [.slice none 0 0, .slice (some ⟨w.heap.size, 0, none⟩) 4096 4096, .slice none 0 0] w4.heap.size (by simp)
  have B5 := (B4.out.setCell (p := ⟨w.heap.size, a, none⟩) (Nat.le_refl _) (.int .u16 b)).alloc (by have := B4.out.size; simp; omega) (.cells #[.slice none 0 0, .slice (some ⟨w.heap.size, 0, none⟩) 4096 4096, .slice none 0 0] 29)
  clear c0 f0 A4
  have LT := A5.lt.2
  have LV : w4.heap.size < ((w4.setCell ⟨w.heap.size, a, none⟩ (.int .u16 b)).alloc (.cells #[.slice none 0 0, .slice (some ⟨w.heap.size, 0, none⟩) 4096 4096, .slice none 0 0] 29)).heap.size := by simp
  generalize (w4.setCell ⟨w.heap.size, a, none⟩ (.int .u16 b)).alloc (.cells #[.slice none 0 0, .slice (some ⟨w.heap.size, 0, none⟩) 4096 4096, .slice none 0 0] 29) = U at A5 VB B5 LT LV ⊢
  obtain ⟨gv, hgv⟩ : ∃ g, w4.heap.size = g := ⟨_, rfl⟩
  rw [hgv] at VB LV ⊢
  have W5 := Lib.hid (vT_at a b b0.2 A5)
  have HVB := Lib.hid VB
  have HB5 := Lib.hid B5
  clear hgv A5 VB B5 B4
  refine (Step_T1 a b w.heap.size a0 b0 U W5.out (HL.out.below HB5.out)).mono ?_
  intro e w5 hp
  obtain ⟨A1, c1, A2, c2, A3, c3, rfl, _, _, _, hb⟩ := hp.open_
  rw [show Value.agg (rgList (sSt (rT1 a) (vT a b)).r).toArray = .agg #[.int .u16 5, .int .u16 0, .int .u16 ((a : Int) + 1), .int .i64 b, .int .i64 0, .int .i64 0, .int .i64 0, .bool false, .int .u16 0, .bool false, .int .u16 0, .bool false, .bool false] from by rw [(tc1 a b a0.1 a0.2 b0.1 b0.2).2.2]; rfl]
  generalize (sSt (rT1 a) (vT a b)).cells.length = n1
  generalize (sSt (rT1 a) (vT a b)).outs.length = n2
  generalize (sSt (rT1 a) (vT a b)).reads.length = n3
  generalize (sSt (rT1 a) (vT a b)).cyc = cy1
  generalize (sSt (rT1 a) (vT a b)).op = op1
  have V6 := Lib.hid (HVB.out.below hb LV)
  have W6 := Lib.hid (W5.out.below hb (Nat.le_refl _))
  have B6 := Lib.hid (HB5.out.trans (hb.mono HB5.out.size))
  clear hp hb W5 HVB HB5
  by_cases hab : a = b
  · subst hab
    go_wp2_with (fail)
    have B7 := Lib.hid ((B6.out.alloc B6.out.size (.cells #[.int .u16 5, .int .u16 0, .int .u16 ((a : Int) + 1), .int .i64 a, .int .i64 0, .int .i64 0, .int .i64 0, .bool false, .int .u16 0, .bool false, .int .u16 0, .bool false, .bool false] 26)).alloc (by have := B6.out.size; simp; omega) (.cells #[.slice A1 n1 c1, .slice A2 n2 c2, .slice A3 n3 c3, .int .i64 cy1, .int .u8 op1] 48))
    refine (works5_any _ (HL.out.below B7.out)).mono ?_
    rintro e w7 ⟨rfl, hb⟩
    have B8 := Lib.hid (B7.out.trans (hb.mono B7.out.size))
    clear hb
    go_wp2_with (fail)
    go_ret
    exact ⟨rfl, B8.out⟩
  · have eab : ((a : Int) == (b : Int)) = false := by simp; omega
    have LV5 : gv < w5.heap.size := lt_of_cell (V6.out.cell 0 _ rfl)
    have V7 := Lib.hid ((V6.out.alloc LV5 (.cells #[.int .u16 5, .int .u16 0, .int .u16 ((a : Int) + 1), .int .i64 b, .int .i64 0, .int .i64 0, .int .i64 0, .bool false, .int .u16 0, .bool false, .int .u16 0, .bool false, .bool false] 26)).alloc (by simp; omega) (.cells #[.slice A1 n1 c1, .slice A2 n2 c2, .slice A3 n3 c3, .int .i64 cy1, .int .u8 op1] 48))
    have B7 := Lib.hid ((B6.out.alloc B6.out.size (.cells #[.int .u16 5, .int .u16 0, .int .u16 ((a : Int) + 1), .int .i64 b, .int .i64 0, .int .i64 0, .int .i64 0, .bool false, .int .u16 0, .bool false, .int .u16 0, .bool false, .bool false] 26)).alloc (by have := B6.out.size; simp; omega) (.cells #[.slice A1 n1 c1, .slice A2 n2 c2, .slice A3 n3 c3, .int .i64 cy1, .int .u8 op1] 48))
    have W7 := Lib.hid ((W6.out.alloc (.cells #[.int .u16 5, .int .u16 0, .int .u16 ((a : Int) + 1), .int .i64 b, .int .i64 0, .int .i64 0, .int .i64 0, .bool false, .int .u16 0, .bool false, .int .u16 0, .bool false, .bool false] 26)).alloc (.cells #[.slice A1 n1 c1, .slice A2 n2 c2, .slice A3 n3 c3, .int .i64 cy1, .int .u8 op1] 48))
    have X7 := Lib.hid ((Blk.new w5 26 [.int .u16 5, .int .u16 0, .int .u16 ((a : Int) + 1), .int .i64 b, .int .i64 0, .int .i64 0, .int .i64 0, .bool false, .int .u16 0, .bool false, .int .u16 0, .bool false, .bool false] _ rfl).alloc (by simp) (.cells #[.slice A1 n1 c1, .slice A2 n2 c2, .slice A3 n3 c3, .int .i64 cy1, .int .u8 op1] 48))
    have v0 := V7.out.cell 0 _ rfl
    have v1 := V7.out.cell 1 _ rfl
    have v2 := V7.out.cell 2 _ rfl
    clear V6 W6 B6
    go_wp2_with (fail)
    clear v0 v1 v2
    refine (Step_T2 a b w.heap.size hab a0 b0 _ W7.out (HL.out.below B7.out)).mono ?_
    intro e w8 hp
    obtain ⟨A4, c4, A5, c5, A6, c6, rfl, _, _, _, hb⟩ := hp.open_
    rw [show Value.agg (rgList (sSt (rT2 a b) (vT a b)).r).toArray = .agg #[.int .u16 5, .int .u16 0, .int .u16 (((b : Int) + 1) % 4096), .int .i64 2, .int .i64 0, .int .i64 0, .int .i64 0, .bool false, .int .u16 0, .bool true, .int .u16 ((a : Int) + 1), .bool false, .bool false] from by rw [(tc2 a b hab a0.1 a0.2 b0.1 b0.2).2.2]; rfl]
    generalize (sSt (rT2 a b) (vT a b)).cells.length = n4
    generalize (sSt (rT2 a b) (vT a b)).outs.length = n5
    generalize (sSt (rT2 a b) (vT a b)).reads.length = n6
    generalize (sSt (rT2 a b) (vT a b)).cyc = cy2
    generalize (sSt (rT2 a b) (vT a b)).op = op2
    have V8 := V7.out.below hb (by simp; omega)
    have X8 := X7.out.below hb (by simp; omega)
    have W8 := W7.out.below hb (Nat.le_refl _)
    have B8 := B7.out.trans (hb.mono B7.out.size)
    have LV8 : gv < w8.heap.size := lt_of_cell (V8.cell 0 _ rfl)
    have LX8 : w5.heap.size < w8.heap.size := lt_of_cell (X8.cell 0 _ rfl)
    have V9 := Lib.hid ((V8.alloc LV8 (.cells #[.int .u16 5, .int .u16 0, .int .u16 (((b : Int) + 1) % 4096), .int .i64 2, .int .i64 0, .int .i64 0, .int .i64 0, .bool false, .int .u16 0, .bool true, .int .u16 ((a : Int) + 1), .bool false, .bool false] 26)).alloc (by simp; omega) (.cells #[.slice A4 n4 c4, .slice A5 n5 c5, .slice A6 n6 c6, .int .i64 cy2, .int .u8 op2] 48))
    have X9 := Lib.hid ((X8.alloc LX8 (.cells #[.int .u16 5, .int .u16 0, .int .u16 (((b : Int) + 1) % 4096), .int .i64 2, .int .i64 0, .int .i64 0, .int .i64 0, .bool false, .int .u16 0, .bool true, .int .u16 ((a : Int) + 1), .bool false, .bool false] 26)).alloc (by simp; omega) (.cells #[.slice A4 n4 c4, .slice A5 n5 c5, .slice A6 n6 c6, .int .i64 cy2, .int .u8 op2] 48))
    have B9 := Lib.hid ((B8.alloc B8.size (.cells #[.int .u16 5, .int .u16 0, .int .u16 (((b : Int) + 1) % 4096), .int .i64 2, .int .i64 0, .int .i64 0, .int .i64 0, .bool false, .int .u16 0, .bool true, .int .u16 ((a : Int) + 1), .bool false, .bool false] 26)).alloc (by have := B8.size; simp; omega) (.cells #[.slice A4 n4 c4, .slice A5 n5 c5, .slice A6 n6 c6, .int .i64 cy2, .int .u8 op2] 48))
    have W9 := Lib.hid ((W8.alloc (.cells #[.int .u16 5, .int .u16 0, .int .u16 (((b : Int) + 1) % 4096), .int .i64 2, .int .i64 0, .int .i64 0, .int .i64 0, .bool false, .int .u16 0, .bool true, .int .u16 ((a : Int) + 1), .bool false, .bool false] 26)).alloc (.cells #[.slice A4 n4 c4, .slice A5 n5 c5, .slice A6 n6 c6, .int .i64 cy2, .int .u8 op2] 48))
    have Y9 := Lib.hid ((Blk.new w8 26 [.int .u16 5, .int .u16 0, .int .u16 (((b : Int) + 1) % 4096), .int .i64 2, .int .i64 0, .int .i64 0, .int .i64 0, .bool false, .int .u16 0, .bool true, .int .u16 ((a : Int) + 1), .bool false, .bool false] _ rfl).alloc (by simp) (.cells #[.slice A4 n4 c4, .slice A5 n5 c5, .slice A6 n6 c6, .int .i64 cy2, .int .u8 op2] 48))
    have v0 := V9.out.cell 0 _ rfl
    have v1 := V9.out.cell 1 _ rfl
    have v2 := V9.out.cell 2 _ rfl
    clear hp hb V8 X8 W8 B8 V7 X7 W7 B7
    go_wp2_with (fail)
    clear v0 v1 v2
    refine (Step_T3 a b w.heap.size a0 b0 _ W9.out (HL.out.below B9.out)).mono ?_
    intro e w11 hp
    obtain ⟨A7, c7, A8, c8, A9, c9, rfl, _, _, _, hb⟩ := hp.open_
    have kk := tc3 a b a0.1 a0.2 b0.1 b0.2
    rw [show Value.agg (rgList (sSt (rT3 a b) (vT a b)).r).toArray = .agg #[.int .u16 5, .int .u16 0, .int .u16 3, .int .i64 ((a : Int) + 1), .int .i64 0, .int .i64 0, .int .i64 0, .bool false, .int .u16 0, .bool false, .int .u16 0, .bool false, .bool false] from by rw [kk.2.2.1]; rfl, kk.2.2.2.1, kk.2.2.2.2, show ([] : List (Int × Int)).length = 0 from rfl]
    generalize (sSt (rT3 a b) (vT a b)).cells.length = n7
    generalize (sSt (rT3 a b) (vT a b)).outs.length = n8
    generalize (sSt (rT3 a b) (vT a b)).cyc = cy3
    have Y10 := Y9.out.below hb (by simp; omega)
    have B10 := B9.out.trans (hb.mono B9.out.size)
    have LY10 : w8.heap.size < w11.heap.size := lt_of_cell (Y10.cell 0 _ rfl)
    have Y11 := Lib.hid ((Y10.alloc LY10 (.cells #[.int .u16 5, .int .u16 0, .int .u16 3, .int .i64 ((a : Int) + 1), .int .i64 0, .int .i64 0, .int .i64 0, .bool false, .int .u16 0, .bool false, .int .u16 0, .bool false, .bool false] 26)).alloc (by simp; omega) (.cells #[.slice A7 n7 c7, .slice A8 n8 c8, .slice A9 0 c9, .int .i64 cy3, .int .u8 1] 48))
    have B11 := Lib.hid ((B10.alloc B10.size (.cells #[.int .u16 5, .int .u16 0, .int .u16 3, .int .i64 ((a : Int) + 1), .int .i64 0, .int .i64 0, .int .i64 0, .bool false, .int .u16 0, .bool false, .int .u16 0, .bool false, .bool false] 26)).alloc (by have := B10.size; simp; omega) (.cells #[.slice A7 n7 c7, .slice A8 n8 c8, .slice A9 0 c9, .int .i64 cy3, .int .u8 1] 48))
    have y2 := Y11.out.cell 2 _ rfl
    have y3 := Y11.out.cell 3 _ rfl
    have y9 := Y11.out.cell 9 _ rfl
    have t1 : IntKind.i64.wrap ((b : Int) + 1) = (b : Int) + 1 := IntWalk.i64_in _ (by omega)
    have t2 : ((b : Int) + 1).tmod 4096 = ((b : Int) + 1) % 4096 := Int.tmod_eq_emod_of_nonneg (by omega)
    have t3 : IntKind.u16.wrap (((b : Int) + 1) % 4096) = ((b : Int) + 1) % 4096 := IntWalk.u16_in _ (by omega)
    have t4 : IntKind.i64.wrap ((a : Int) + 1) = (a : Int) + 1 := IntWalk.i64_in _ (by omega)
    clear hp hb kk Y10 B10 Y9 B9 W9 V9 X9
    go_wp2_with (fail)
    clear y2 y3 y9 t1 t2 t3 t4
    refine (works5_any _ (HL.out.below B11.out)).mono ?_
    rintro e w12 ⟨rfl, hb⟩
    have B12 := Lib.hid (B11.out.trans (hb.mono B11.out.size))
    clear hb
    go_wp2_with (fail)
    go_ret
    exact ⟨rfl, B12.out⟩
end Go.Proofs.YtjjkikghfmnikaaGreatDoor
