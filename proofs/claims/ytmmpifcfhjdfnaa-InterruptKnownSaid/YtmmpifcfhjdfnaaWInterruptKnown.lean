/- The walk of InterruptKnown. -/
import Derived.Test.YtmmpifcfhjdfnaaW07a
set_option linter.unusedSimpArgs false
set_option linter.unusedVariables false
set_option maxRecDepth 100000
namespace Go.Proofs.Ytmmpifcfhjdfnaa
open Go.ChangeShapes Go.WideShapes Go.ChangeAt Go.RowKit Go.Shelf
def rgK1 : Rg := { rg0 with Z := 4096 }
def rgK2 : Rg := { rg0 with Z := 4095 }
def rgK3 : Rg := { rg0 with A := 3 }
def rgK4 : Rg := { rg0 with A := 16384 }
def rgK5 : Rg := { rg0 with Ix := 1 }
theorem rgK1_may : ¬ rgK1.may := by unfold Rg.may rgK1 rg0; decide
theorem rgK2_may : rgK2.may := by unfold Rg.may rgK2 rg0; decide
theorem rgK2_fit : rgK2.Fit := by constructor <;> decide
theorem rgK4_fit : rgK4.Fit := by constructor <;> decide
theorem rgK5_fit : rgK5.Fit := by constructor <;> decide
set_option maxHeartbeats 4000000 in
theorem interruptKnown_walk (w : World) : Calls Try.prog 6 #[] w fun e w' => e = .returned (.bool true) ∧ Below w.heap.size w w' := by
  go_enter Try.func6, Try.ntmps6
  go_wp2_with (fail)
  refine (Request_no 0 0 (by decide) _).mono ?_
  rintro e w1 ⟨rfl, hb⟩
  have X1 := Lib.hid hb
  clear hb
  go_wp2_with (fail)
  refine (Request_no 0 11 (by decide) _).mono ?_
  rintro e w2 ⟨rfl, hb⟩
  have X2 := Lib.hid ((X1.out.alloc X1.out.size _).trans (hb.mono (by have := X1.out.size; simp; omega)))
  clear hb X1
  go_wp2_with (fail)
  refine (Request_yes 63489 (by decide) (by decide) 3 (by decide) (by decide) _).mono ?_
  rintro e w3 ⟨rfl, hb⟩
  rw [show ((rq 63489 3 : Nat) : Int) = 8 from rfl]
  have X3 := Lib.hid ((X2.out.alloc X2.out.size _).trans (hb.mono (by have := X2.out.size; simp; omega)))
  clear hb X2
  go_wp2_with (fail)
  have K5 := Lib.hid ((Blk.new w3 28 [.int .u16 8] _ rfl).alloc (by simp) (.cells #[.int .i64 1] 3))
  refine (pendLit [1] (by decide) (by rfl) 2 (by rfl) _ (w3.heap.size + 1) 1 (Blk.new _ 3 [.int .i64 1] (w3.heap.size + 1) (by simp))).mono ?_
  rintro e w4 ⟨rfl, hb⟩
  have X4 := Lib.hid (((X3.out.alloc X3.out.size (.cells #[.int .u16 8] 28)).alloc (by have := X3.out.size; simp; omega) (.cells #[.int .i64 1] 3)).trans (hb.mono (by have := X3.out.size; simp; omega)))
  have K4 := Lib.hid (K5.out.below hb (by simp; omega))
  have hz4 : w3.heap.size < w4.heap.size := by have := hb.size; simp at this; omega
  clear hb X3 K5
  go_wp2_with (fail)
  refine (Enter_arg rgK1 rgK1_may 2 0 _).mono ?_
  rintro e w5 ⟨rfl, hb⟩
  have X5 := Lib.hid (X4.out.trans (hb.mono X4.out.size))
  have K5 := Lib.hid (K4.out.below hb hz4)
  have hz5 : w3.heap.size < w5.heap.size := Nat.lt_of_lt_of_le hz4 hb.size
  clear hb X4 K4 hz4
  go_wp2_with (fail)
  have hbA := (Below.refl w5.heap.size w5).alloc (Nat.le_refl _) (.cells (rgList rg0).toArray 26) |>.alloc (by simp) (.cells #[.int .u16 0] 28)
  refine (Enter_state rgK2 rgK2_fit rgK2_may 2049 0 (by decide) (by decide) (by rfl) _).mono ?_
  rintro e w6 ⟨rfl, hb⟩
  have hbB := hbA.trans (hb.mono (by simp; omega))
  have X6 := Lib.hid (X5.out.trans (hbB.mono X5.out.size))
  have K6 := Lib.hid (K5.out.below hbB hz5)
  have hz6 : w3.heap.size < w6.heap.size := Nat.lt_of_lt_of_le hz5 hbB.size
  clear hb X5 K5 hz5 hbA hbB
  go_wp2_with (fail)
  have hbA := (Below.refl w6.heap.size w6).alloc (Nat.le_refl _) (.cells (rgList rg0).toArray 26) |>.alloc (by simp) (.cells #[.int .u16 0] 28)
  refine (Leave_any rgK3 none 0 0 (fun _ => 0) (by decide) _ Row.nil (fun i hi => by omega)).mono ?_
  rintro e w7 ⟨rfl, hb⟩
  rw [show (.agg #[.int .u16 (lvR rgK3 0 (fun _ => 0)).A, .int .u16 (lvR rgK3 0 (fun _ => 0)).L, .int .u16 (lvR rgK3 0 (fun _ => 0)).Q, .int .i64 (lvR rgK3 0 (fun _ => 0)).Z, .int .i64 (lvR rgK3 0 (fun _ => 0)).EB, .int .i64 (lvR rgK3 0 (fun _ => 0)).FB, .int .i64 (lvR rgK3 0 (fun _ => 0)).Su, .bool (lvR rgK3 0 (fun _ => 0)).Ex, .int .u16 (lvR rgK3 0 (fun _ => 0)).Ix, .bool (lvR rgK3 0 (fun _ => 0)).Hd, .int .u16 (lvR rgK3 0 (fun _ => 0)).B, .bool (lvR rgK3 0 (fun _ => 0)).Ih, .bool (lvR rgK3 0 (fun _ => 0)).Sv] : Value) = .agg #[.int .u16 3, .int .u16 0, .int .u16 0, .int .i64 0, .int .i64 0, .int .i64 0, .int .i64 0, .bool false, .int .u16 0, .bool true, .int .u16 0, .bool false, .bool false] from rfl]
  have hbB := hbA.trans (hb.mono (by simp; omega))
  have hbC := hbB.alloc hbB.size (.cells #[.int .u16 3, .int .u16 0, .int .u16 0, .int .i64 0, .int .i64 0, .int .i64 0, .int .i64 0, .bool false, .int .u16 0, .bool true, .int .u16 0, .bool false, .bool false] 26)
  have X7 := Lib.hid (X6.out.trans (hbC.mono X6.out.size))
  have k5 := (K6.out.below hbC hz6).cell 0 _ rfl
  have KR := Blk.new w7 26 [.int .u16 3, .int .u16 0, .int .u16 0, .int .i64 0, .int .i64 0, .int .i64 0, .int .i64 0, .bool false, .int .u16 0, .bool true, .int .u16 0, .bool false, .bool false] _ rfl
  clear hb X6 K6 hz6 hbA hbB hbC
  go_upto_region 7 with (fail)
  generalize w7.alloc (.cells #[.int .u16 3, .int .u16 0, .int .u16 0, .int .i64 0, .int .i64 0, .int .i64 0, .int .i64 0, .bool false, .int .u16 0, .bool true, .int .u16 0, .bool false, .bool false] 26) = U at X7 k5 KR ⊢
  have c0 := KR.cell 0 _ rfl; have c1 := KR.cell 1 _ rfl; have c2 := KR.cell 2 _ rfl; have c3 := KR.cell 3 _ rfl; have c4 := KR.cell 4 _ rfl; have c5 := KR.cell 5 _ rfl; have c6 := KR.cell 6 _ rfl; have c7 := KR.cell 7 _ rfl; have c8 := KR.cell 8 _ rfl; have c9 := KR.cell 9 _ rfl; have c10 := KR.cell 10 _ rfl; have c11 := KR.cell 11 _ rfl; have c12 := KR.cell 12 _ rfl
  clear KR
  have A1 := Lib.hid (fun w => Waits_no 65535 0 (by decide) w)
  have A2 := Lib.hid (fun w => Waits_no 65535 11 (by decide) w)
  have A3 := Lib.hid (fun w => Allowed_any rgK4 rgK4_fit false (by rfl) w)
  have A4 := Lib.hid (fun w => Allowed_any rgK5 rgK5_fit false (by rfl) w)
  go_wp2_with (fail)
  refine (A1.out _).mono ?_
  rintro e v1 ⟨rfl, hb⟩
  have Y1 := Lib.hid (X7.out.trans (hb.mono X7.out.size))
  clear hb
  go_wp2_with (fail)
  refine (A2.out _).mono ?_
  rintro e v2 ⟨rfl, hb⟩
  have Y2 := Lib.hid (Y1.out.trans (hb.mono Y1.out.size))
  clear hb
  go_wp2_with (fail)
  refine (A3.out _).mono ?_
  rintro e v3 ⟨rfl, hb⟩
  have Y3 := Lib.hid (Y2.out.trans (hb.mono Y2.out.size))
  clear hb
  go_wp2_with (fail)
  refine (A4.out _).mono ?_
  rintro e v4 ⟨rfl, hb⟩
  have Y4 := Lib.hid (Y3.out.trans (hb.mono Y3.out.size))
  clear hb
  go_wp2_with (go_at_call 12; refine (works7_any _).mono ?_; rintro e v5 ⟨rfl, hb⟩; (have Y5 := Lib.hid (Y4.out.trans (hb.mono Y4.out.size))); clear hb)
  go_ret
  exact ⟨rfl, Y5.out⟩
end Go.Proofs.Ytmmpifcfhjdfnaa
