/- Layer 5: the examples that each statement checks. -/
import Derived.Test.YtjjkikghfmnikaaGreatDoorQ39
import Derived.Test.YtjjkikghfmnikaaGreatDoorQ42
import Derived.Test.YtjjkikghfmnikaaGreatDoorQ43
set_option linter.unusedSimpArgs false
set_option linter.unusedVariables false
set_option maxRecDepth 100000
namespace Go.Proofs.YtjjkikghfmnikaaGreatDoor
open Go.ChangeShapes Go.WideShapes Go.ChangeAt Go.RowKit
theorem rAt_fit : rAt.Fit := by constructor <;> decide
theorem rAt_may : rAt.may := by unfold Rg.may rAt rg0; decide
theorem rAt_ok : fOk rAt := by unfold fOk has rAt rg0; decide
theorem ex1 : sMs rAt (vAt 12388 7 0) = 0 ∧ (sSt rAt (vAt 12388 7 0)).r = { rg0 with A := 7, Z := 2049 } ∧ (sSt rAt (vAt 12388 7 0)).cells = [] ∧ (sSt rAt (vAt 12388 7 0)).reads = [(2, 2048), (1, 100)] ∧ (sSt rAt (vAt 12388 7 0)).cyc = 2 := by
  refine ⟨by rfl, by rfl, by rfl, by rfl, by rfl⟩
theorem ex2 : sMs rAt (vAt 4196 32767 0) = 0 ∧ (sSt rAt (vAt 4196 32767 0)).r.A = 0 ∧ (sSt rAt (vAt 4196 32767 0)).r.Z = 2052 := ⟨by rfl, by rfl, by rfl⟩
/-- Step of the registers and the view that 'at' makes. -/
theorem Step_at (p x y : Int) (hm : sMs rAt (vAt p x y) = 0) (g1 g2 : Nat) (w : World) (hv : VwAt w (vAt p x y) (some ⟨g2, 0, none⟩) (some ⟨g1, 0, none⟩) none) (hL : Lay w) :
    Calls Tryz.prog 19 #[.agg #[.int .u16 0, .int .u16 0, .int .u16 0, .int .i64 2048, .int .i64 0, .int .i64 0, .int .i64 0, .bool false, .int .u16 0, .bool false, .int .u16 0, .bool false, .bool false], .agg #[.slice (some ⟨g2, 0, none⟩) 102 102, .slice (some ⟨g1, 0, none⟩) 2049 2049, .slice none 0 0]] w (StepRet (sSt rAt (vAt p x y)) w) :=
  mStep_go rAt rAt_fit rAt_may rAt_ok (vAt p x y) hm (some ⟨g2, 0, none⟩) 102 (some ⟨g1, 0, none⟩) 2049 none 0 w hv hL
theorem StepRet.open_ {s : St} {w : World} {e : Ending} {w' : World} (h : StepRet s w e w') : ∃ A1 c1 A2 c2 A3 c3, e = .returned (.tuple #[.agg (rgList s.r).toArray, .agg #[.slice A1 s.cells.length c1, .slice A2 s.outs.length c2, .slice A3 s.reads.length c3, .int .i64 s.cyc, .int .u8 s.op], .int .i64 0]) ∧
    Prs .i64 .u16 w' A1 s.cells ∧ Prs .i64 .u16 w' A2 s.outs ∧ Prs .u8 .i64 w' A3 s.reads ∧ Below w.heap.size w w' := by
  obtain ⟨vC, vO, vR, rfl, h1, h2, h3, hb⟩ := h
  obtain ⟨A1, c1, rfl, p1⟩ := h1.prs
  obtain ⟨A2, c2, rfl, p2⟩ := h2.prs
  obtain ⟨A3, c3, rfl, p3⟩ := h3.prs
  exact ⟨A1, c1, A2, c2, A3, c3, rfl, p1, p2, p3, hb⟩
theorem Prs.two {k1 k2 : IntKind} {w : World} {A : Option Addr} {a b c d : Int} (h : Prs k1 k2 w A [(a, b), (c, d)]) : ∃ g, A = some ⟨g, 0, none⟩ ∧ w.cell? ⟨g, 0, none⟩ = some (.int k1 a) ∧ w.cell? ⟨g, 1, none⟩ = some (.int k2 b) ∧ w.cell? ⟨g, 2, none⟩ = some (.int k1 c) ∧ w.cell? ⟨g, 3, none⟩ = some (.int k2 d) := by
  obtain ⟨g, e, h1, h2⟩ := h 0 (by simp)
  obtain ⟨g', e', h3, h4⟩ := h 1 (by simp)
  subst e
  injection e' with e'
  injection e' with e' _
  subst e'
  exact ⟨g, rfl, h1, h2, h3, h4⟩
set_option maxHeartbeats 4000000 in
theorem works5_any (w : World) (hL : Lay w) : Calls Tryz.prog 18 #[] w fun e w' => e = .returned (.bool true) ∧ Below w.heap.size w w' := by
  have HL := Lib.hid hL
  clear hL
  go_enter Tryz.func18, Tryz.ntmps18
  go_wp2_with (fail)
  refine (code_any _ 10 (by decide) (by decide) 100 (by decide) (by decide) 12388 (by rfl) _ (by first | exact HL.out | exact HL.out.alloc _)).mono ?_
  rintro e w1 ⟨rfl, hb⟩
  have X1 := Lib.hid hb
  clear hb
  go_wp2_with (fail)
  refine (at_any 12388 7 0 (by omega) (by omega) (by omega) _).mono ?_
  rintro e w2 ⟨g1, g2, rfl, hv, hg1, hg2, _, _, _, hb⟩
  rw [show Value.agg (rgList rAt).toArray = .agg #[.int .u16 0, .int .u16 0, .int .u16 0, .int .i64 2048, .int .i64 0, .int .i64 0, .int .i64 0, .bool false, .int .u16 0, .bool false, .int .u16 0, .bool false, .bool false] from rfl]
  have X2 := Lib.hid (X1.out.trans (hb.mono X1.out.size))
  have V2 := Lib.hid hv
  clear hb hv hg1 hg2
  go_wp2_with (fail)
  have X3 := Lib.hid ((X2.out.alloc X2.out.size (.cells #[.int .u16 0, .int .u16 0, .int .u16 0, .int .i64 2048, .int .i64 0, .int .i64 0, .int .i64 0, .bool false, .int .u16 0, .bool false, .int .u16 0, .bool false, .bool false] 26)).alloc (by have := X2.out.size; simp; omega) (.cells #[.slice (some ⟨g2, 0, none⟩) 102 102, .slice (some ⟨g1, 0, none⟩) 2049 2049, .slice none 0 0] 29))
  have RB := (Blk.new w2 26 (rgList rAt) _ rfl).alloc (by simp) (.cells #[.slice (some ⟨g2, 0, none⟩) 102 102, .slice (some ⟨g1, 0, none⟩) 2049 2049, .slice none 0 0] 29)
  have VB := Blk.new (w2.alloc (.cells #[.int .u16 0, .int .u16 0, .int .u16 0, .int .i64 2048, .int .i64 0, .int .i64 0, .int .i64 0, .bool false, .int .u16 0, .bool false, .int .u16 0, .bool false, .bool false] 26)) 29 [.slice (some ⟨g2, 0, none⟩) 102 102, .slice (some ⟨g1, 0, none⟩) 2049 2049, .slice none 0 0] (w2.heap.size + 1) (by simp)
  refine (Step_at 12388 7 0 ex1.1 g1 g2 _ ((V2.out.alloc _).alloc _) (HL.out.below X3.out)).mono ?_
  intro e w3 hp
  obtain ⟨A1, c1, A2, c2, A3, c3, rfl, p1, p2, p3, hb⟩ := hp.open_
  rw [ex1.2.2.1] at p1
  rw [ex1.2.2.2.1] at p3
  rw [show Value.agg (rgList (sSt rAt (vAt 12388 7 0)).r).toArray = .agg #[.int .u16 7, .int .u16 0, .int .u16 0, .int .i64 2049, .int .i64 0, .int .i64 0, .int .i64 0, .bool false, .int .u16 0, .bool false, .int .u16 0, .bool false, .bool false] from rfl, show (sSt rAt (vAt 12388 7 0)).cells.length = 0 from rfl, show (sSt rAt (vAt 12388 7 0)).outs.length = 0 from rfl, show (sSt rAt (vAt 12388 7 0)).reads.length = 2 from rfl, show (sSt rAt (vAt 12388 7 0)).cyc = 2 from rfl, show (sSt rAt (vAt 12388 7 0)).op = 11 from rfl]
  obtain ⟨g3, rfl, e1, e2, e3, e4⟩ := p3.two
  have hg3 : g3 < w3.heap.size := lt_of_cell e1
  have X4 := Lib.hid (X3.out.trans (hb.mono X3.out.size))
  have RC := Lib.hid (RB.below hb (by simp; omega))
  have HZ2 := Lib.hid X2.out.size
  have HZ3 := Lib.hid (show w2.heap.size + 2 ≤ w3.heap.size by have := hb.size; simp at this; omega)
  have VC := Lib.hid (VB.below hb (by simp))
  clear hp p1 p2 p3 hb RB VB V2 X1 X2
  have hz2 : w.heap.size ≤ w2.heap.size := HZ2.out
  have hz3 : w2.heap.size + 2 ≤ w3.heap.size := HZ3.out
  go_wp2_with (fail)
  have X5 := Lib.hid ((X4.out.alloc X4.out.size (.cells #[.int .u16 7, .int .u16 0, .int .u16 0, .int .i64 2049, .int .i64 0, .int .i64 0, .int .i64 0, .bool false, .int .u16 0, .bool false, .int .u16 0, .bool false, .bool false] 26)).alloc (by have := X4.out.size; simp; omega) (.cells #[.slice A1 0 c1, .slice A2 0 c2, .slice (some ⟨g3, 0, none⟩) 2 c3, .int .i64 2, .int .u8 11] 48))
  have RD := Lib.hid ((RC.out.alloc (by omega) (.cells #[.int .u16 7, .int .u16 0, .int .u16 0, .int .i64 2049, .int .i64 0, .int .i64 0, .int .i64 0, .bool false, .int .u16 0, .bool false, .int .u16 0, .bool false, .bool false] 26)).alloc (by simp; omega) (.cells #[.slice A1 0 c1, .slice A2 0 c2, .slice (some ⟨g3, 0, none⟩) 2 c3, .int .i64 2, .int .u8 11] 48))
  have VD := Lib.hid ((VC.out.alloc (by omega) (.cells #[.int .u16 7, .int .u16 0, .int .u16 0, .int .i64 2049, .int .i64 0, .int .i64 0, .int .i64 0, .bool false, .int .u16 0, .bool false, .int .u16 0, .bool false, .bool false] 26)).alloc (by simp; omega) (.cells #[.slice A1 0 c1, .slice A2 0 c2, .slice (some ⟨g3, 0, none⟩) 2 c3, .int .i64 2, .int .u8 11] 48))
  have XD := Lib.hid ((Blk.new w3 26 (rgList { rg0 with A := 7, Z := 2049 }) _ rfl).alloc (by simp) (.cells #[.slice A1 0 c1, .slice A2 0 c2, .slice (some ⟨g3, 0, none⟩) 2 c3, .int .i64 2, .int .u8 11] 48))
  refine (code_any _ 4 (by decide) (by decide) 100 (by decide) (by decide) 4196 (by rfl) _ (HL.out.below X5.out)).mono ?_
  rintro e w4 ⟨rfl, hb⟩
  have X6 := Lib.hid (X5.out.trans (hb.mono X5.out.size))
  have RE := Lib.hid (RD.out.below hb (by simp; omega))
  have VE := Lib.hid (VD.out.below hb (by simp; omega))
  have XE := Lib.hid (XD.out.below hb (by simp; omega))
  have hz4 : w3.heap.size + 2 ≤ w4.heap.size := by have := hb.size; simp at this; omega
  clear hb RD VD XD RC VC X3 X4 X5 e1 e2 e3 e4
  go_wp2_with (fail)
  refine (at_any 4196 32767 0 (by omega) (by omega) (by omega) _).mono ?_
  rintro e w5 ⟨g1', g2', rfl, hv, hg1, hg2, _, ha1, ha2, hb⟩
  rw [show Value.agg (rgList rAt).toArray = .agg #[.int .u16 0, .int .u16 0, .int .u16 0, .int .i64 2048, .int .i64 0, .int .i64 0, .int .i64 0, .bool false, .int .u16 0, .bool false, .int .u16 0, .bool false, .bool false] from rfl]
  have X7 := Lib.hid (X6.out.trans (hb.mono X6.out.size))
  have V5 := Lib.hid hv
  have AF := Lib.hid ha1
  have AE := Lib.hid ha2
  have hz5 : w4.heap.size ≤ w5.heap.size := hb.size
  have RF := RE.out.below hb (by omega)
  have VF := VE.out.below hb (by omega)
  have XF := Lib.hid (XE.out.below hb (by omega))
  have RG := Lib.hid RF
  have VG := Lib.hid VF
  clear hb hv ha1 ha2 RE VE XE X6
  have m0 := RF.cell 0 _ rfl; have m1 := RF.cell 1 _ rfl; have m2 := RF.cell 2 _ rfl; have m3 := RF.cell 3 _ rfl; have m4 := RF.cell 4 _ rfl; have m5 := RF.cell 5 _ rfl; have m6 := RF.cell 6 _ rfl; have m7 := RF.cell 7 _ rfl; have m8 := RF.cell 8 _ rfl; have m9 := RF.cell 9 _ rfl; have m10 := RF.cell 10 _ rfl; have m11 := RF.cell 11 _ rfl; have m12 := RF.cell 12 _ rfl; have n0 := RF.free 0 _ rfl; have n1 := RF.free 1 _ rfl; have n2 := RF.free 2 _ rfl; have n3 := RF.free 3 _ rfl; have n4 := RF.free 4 _ rfl; have n5 := RF.free 5 _ rfl; have n6 := RF.free 6 _ rfl; have n7 := RF.free 7 _ rfl; have n8 := RF.free 8 _ rfl; have n9 := RF.free 9 _ rfl; have n10 := RF.free 10 _ rfl; have n11 := RF.free 11 _ rfl; have n12 := RF.free 12 _ rfl; have q0 := VF.cell 0 _ rfl; have q1 := VF.cell 1 _ rfl; have q2 := VF.cell 2 _ rfl; have s0 := VF.free 0 _ rfl; have s1 := VF.free 1 _ rfl; have s2 := VF.free 2 _ rfl
  clear RF VF
  go_wp2_with (fail)
  change Calls _ _ _ (setAll (setAll w5 w2.heap.size 0 (rgList rAt)) (w2.heap.size + 1) 0 [.slice (some ⟨g2', 0, none⟩) 102 102, .slice (some ⟨g1', 0, none⟩) 2049 2049, .slice none 0 0]) _
  clear m0 m1 m2 m3 m4 m5 m6 m7 m8 m9 m10 m11 m12 n0 n1 n2 n3 n4 n5 n6 n7 n8 n9 n10 n11 n12 q0 q1 q2 s0 s1 s2
  have F1 := Arr.setAll_other (show g1' ≠ w2.heap.size + 1 by omega) [.slice (some ⟨g2', 0, none⟩) 102 102, .slice (some ⟨g1', 0, none⟩) 2049 2049, .slice none 0 0] _ 0 (Arr.setAll_other (show g1' ≠ w2.heap.size by omega) (rgList rAt) _ 0 AF.out)
  have F2 := Arr.setAll_other (show g2' ≠ w2.heap.size + 1 by omega) [.slice (some ⟨g2', 0, none⟩) 102 102, .slice (some ⟨g1', 0, none⟩) 2049 2049, .slice none 0 0] _ 0 (Arr.setAll_other (show g2' ≠ w2.heap.size by omega) (rgList rAt) _ 0 AE.out)
  have XU := below_setAll (w2.heap.size + 1) (by omega) [.slice (some ⟨g2', 0, none⟩) 102 102, .slice (some ⟨g1', 0, none⟩) 2049 2049, .slice none 0 0] _ 0 (below_setAll w2.heap.size (by omega) (rgList rAt) _ 0 X7.out)
  have XB := ((XF.out.others (show w2.heap.size ≠ w3.heap.size by omega) (rgList rAt) _ 0).others (show w2.heap.size + 1 ≠ w3.heap.size by omega) [.slice (some ⟨g2', 0, none⟩) 102 102, .slice (some ⟨g1', 0, none⟩) 2049 2049, .slice none 0 0] _ 0)
  have hsz : (setAll (setAll w5 w2.heap.size 0 (rgList rAt)) (w2.heap.size + 1) 0 [.slice (some ⟨g2', 0, none⟩) 102 102, .slice (some ⟨g1', 0, none⟩) 2049 2049, .slice none 0 0]).heap.size = w5.heap.size := by rw [setAll_size, setAll_size]
  have VU : VwAt _ (vAt 4196 32767 0) (some ⟨g2', 0, none⟩) (some ⟨g1', 0, none⟩) none := { V5.out with e := F2.row, f := F1.row, c := fun i hi => absurd hi (Nat.not_lt_zero _) }
  clear F1 F2 V5 AF AE RG VG XF X7
  generalize setAll (setAll w5 w2.heap.size 0 (rgList rAt)) (w2.heap.size + 1) 0 [.slice (some ⟨g2', 0, none⟩) 102 102, .slice (some ⟨g1', 0, none⟩) 2049 2049, .slice none 0 0] = U at XU XB VU hsz ⊢
  have YU := Lib.hid XU
  have YB := Lib.hid XB
  refine (Step_at 4196 32767 0 ex2.1 g1' g2' U VU (HL.out.below XU)).mono ?_
  intro e w6 hp
  obtain ⟨A4, c4, A5, c5, A6, c6, rfl, _, _, _, hb⟩ := hp.open_
  rw [show Value.agg (rgList (sSt rAt (vAt 4196 32767 0)).r).toArray = .agg #[.int .u16 0, .int .u16 0, .int .u16 0, .int .i64 2052, .int .i64 0, .int .i64 0, .int .i64 0, .bool false, .int .u16 0, .bool false, .int .u16 0, .bool false, .bool false] from rfl]
  generalize (sSt rAt (vAt 4196 32767 0)).cells.length = n4
  generalize (sSt rAt (vAt 4196 32767 0)).outs.length = n5
  generalize (sSt rAt (vAt 4196 32767 0)).reads.length = n6
  generalize (sSt rAt (vAt 4196 32767 0)).cyc = cy6
  generalize (sSt rAt (vAt 4196 32767 0)).op = op6
  have XG := YB.out.below hb (by omega)
  have Y6 := Lib.hid (YU.out.trans (hb.mono YU.out.size))
  have hz6 : w3.heap.size < w6.heap.size := by have := hb.size; omega
  clear hp hb XU XB VU YB YU
  have m0 := XG.cell 0 _ rfl; have m1 := XG.cell 1 _ rfl; have m2 := XG.cell 2 _ rfl; have m3 := XG.cell 3 _ rfl; have m4 := XG.cell 4 _ rfl; have m5 := XG.cell 5 _ rfl; have m6 := XG.cell 6 _ rfl; have m7 := XG.cell 7 _ rfl; have m8 := XG.cell 8 _ rfl; have m9 := XG.cell 9 _ rfl; have m10 := XG.cell 10 _ rfl; have m11 := XG.cell 11 _ rfl; have m12 := XG.cell 12 _ rfl; have n0 := XG.free 0 _ rfl; have n1 := XG.free 1 _ rfl; have n2 := XG.free 2 _ rfl; have n3 := XG.free 3 _ rfl; have n4 := XG.free 4 _ rfl; have n5 := XG.free 5 _ rfl; have n6 := XG.free 6 _ rfl; have n7 := XG.free 7 _ rfl; have n8 := XG.free 8 _ rfl; have n9 := XG.free 9 _ rfl; have n10 := XG.free 10 _ rfl; have n11 := XG.free 11 _ rfl; have n12 := XG.free 12 _ rfl
  have Y8 := Lib.hid (below_setAll w3.heap.size (by omega) (rgList { rg0 with Z := 2052 }) _ 0 Y6.out)
  clear XG
  go_wp2_with (first
    | (go_at_call 31; refine (Multiply_any 16383 16383 16382 1 (by omega) (by omega) (by omega) (by omega) (by rfl) (by rfl) _).mono ?_; rintro e w7 ⟨rfl, k1, rfl⟩)
    | (go_at_call 32; refine (Divide_any 0 17 5 3 2 (by omega) (by omega) (by omega) (by omega) (by omega) (by omega) (by rfl) (by rfl) _).mono ?_; rintro e w8 ⟨rfl, k2, rfl⟩)
    | fail)
  go_ret
  refine ⟨rfl, ?_⟩
  exact below_drewN Y8.out (k1 + k2)
end Go.Proofs.YtjjkikghfmnikaaGreatDoor
