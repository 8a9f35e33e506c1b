/- The walk of CpuDoubles. -/
import Derived.Test.YtjjkikghfmnikaaGreatDoorP05d
import Derived.Test.YtjjkikghfmnikaaGreatDoorTop5
import Derived.Deep.RegionHeld3
set_option linter.unusedSimpArgs false
set_option linter.unusedVariables false
set_option maxRecDepth 100000
namespace Go.Proofs.YtjjkikghfmnikaaGreatDoor
open Go.ChangeShapes Go.WideShapes Go.ChangeAt Go.RowKit
theorem FB.mk0 {w X : World} (h : Below w.heap.size w X) : FB w [] X := ⟨fun i g l e => by simp at e, h⟩
/-- A whole block of the family stored anew. -/
theorem FB.overAt {w X : World} {L : List (Nat × List Value)} (h : FB w L X) (i : Nat) {g : Nat} {l l' : List Value} (e : L[i]? = some (g, l)) (hn : ∀ (j : Nat) (g' : Nat) (m : List Value), j ≠ i → L[j]? = some (g', m) → g' ≠ g) (hw : w.heap.size ≤ g) (hl : l'.length = l.length) : FB w (L.set i (g, l')) (setAll X g 0 l') := by
  refine ⟨fun j g' m e' => ?_, below_setAll g hw l' _ 0 h.2⟩
  rw [List.getElem?_set] at e'
  by_cases c : i = j
  · subst c
    rw [if_pos rfl] at e'
    split at e'
    · injection e' with e'
      injection e' with e1 e2
      subst e1 e2
      exact ⟨(h.1 i g l e).1.over l' (by rw [hl]), by rw [setAll_size]; exact (h.1 i g l e).2⟩
    · cases e'
  · rw [if_neg c] at e'
    have k := h.1 j g' m e'
    exact ⟨k.1.others (Ne.symm (hn j g' m (Ne.symm c) e')) l' _ 0, by rw [setAll_size]; exact k.2⟩
/-- A cell of a block of the family stored. -/
theorem FB.setAt {w X : World} {L : List (Nat × List Value)} (h : FB w L X) (i : Nat) {g : Nat} {l : List Value} (e : L[i]? = some (g, l)) (hn : ∀ (j : Nat) (g' : Nat) (m : List Value), j ≠ i → L[j]? = some (g', m) → g' ≠ g) (hw : w.heap.size ≤ g) (k : Nat) (hk : k < l.length) (y : Value) : FB w (L.set i (g, l.set k y)) (X.setCell ⟨g, k, none⟩ y) := by
  refine ⟨fun j g' m e' => ?_, h.2.setCell (p := ⟨g, k, none⟩) hw y⟩
  rw [List.getElem?_set] at e'
  by_cases c : i = j
  · subst c
    rw [if_pos rfl] at e'
    split at e'
    · injection e' with e'
      injection e' with e1 e2
      subst e1 e2
      exact ⟨(h.1 i g l e).1.set k hk y, by simpa using (h.1 i g l e).2⟩
    · cases e'
  · rw [if_neg c] at e'
    have q := h.1 j g' m e'
    exact ⟨q.1.other (Ne.symm (hn j g' m (Ne.symm c) e')) k y, by simpa using q.2⟩
theorem rDas_ok (a l : Int) (a0 : 0 ≤ a ∧ a < 65536) (l0 : 0 ≤ l ∧ l < 32768) : (rDas a l).Fit ∧ (rDas a l).may := by
  unfold Rg.may rDas rAt rg0
  exact ⟨by constructor <;> simp <;> omega, by simp; omega⟩
theorem Step_das (a l x y : Int) (a0 : 0 ≤ a ∧ a < 65536) (l0 : 0 ≤ l ∧ l < 32768) (g1 g2 : Nat) (w : World) (hv : VwAt w (vAt 8292 x y) (some ⟨g2, 0, none⟩) (some ⟨g1, 0, none⟩) none) (hL : Lay w) :
    Calls Tryz.prog 19 #[.agg #[.int .u16 a, .int .u16 l, .int .u16 0, .int .i64 2048, .int .i64 0, .int .i64 0, .int .i64 0, .bool false, .int .u16 0, .bool false, .int .u16 0, .bool false, .bool false], .agg #[.slice (some ⟨g2, 0, none⟩) 102 102, .slice (some ⟨g1, 0, none⟩) 2049 2049, .slice none 0 0]] w (StepRet (sSt (rDas a l) (vAt 8292 x y)) w) :=
  mStep_go (rDas a l) (rDas_ok a l a0 l0).1 (rDas_ok a l a0 l0).2 rAt_ok (vAt 8292 x y) (das_st a l x y).1 (some ⟨g2, 0, none⟩) 102 (some ⟨g1, 0, none⟩) 2049 none 0 w hv hL
theorem rEx_ok : rEx.Fit ∧ rEx.may := by
  unfold Rg.may rEx rAt rg0
  exact ⟨by constructor <;> simp, by simp⟩
theorem Step_ex (p x y : Int) (hm : sMs rEx (vAt p x y) = 0) (g1 g2 : Nat) (w : World) (hv : VwAt w (vAt p x y) (some ⟨g2, 0, none⟩) (some ⟨g1, 0, none⟩) none) (hL : Lay w) :
    Calls Tryz.prog 19 #[.agg #[.int .u16 0, .int .u16 0, .int .u16 0, .int .i64 2048, .int .i64 0, .int .i64 0, .int .i64 0, .bool true, .int .u16 0, .bool false, .int .u16 0, .bool false, .bool false], .agg #[.slice (some ⟨g2, 0, none⟩) 102 102, .slice (some ⟨g1, 0, none⟩) 2049 2049, .slice none 0 0]] w (StepRet (sSt rEx (vAt p x y)) w) :=
  mStep_go rEx rEx_ok.1 rEx_ok.2 rAt_ok (vAt p x y) hm (some ⟨g2, 0, none⟩) 102 (some ⟨g1, 0, none⟩) 2049 none 0 w hv hL
set_option maxHeartbeats 4000000 in
theorem cpuDoubles_core (p0 p1 p2 p3 a l x y : Int) (ha : p0 % 32768 = a) (hl : p1 % 32768 = l) (hx : p2 % 32768 = x) (hy : p3 % 32768 = y) (h0 : 0 ≤ p0) (h1 : 0 ≤ p1) (h2 : 0 ≤ p2) (h3 : 0 ≤ p3) (w : World) (hL : Lay w) :
    Calls Tryz.prog 8 #[.agg #[.int .u16 p0, .int .u16 p1, .int .u16 p2, .int .u16 p3]] w fun e w' => e = .returned (.bool true) ∧ Below w.heap.size w w' := by
  have HL := Lib.hid hL
  have t0 : p0.tmod 32768 = a := by rw [← ha]; exact Int.tmod_eq_emod_of_nonneg h0
  have t1 : p1.tmod 32768 = l := by rw [← hl]; exact Int.tmod_eq_emod_of_nonneg h1
  have t2 : p2.tmod 32768 = x := by rw [← hx]; exact Int.tmod_eq_emod_of_nonneg h2
  have t3 : p3.tmod 32768 = y := by rw [← hy]; exact Int.tmod_eq_emod_of_nonneg h3
  have q0 : IntKind.u16.wrap a = a := IntWalk.u16_in _ (by omega)
  have q1 : IntKind.u16.wrap l = l := IntWalk.u16_in _ (by omega)
  have q2 : IntKind.u16.wrap x = x := IntWalk.u16_in _ (by omega)
  have q3 : IntKind.u16.wrap y = y := IntWalk.u16_in _ (by omega)
  have a0 : 0 ≤ a ∧ a < 32768 := by omega
  have l0 : 0 ≤ l ∧ l < 32768 := by omega
  have x0 : 0 ≤ x ∧ x < 32768 := by omega
  have y0 : 0 ≤ y ∧ y < 32768 := by omega
  have HA := Lib.hid a0
  have HLL := Lib.hid l0
  have HX := Lib.hid x0
  have HY := Lib.hid y0
  clear ha hl hx hy h0 h1 h2 h3 hL
  clear a0 l0 x0 y0
  go_enter Tryz.func8, Tryz.ntmps8
  go_wp2_with (fail)
  go_region
  all_goals
    clear t0 t1 t2 t3
    have B1 := Lib.hid ((Below.refl w.heap.size w).alloc (Nat.le_refl _) (.cells #[.int .u16 p0, .int .u16 p1, .int .u16 p2, .int .u16 p3] 64)).drew
    go_wp2_with (fail)
  refine (code_any _ 6 (by decide) (by decide) 100 (by decide) (by decide) 8292 (by rfl) _ (HL.out.below B1.out)).mono ?_
  rintro e w2 ⟨rfl, hb⟩
  have B2 := Lib.hid (B1.out.trans (hb.mono B1.out.size))
  clear hb B1
  go_wp2_with (fail)
  refine (at_any 8292 x y (by omega) (by have := HX.out; omega) (by have := HY.out; omega) _).mono ?_
  rintro e w3 ⟨g1, g2, rfl, hv, hg1, hg2, hg12, ha1, ha2, hb⟩
  rw [show Value.agg (rgList rAt).toArray = .agg #[.int .u16 0, .int .u16 0, .int .u16 0, .int .i64 2048, .int .i64 0, .int .i64 0, .int .i64 0, .bool false, .int .u16 0, .bool false, .int .u16 0, .bool false, .bool false] from rfl]
  have B3 := Lib.hid (B2.out.trans (hb.mono B2.out.size))
  have V3 := Lib.hid hv
  have AF := Lib.hid ha1
  have AE := Lib.hid ha2
  have HW3 := Lib.hid B3.out.size
  have L1 : g1 < w3.heap.size := ha1.lt.2
  have L2 : g2 < w3.heap.size := ha2.lt.2
  clear hb hv ha1 ha2 B2 hg1 hg2
  go_wp2_with (go_at_call 26; refine (Extend_any a HA.out.1 (by have := HA.out; omega) _).mono ?_; rintro er wE ⟨rfl, rfl⟩)
  obtain ⟨W1, W0, P, o, eW1, eW0, eP, eo, W10, W11, W00, W01, P0, P1, C0, C1, o0, o1, HSUM⟩ := das_sum a l x y HA.out.1 HA.out.2 HLL.out.1 HLL.out.2 HX.out.1 HX.out.2 HY.out.1 HY.out.2
  have eA := oExt_bd2 a HA.out.1 HA.out.2
  have KST := das_st (oExt a) l x y
  rw [eW1, eW0, eP] at KST
  have HF4 := Lib.hid (((FB.mk0 B3.out).alloc [.int .u16 (oExt a), .int .u16 l, .int .u16 0, .int .i64 2048, .int .i64 0, .int .i64 0, .int .i64 0, .bool false, .int .u16 0, .bool false, .int .u16 0, .bool false, .bool false] 26).alloc [.slice (some ⟨g2, 0, none⟩) 102 102, .slice (some ⟨g1, 0, none⟩) 2049 2049, .slice none 0 0] 29)
  refine (Step_das (oExt a) l x y eA HLL.out g1 g2 _ ((V3.out.alloc _).alloc _) (HL.out.below HF4.out.2)).mono ?_
  intro e w5 hp
  obtain ⟨A1, c1, A2, c2, A3, c3, rfl, k1, _, _, hb⟩ := hp.open_
  rw [KST.2.1] at k1
  rw [show Value.agg (rgList (sSt (rDas (oExt a) l) (vAt 8292 x y)).r).toArray = .agg #[.int .u16 P, .int .u16 0, .int .u16 0, .int .i64 2049, .int .i64 0, .int .i64 0, .int .i64 0, .bool false, .int .u16 0, .bool false, .int .u16 0, .bool false, .bool false] from by rw [KST.2.2]; rfl, KST.2.1, show ([(101, W1), (100, W0)] : List (Int × Int)).length = 2 from rfl]
  generalize (sSt (rDas (oExt a) l) (vAt 8292 x y)).outs.length = n2
  generalize (sSt (rDas (oExt a) l) (vAt 8292 x y)).reads.length = n3
  generalize (sSt (rDas (oExt a) l) (vAt 8292 x y)).cyc = cy1
  generalize (sSt (rDas (oExt a) l) (vAt 8292 x y)).op = op1
  obtain ⟨g3, rfl, e1, e2, e3, e4⟩ := k1.two
  have hg3 : g3 < w5.heap.size := lt_of_cell e1
  have HF5 := Lib.hid (HF4.out.call hb)
  have eo' := Lib.hid eo
  clear hp hb HF4 KST eW1 eW0 eP AF AE V3 B3 eo
  have bv : ∀ z : Int, -16383 ≤ oVal z ∧ oVal z ≤ 16383 := fun z => by unfold oVal; split <;> omega
  have KA := Lib.hid (fun w => Value_any a HA.out.1 (by have := HA.out; omega) w)
  have KL := Lib.hid (fun w => Value_any l HLL.out.1 (by have := HLL.out; omega) w)
  have KX := Lib.hid (fun w => Value_any x HX.out.1 (by have := HX.out; omega) w)
  have KY := Lib.hid (fun w => Value_any y HY.out.1 (by have := HY.out; omega) w)
  have KW0 := Lib.hid (fun w => Value_any W0 W00 (by omega) w)
  have KW1 := Lib.hid (fun w => Value_any W1 W10 (by omega) w)
  have KC := Lib.hid (fun w => Correct_any P P0 P1 w)
  have KO := Lib.hid (fun w => Value_any (oCorr P) C0 C1 w)
  rw [eo'.out] at KO
  have b1 := bv a
  have b2 := bv l
  have b3 := bv x
  have b4 := bv y
  have b5 := bv W0
  have b6 := bv W1
  clear bv
  generalize oVal a = va at *
  generalize oVal l = vl at *
  generalize oVal x = vx at *
  generalize oVal y = vy at *
  generalize oVal W0 = v0 at *
  generalize oVal W1 = v1 at *
  have hsum : 16384 * (va + vx) + vl + vy = 16384 * v0 + v1 + o * 268435456 := HSUM
  have HS := Lib.hid hsum
  clear hsum HSUM
  go_wp2_with (fail)
  refine (KA.out _).mono ?_
  rintro er wv ⟨rfl, rfl⟩
  go_wp2_with (fail)
  refine (KX.out _).mono ?_
  rintro er wv ⟨rfl, rfl⟩
  go_wp2_with (fail)
  refine (KL.out _).mono ?_
  rintro er wv ⟨rfl, rfl⟩
  go_wp2_with (fail)
  refine (KY.out _).mono ?_
  rintro er wv ⟨rfl, rfl⟩
  go_wp2_with (fail)
  have Q2 := below2 w5 (.cells #[.int .u16 P, .int .u16 0, .int .u16 0, .int .i64 2049, .int .i64 0, .int .i64 0, .int .i64 0, .bool false, .int .u16 0, .bool false, .int .u16 0, .bool false, .bool false] 26) (.cells #[.slice (some ⟨g3, 0, none⟩) 2 c1, .slice A2 n2 c2, .slice A3 n3 c3, .int .i64 cy1, .int .u8 op1] 48)
  have f2 := (Q2.cell (p := ⟨g3, 1, none⟩) hg3).trans e2
  have f4 := (Q2.cell (p := ⟨g3, 3, none⟩) hg3).trans e4
  have sza : ∀ (w : World) (o : Obj), (w.alloc o).heap.size = w.heap.size + 1 := fun w o => by simp
  have h6 := (HF5.out.alloc [.int .u16 P, .int .u16 0, .int .u16 0, .int .i64 2049, .int .i64 0, .int .i64 0, .int .i64 0, .bool false, .int .u16 0, .bool false, .int .u16 0, .bool false, .bool false] 26).alloc [.slice (some ⟨g3, 0, none⟩) 2 c1, .slice A2 n2 c2, .slice A3 n3 c3, .int .i64 cy1, .int .u8 op1] 48
  simp only [sza] at h6
  have hs5 : w3.heap.size + 1 < w5.heap.size := by have := HF5.out.lt 0 rfl; simp only [sza] at this; exact this
  clear Q2 e1 e2 e3 e4
  change Code.wp _ _ _ _ ((w5.alloc (.cells [.int .u16 P, .int .u16 0, .int .u16 0, .int .i64 2049, .int .i64 0, .int .i64 0, .int .i64 0, .bool false, .int .u16 0, .bool false, .int .u16 0, .bool false, .bool false].toArray 26)).alloc (.cells [.slice (some ⟨g3, 0, none⟩) 2 c1, .slice A2 n2 c2, .slice A3 n3 c3, .int .i64 cy1, .int .u8 op1].toArray 48))
  change ((w5.alloc (.cells [.int .u16 P, .int .u16 0, .int .u16 0, .int .i64 2049, .int .i64 0, .int .i64 0, .int .i64 0, .bool false, .int .u16 0, .bool false, .int .u16 0, .bool false, .bool false].toArray 26)).alloc (.cells [.slice (some ⟨g3, 0, none⟩) 2 c1, .slice A2 n2 c2, .slice A3 n3 c3, .int .i64 cy1, .int .u8 op1].toArray 48)).cell? _ = _ at f2
  change ((w5.alloc (.cells [.int .u16 P, .int .u16 0, .int .u16 0, .int .i64 2049, .int .i64 0, .int .i64 0, .int .i64 0, .bool false, .int .u16 0, .bool false, .int .u16 0, .bool false, .bool false].toArray 26)).alloc (.cells [.slice (some ⟨g3, 0, none⟩) 2 c1, .slice A2 n2 c2, .slice A3 n3 c3, .int .i64 cy1, .int .u8 op1].toArray 48)).cell? _ = _ at f4
  generalize ((w5.alloc (.cells [.int .u16 P, .int .u16 0, .int .u16 0, .int .i64 2049, .int .i64 0, .int .i64 0, .int .i64 0, .bool false, .int .u16 0, .bool false, .int .u16 0, .bool false, .bool false].toArray 26)).alloc (.cells [.slice (some ⟨g3, 0, none⟩) 2 c1, .slice A2 n2 c2, .slice A3 n3 c3, .int .i64 cy1, .int .u8 op1].toArray 48)) = U at f2 f4 h6 ⊢
  have HF6 := Lib.hid h6
  have d0 := (h6.blk 0 rfl).cell 0 _ rfl
  have p0' := (h6.blk 1 rfl).cell 0 _ rfl
  clear h6 HF5
  go_quiet (first
    | (go_at_call_of 27 (Value.int IntKind.u16 W0); exact quiet_left (KW0.out _))
    | (go_at_call_of 27 (Value.int IntKind.u16 W1); exact quiet_left (KW1.out _))
    | fail)
  clear d0 f2 f4
  go_wp2_with (fail)
  refine (KC.out _).mono ?_
  rintro er wv ⟨rfl, rfl⟩
  go_wp2_with (fail)
  refine (KO.out _).mono ?_
  rintro er wv ⟨rfl, rfl⟩
  have hne : ((16384 * (va + vx) + vl + vy) != (16384 * v0 + v1 + o * 268435456)) = false := by rw [HS.out]; simp
  go_wp2_with (fail)
  clear b1 b2 b3 b4 b5 b6 hne p0' KA KL KX KY KW0 KW1 KC KO HS eo'
  have HF7 := Lib.hid (HF6.out.drewN nq)
  refine (code_any _ 33 (by decide) (by decide) 100 (by decide) (by decide) 12388 (by rfl) _ (HL.out.below HF7.out.2)).mono ?_
  rintro e w6 ⟨rfl, hb⟩
  have HF8 := Lib.hid (HF7.out.call hb)
  clear hb HF6 HF7
  go_wp2_with (fail)
  refine (at_any 12388 x y (by omega) (by have := HX.out; omega) (by have := HY.out; omega) _).mono ?_
  rintro e w7 ⟨g5, g6, rfl, hv, hg5, hg6, hg56, ha5, ha6, hb⟩
  rw [show Value.agg (rgList rAt).toArray = .agg #[.int .u16 0, .int .u16 0, .int .u16 0, .int .i64 2048, .int .i64 0, .int .i64 0, .int .i64 0, .bool false, .int .u16 0, .bool false, .int .u16 0, .bool false, .bool false] from rfl]
  have hs6 : w5.heap.size + 1 < w6.heap.size := HF8.out.lt 0 rfl
  have HF9 := Lib.hid (HF8.out.call hb)
  have V7 := Lib.hid hv
  have AF := Lib.hid ha5
  have AE := Lib.hid ha6
  have RF := HF9.out.blk 3 rfl
  have VF := HF9.out.blk 2 rfl
  clear hb hv ha5 ha6 HF8
  have m0 := RF.cell 0 _ rfl; have m1 := RF.cell 1 _ rfl; have m2 := RF.cell 2 _ rfl; have m3 := RF.cell 3 _ rfl; have m4 := RF.cell 4 _ rfl; have m5 := RF.cell 5 _ rfl; have m6 := RF.cell 6 _ rfl; have m7 := RF.cell 7 _ rfl; have m8 := RF.cell 8 _ rfl; have m9 := RF.cell 9 _ rfl; have m10 := RF.cell 10 _ rfl; have m11 := RF.cell 11 _ rfl; have m12 := RF.cell 12 _ rfl; have n0 := RF.free 0 _ rfl; have n1 := RF.free 1 _ rfl; have n2 := RF.free 2 _ rfl; have n3 := RF.free 3 _ rfl; have n4 := RF.free 4 _ rfl; have n5 := RF.free 5 _ rfl; have n6 := RF.free 6 _ rfl; have n7 := RF.free 7 _ rfl; have n8 := RF.free 8 _ rfl; have n9 := RF.free 9 _ rfl; have n10 := RF.free 10 _ rfl; have n11 := RF.free 11 _ rfl; have n12 := RF.free 12 _ rfl; have q0 := VF.cell 0 _ rfl; have q1 := VF.cell 1 _ rfl; have q2 := VF.cell 2 _ rfl; have s0 := VF.free 0 _ rfl; have s1 := VF.free 1 _ rfl; have s2 := VF.free 2 _ rfl
  clear RF VF
  go_upto_region 13 with (fail)
  change Code.wp _ _ _ _ (setAll (setAll w7 w3.heap.size 0 (rgList rAt)) (w3.heap.size + 1) 0 [.slice (some ⟨g6, 0, none⟩) 102 102, .slice (some ⟨g5, 0, none⟩) 2049 2049, .slice none 0 0])
  clear m0 m1 m2 m3 m4 m5 m6 m7 m8 m9 m10 m11 m12 n0 n1 n2 n3 n4 n5 n6 n7 n8 n9 n10 n11 n12 q0 q1 q2 s0 s1 s2
  have hw3 : w.heap.size ≤ w3.heap.size := HW3.out
  have h9a := HF9.out.overAt 3 (l' := rgList rAt) rfl (fun j g' m hj e => by
    rcases j with _ | _ | _ | _ | j <;> simp at e <;> omega) hw3 rfl
  have h9b := h9a.overAt 2 (l' := [.slice (some ⟨g6, 0, none⟩) 102 102, .slice (some ⟨g5, 0, none⟩) 2049 2049, .slice none 0 0]) rfl (fun j g' m hj e => by
    rcases j with _ | _ | _ | _ | j <;> simp at e <;> omega) (by omega) rfl
  have F1 := Arr.setAll_other (show g5 ≠ w3.heap.size + 1 by omega) [.slice (some ⟨g6, 0, none⟩) 102 102, .slice (some ⟨g5, 0, none⟩) 2049 2049, .slice none 0 0] _ 0 (Arr.setAll_other (show g5 ≠ w3.heap.size by omega) (rgList rAt) _ 0 AF.out)
  have F2 := Arr.setAll_other (show g6 ≠ w3.heap.size + 1 by omega) [.slice (some ⟨g6, 0, none⟩) 102 102, .slice (some ⟨g5, 0, none⟩) 2049 2049, .slice none 0 0] _ 0 (Arr.setAll_other (show g6 ≠ w3.heap.size by omega) (rgList rAt) _ 0 AE.out)
  clear h9a AF AE HF9
  generalize setAll (setAll w7 w3.heap.size 0 (rgList rAt)) (w3.heap.size + 1) 0 [.slice (some ⟨g6, 0, none⟩) 102 102, .slice (some ⟨g5, 0, none⟩) 2049 2049, .slice none 0 0] = U2 at h9b F1 F2 ⊢
  change FB w [(w5.heap.size + 1, [.slice (some ⟨g3, 0, none⟩) 2 c1, .slice A2 n2 c2, .slice A3 n3 c3, .int .i64 cy1, .int .u8 op1]), (w5.heap.size, [.int .u16 P, .int .u16 0, .int .u16 0, .int .i64 2049, .int .i64 0, .int .i64 0, .int .i64 0, .bool false, .int .u16 0, .bool false, .int .u16 0, .bool false, .bool false]), (w3.heap.size + 1, [.slice (some ⟨g6, 0, none⟩) 102 102, .slice (some ⟨g5, 0, none⟩) 2049 2049, .slice none 0 0]), (w3.heap.size, rgList rAt)] U2 at h9b
  have HFA := Lib.hid h9b
  have G1 := Lib.hid (F1.other (p := ⟨w3.heap.size, 7, none⟩) (show g5 ≠ w3.heap.size by omega) (.bool true))
  have G2 := Lib.hid (F2.other (p := ⟨w3.heap.size, 7, none⟩) (show g6 ≠ w3.heap.size by omega) (.bool true))
  have RF := h9b.blk 3 rfl
  have m7 := RF.cell 7 _ rfl
  have n7 := RF.free 7 _ rfl
  clear RF h9b F1 F2
  go_upto_region 14 with (fail)
  change Code.wp _ _ _ _ (U2.setCell ⟨w3.heap.size, 7, none⟩ (.bool true))
  clear m7 n7
  have hA := HFA.out.setAt 3 rfl (fun j g' m hj e => by
    rcases j with _ | _ | _ | _ | j <;> simp at e <;> omega) hw3 7 (by decide) (.bool true)
  have g1 := G1.out
  have g2 := G2.out
  change FB w [(w5.heap.size + 1, [.slice (some ⟨g3, 0, none⟩) 2 c1, .slice A2 n2 c2, .slice A3 n3 c3, .int .i64 cy1, .int .u8 op1]), (w5.heap.size, [.int .u16 P, .int .u16 0, .int .u16 0, .int .i64 2049, .int .i64 0, .int .i64 0, .int .i64 0, .bool false, .int .u16 0, .bool false, .int .u16 0, .bool false, .bool false]), (w3.heap.size + 1, [.slice (some ⟨g6, 0, none⟩) 102 102, .slice (some ⟨g5, 0, none⟩) 2049 2049, .slice none 0 0]), (w3.heap.size, [.int .u16 0, .int .u16 0, .int .u16 0, .int .i64 2048, .int .i64 0, .int .i64 0, .int .i64 0, .bool true, .int .u16 0, .bool false, .int .u16 0, .bool false, .bool false])] _ at hA
  clear G1 G2 HFA
  generalize U2.setCell ⟨w3.heap.size, 7, none⟩ (.bool true) = U3 at hA g1 g2 ⊢
  have HFB := Lib.hid hA
  have VU : VwAt U3 (vAt 12388 x y) (some ⟨g6, 0, none⟩) (some ⟨g5, 0, none⟩) none := { V7.out with e := g2.row, f := g1.row, c := fun i hi => absurd hi (Nat.not_lt_zero _) }
  have HVU := Lib.hid VU
  have RF := hA.blk 3 rfl
  have VF := hA.blk 2 rfl
  clear VU hA g1 g2 V7
  have m0 := RF.cell 0 _ rfl; have m1 := RF.cell 1 _ rfl; have m2 := RF.cell 2 _ rfl; have m3 := RF.cell 3 _ rfl; have m4 := RF.cell 4 _ rfl; have m5 := RF.cell 5 _ rfl; have m6 := RF.cell 6 _ rfl; have m7 := RF.cell 7 _ rfl; have m8 := RF.cell 8 _ rfl; have m9 := RF.cell 9 _ rfl; have m10 := RF.cell 10 _ rfl; have m11 := RF.cell 11 _ rfl; have m12 := RF.cell 12 _ rfl; have q0 := VF.cell 0 _ rfl; have q1 := VF.cell 1 _ rfl; have q2 := VF.cell 2 _ rfl
  clear RF VF
  go_wp2_with (fail)
  clear m0 m1 m2 m3 m4 m5 m6 m7 m8 m9 m10 m11 m12 q0 q1 q2
  refine (Step_ex 12388 x y (dca_st x y).1 g5 g6 _ HVU.out (HL.out.below HFB.out.2)).mono ?_
  intro e w8 hp
  obtain ⟨A4, c4, A5, c5, A6, c6, rfl, _, _, _, hb⟩ := hp.open_
  have eX := oExt_bd2 x HX.out.1 HX.out.2
  rw [show Value.agg (rgList (sSt rEx (vAt 12388 x y)).r).toArray = .agg #[.int .u16 (oExt x), .int .u16 y, .int .u16 0, .int .i64 2049, .int .i64 0, .int .i64 0, .int .i64 0, .bool false, .int .u16 0, .bool false, .int .u16 0, .bool false, .bool false] from by rw [(dca_st x y).2, show x % 32768 = x by have := HX.out; omega, show oCorr (oExt (y % 32768)) = y by have := HY.out; rw [show y % 32768 = y by omega]; unfold oCorr oExt; split <;> omega]; rfl]
  generalize (sSt rEx (vAt 12388 x y)).cells.length = n4
  generalize (sSt rEx (vAt 12388 x y)).outs.length = n5
  generalize (sSt rEx (vAt 12388 x y)).reads.length = n6
  generalize (sSt rEx (vAt 12388 x y)).cyc = cy2
  generalize (sSt rEx (vAt 12388 x y)).op = op2
  have HFC := Lib.hid (HFB.out.call hb)
  clear hp hb HVU HFB
  have PF := HFC.out.blk 1 rfl
  have m0 := PF.cell 0 _ rfl; have m1 := PF.cell 1 _ rfl; have m2 := PF.cell 2 _ rfl; have m3 := PF.cell 3 _ rfl; have m4 := PF.cell 4 _ rfl; have m5 := PF.cell 5 _ rfl; have m6 := PF.cell 6 _ rfl; have m7 := PF.cell 7 _ rfl; have m8 := PF.cell 8 _ rfl; have m9 := PF.cell 9 _ rfl; have m10 := PF.cell 10 _ rfl; have m11 := PF.cell 11 _ rfl; have m12 := PF.cell 12 _ rfl; have n0 := PF.free 0 _ rfl; have n1 := PF.free 1 _ rfl; have n2 := PF.free 2 _ rfl; have n3 := PF.free 3 _ rfl; have n4 := PF.free 4 _ rfl; have n5 := PF.free 5 _ rfl; have n6 := PF.free 6 _ rfl; have n7 := PF.free 7 _ rfl; have n8 := PF.free 8 _ rfl; have n9 := PF.free 9 _ rfl; have n10 := PF.free 10 _ rfl; have n11 := PF.free 11 _ rfl; have n12 := PF.free 12 _ rfl
  clear PF
  go_upto_region 15 with (fail)
  change Code.wp _ _ _ _ (setAll w8 w5.heap.size 0 [.int .u16 (oExt x), .int .u16 y, .int .u16 0, .int .i64 2049, .int .i64 0, .int .i64 0, .int .i64 0, .bool false, .int .u16 0, .bool false, .int .u16 0, .bool false, .bool false])
  clear m0 m1 m2 m3 m4 m5 m6 m7 m8 m9 m10 m11 m12 n0 n1 n2 n3 n4 n5 n6 n7 n8 n9 n10 n11 n12
  have h5 := HFC.out.overAt 1 (l' := [.int .u16 (oExt x), .int .u16 y, .int .u16 0, .int .i64 2049, .int .i64 0, .int .i64 0, .int .i64 0, .bool false, .int .u16 0, .bool false, .int .u16 0, .bool false, .bool false]) rfl (fun j g' m hj e => by
    rcases j with _ | _ | _ | _ | j <;> simp at e <;> omega) (by omega) rfl
  change FB w [(w5.heap.size + 1, [.slice (some ⟨g3, 0, none⟩) 2 c1, .slice A2 n2 c2, .slice A3 n3 c3, .int .i64 cy1, .int .u8 op1]), (w5.heap.size, [.int .u16 (oExt x), .int .u16 y, .int .u16 0, .int .i64 2049, .int .i64 0, .int .i64 0, .int .i64 0, .bool false, .int .u16 0, .bool false, .int .u16 0, .bool false, .bool false]), (w3.heap.size + 1, [.slice (some ⟨g6, 0, none⟩) 102 102, .slice (some ⟨g5, 0, none⟩) 2049 2049, .slice none 0 0]), (w3.heap.size, [.int .u16 0, .int .u16 0, .int .u16 0, .int .i64 2048, .int .i64 0, .int .i64 0, .int .i64 0, .bool true, .int .u16 0, .bool false, .int .u16 0, .bool false, .bool false])] _ at h5
  clear HFC
  generalize setAll w8 w5.heap.size 0 [.int .u16 (oExt x), .int .u16 y, .int .u16 0, .int .i64 2049, .int .i64 0, .int .i64 0, .int .i64 0, .bool false, .int .u16 0, .bool false, .int .u16 0, .bool false, .bool false] = U4 at h5 ⊢
  have HFD := Lib.hid h5
  clear h5
  go_wp2_with (fail)
  refine (code_any _ 34 (by decide) (by decide) 100 (by decide) (by decide) 16484 (by rfl) _ (HL.out.below HFD.out.2)).mono ?_
  rintro e w9 ⟨rfl, hb⟩
  have HFE := Lib.hid (HFD.out.call hb)
  clear hb HFD
  go_wp2_with (fail)
  refine (at_any 16484 x y (by omega) (by have := HX.out; omega) (by have := HY.out; omega) _).mono ?_
  rintro e w10 ⟨g7, g8, rfl, hv, hg7, hg8, hg78, ha7, ha8, hb⟩
  rw [show Value.agg (rgList rAt).toArray = .agg #[.int .u16 0, .int .u16 0, .int .u16 0, .int .i64 2048, .int .i64 0, .int .i64 0, .int .i64 0, .bool false, .int .u16 0, .bool false, .int .u16 0, .bool false, .bool false] from rfl]
  have hs9 : w5.heap.size + 1 < w9.heap.size := HFE.out.lt 0 rfl
  have HF9 := Lib.hid (HFE.out.call hb)
  have V7 := Lib.hid hv
  have AF := Lib.hid ha7
  have AE := Lib.hid ha8
  have RF := HF9.out.blk 3 rfl
  have VF := HF9.out.blk 2 rfl
  clear hb hv ha7 ha8 HFE
  have m0 := RF.cell 0 _ rfl; have m1 := RF.cell 1 _ rfl; have m2 := RF.cell 2 _ rfl; have m3 := RF.cell 3 _ rfl; have m4 := RF.cell 4 _ rfl; have m5 := RF.cell 5 _ rfl; have m6 := RF.cell 6 _ rfl; have m7 := RF.cell 7 _ rfl; have m8 := RF.cell 8 _ rfl; have m9 := RF.cell 9 _ rfl; have m10 := RF.cell 10 _ rfl; have m11 := RF.cell 11 _ rfl; have m12 := RF.cell 12 _ rfl; have n0 := RF.free 0 _ rfl; have n1 := RF.free 1 _ rfl; have n2 := RF.free 2 _ rfl; have n3 := RF.free 3 _ rfl; have n4 := RF.free 4 _ rfl; have n5 := RF.free 5 _ rfl; have n6 := RF.free 6 _ rfl; have n7 := RF.free 7 _ rfl; have n8 := RF.free 8 _ rfl; have n9 := RF.free 9 _ rfl; have n10 := RF.free 10 _ rfl; have n11 := RF.free 11 _ rfl; have n12 := RF.free 12 _ rfl; have q0 := VF.cell 0 _ rfl; have q1 := VF.cell 1 _ rfl; have q2 := VF.cell 2 _ rfl; have s0 := VF.free 0 _ rfl; have s1 := VF.free 1 _ rfl; have s2 := VF.free 2 _ rfl
  clear RF VF
  go_upto_region 16 with (fail)
  change Code.wp _ _ _ _ (setAll (setAll w10 w3.heap.size 0 (rgList rAt)) (w3.heap.size + 1) 0 [.slice (some ⟨g8, 0, none⟩) 102 102, .slice (some ⟨g7, 0, none⟩) 2049 2049, .slice none 0 0])
  clear m0 m1 m2 m3 m4 m5 m6 m7 m8 m9 m10 m11 m12 n0 n1 n2 n3 n4 n5 n6 n7 n8 n9 n10 n11 n12 q0 q1 q2 s0 s1 s2
  have h9a := HF9.out.overAt 3 (l' := rgList rAt) rfl (fun j g' m hj e => by
    rcases j with _ | _ | _ | _ | j <;> simp at e <;> omega) hw3 rfl
  have h9b := h9a.overAt 2 (l' := [.slice (some ⟨g8, 0, none⟩) 102 102, .slice (some ⟨g7, 0, none⟩) 2049 2049, .slice none 0 0]) rfl (fun j g' m hj e => by
    rcases j with _ | _ | _ | _ | j <;> simp at e <;> omega) (by omega) rfl
  have F1 := Arr.setAll_other (show g7 ≠ w3.heap.size + 1 by omega) [.slice (some ⟨g8, 0, none⟩) 102 102, .slice (some ⟨g7, 0, none⟩) 2049 2049, .slice none 0 0] _ 0 (Arr.setAll_other (show g7 ≠ w3.heap.size by omega) (rgList rAt) _ 0 AF.out)
  have F2 := Arr.setAll_other (show g8 ≠ w3.heap.size + 1 by omega) [.slice (some ⟨g8, 0, none⟩) 102 102, .slice (some ⟨g7, 0, none⟩) 2049 2049, .slice none 0 0] _ 0 (Arr.setAll_other (show g8 ≠ w3.heap.size by omega) (rgList rAt) _ 0 AE.out)
  clear h9a AF AE HF9
  generalize setAll (setAll w10 w3.heap.size 0 (rgList rAt)) (w3.heap.size + 1) 0 [.slice (some ⟨g8, 0, none⟩) 102 102, .slice (some ⟨g7, 0, none⟩) 2049 2049, .slice none 0 0] = U5 at h9b F1 F2 ⊢
  change FB w [(w5.heap.size + 1, [.slice (some ⟨g3, 0, none⟩) 2 c1, .slice A2 n2 c2, .slice A3 n3 c3, .int .i64 cy1, .int .u8 op1]), (w5.heap.size, [.int .u16 (oExt x), .int .u16 y, .int .u16 0, .int .i64 2049, .int .i64 0, .int .i64 0, .int .i64 0, .bool false, .int .u16 0, .bool false, .int .u16 0, .bool false, .bool false]), (w3.heap.size + 1, [.slice (some ⟨g8, 0, none⟩) 102 102, .slice (some ⟨g7, 0, none⟩) 2049 2049, .slice none 0 0]), (w3.heap.size, rgList rAt)] U5 at h9b
  have HFA := Lib.hid h9b
  have G1 := Lib.hid (F1.other (p := ⟨w3.heap.size, 7, none⟩) (show g7 ≠ w3.heap.size by omega) (.bool true))
  have G2 := Lib.hid (F2.other (p := ⟨w3.heap.size, 7, none⟩) (show g8 ≠ w3.heap.size by omega) (.bool true))
  have RF := h9b.blk 3 rfl
  have m7 := RF.cell 7 _ rfl
  have n7 := RF.free 7 _ rfl
  clear RF h9b F1 F2
  go_upto_region 17 with (fail)
  change Code.wp _ _ _ _ (U5.setCell ⟨w3.heap.size, 7, none⟩ (.bool true))
  clear m7 n7
  have hA := HFA.out.setAt 3 rfl (fun j g' m hj e => by
    rcases j with _ | _ | _ | _ | j <;> simp at e <;> omega) hw3 7 (by decide) (.bool true)
  have g1 := G1.out
  have g2 := G2.out
  change FB w [(w5.heap.size + 1, [.slice (some ⟨g3, 0, none⟩) 2 c1, .slice A2 n2 c2, .slice A3 n3 c3, .int .i64 cy1, .int .u8 op1]), (w5.heap.size, [.int .u16 (oExt x), .int .u16 y, .int .u16 0, .int .i64 2049, .int .i64 0, .int .i64 0, .int .i64 0, .bool false, .int .u16 0, .bool false, .int .u16 0, .bool false, .bool false]), (w3.heap.size + 1, [.slice (some ⟨g8, 0, none⟩) 102 102, .slice (some ⟨g7, 0, none⟩) 2049 2049, .slice none 0 0]), (w3.heap.size, [.int .u16 0, .int .u16 0, .int .u16 0, .int .i64 2048, .int .i64 0, .int .i64 0, .int .i64 0, .bool true, .int .u16 0, .bool false, .int .u16 0, .bool false, .bool false])] _ at hA
  clear G1 G2 HFA
  generalize U5.setCell ⟨w3.heap.size, 7, none⟩ (.bool true) = U6 at hA g1 g2 ⊢
  have HFB := Lib.hid hA
  have VU : VwAt U6 (vAt 16484 x y) (some ⟨g8, 0, none⟩) (some ⟨g7, 0, none⟩) none := { V7.out with e := g2.row, f := g1.row, c := fun i hi => absurd hi (Nat.not_lt_zero _) }
  have HVU := Lib.hid VU
  have RF := hA.blk 3 rfl
  have VF := hA.blk 2 rfl
  clear VU hA g1 g2 V7
  have m0 := RF.cell 0 _ rfl; have m1 := RF.cell 1 _ rfl; have m2 := RF.cell 2 _ rfl; have m3 := RF.cell 3 _ rfl; have m4 := RF.cell 4 _ rfl; have m5 := RF.cell 5 _ rfl; have m6 := RF.cell 6 _ rfl; have m7 := RF.cell 7 _ rfl; have m8 := RF.cell 8 _ rfl; have m9 := RF.cell 9 _ rfl; have m10 := RF.cell 10 _ rfl; have m11 := RF.cell 11 _ rfl; have m12 := RF.cell 12 _ rfl; have q0 := VF.cell 0 _ rfl; have q1 := VF.cell 1 _ rfl; have q2 := VF.cell 2 _ rfl
  clear RF VF
  go_wp2_with (fail)
  clear m0 m1 m2 m3 m4 m5 m6 m7 m8 m9 m10 m11 m12 q0 q1 q2
  refine (Step_ex 16484 x y (dcs_st x y).1 g7 g8 _ HVU.out (HL.out.below HFB.out.2)).mono ?_
  intro e w11 hp
  obtain ⟨A7, c7, A8, c8, A9, c9, rfl, _, _, _, hb⟩ := hp.open_
  rw [show Value.agg (rgList (sSt rEx (vAt 16484 x y)).r).toArray = .agg #[.int .u16 (65535 - oExt x), .int .u16 (32767 - y % 32768), .int .u16 0, .int .i64 2049, .int .i64 0, .int .i64 0, .int .i64 0, .bool false, .int .u16 0, .bool false, .int .u16 0, .bool false, .bool false] from by rw [(dcs_st x y).2, show x % 32768 = x by have := HX.out; omega, show oNg (oCorr (oExt (y % 32768))) = 32767 - y % 32768 by have := HY.out; rw [show y % 32768 = y by omega, show oCorr (oExt y) = y by unfold oCorr oExt; split <;> omega]; unfold oNg; omega]; rfl]
  generalize (sSt rEx (vAt 16484 x y)).cells.length = n7
  generalize (sSt rEx (vAt 16484 x y)).outs.length = n8
  generalize (sSt rEx (vAt 16484 x y)).reads.length = n9
  generalize (sSt rEx (vAt 16484 x y)).cyc = cy3
  generalize (sSt rEx (vAt 16484 x y)).op = op3
  have HFC := Lib.hid (HFB.out.call hb)
  have hs11 : w5.heap.size + 1 < w11.heap.size := HFC.out.lt 0 rfl
  clear hp hb HVU HFB
  have PF := HFC.out.blk 1 rfl
  have pA := PF.cell 0 _ rfl
  have pL := PF.cell 1 _ rfl
  have pE := PF.cell 7 _ rfl
  clear PF
  have KE := Lib.hid (fun w => Extend_any x HX.out.1 (by have := HX.out; omega) w)
  go_wp2_with (fail)
  clear pA pL pE
  have h6 := (HFC.out.alloc [.int .u16 (65535 - oExt x), .int .u16 (32767 - y % 32768), .int .u16 0, .int .i64 2049, .int .i64 0, .int .i64 0, .int .i64 0, .bool false, .int .u16 0, .bool false, .int .u16 0, .bool false, .bool false] 26).alloc [.slice A7 n7 c7, .slice A8 n8 c8, .slice A9 n9 c9, .int .i64 cy3, .int .u8 op3] 48
  simp only [sza] at h6
  change Code.wp _ _ _ _ ((w11.alloc (.cells [.int .u16 (65535 - oExt x), .int .u16 (32767 - y % 32768), .int .u16 0, .int .i64 2049, .int .i64 0, .int .i64 0, .int .i64 0, .bool false, .int .u16 0, .bool false, .int .u16 0, .bool false, .bool false].toArray 26)).alloc (.cells [.slice A7 n7 c7, .slice A8 n8 c8, .slice A9 n9 c9, .int .i64 cy3, .int .u8 op3].toArray 48))
  generalize ((w11.alloc (.cells [.int .u16 (65535 - oExt x), .int .u16 (32767 - y % 32768), .int .u16 0, .int .i64 2049, .int .i64 0, .int .i64 0, .int .i64 0, .bool false, .int .u16 0, .bool false, .int .u16 0, .bool false, .bool false].toArray 26)).alloc (.cells [.slice A7 n7 c7, .slice A8 n8 c8, .slice A9 n9 c9, .int .i64 cy3, .int .u8 op3].toArray 48)) = U7 at h6 ⊢
  have pA := (h6.blk 3 rfl).cell 0 _ rfl
  have pL := (h6.blk 3 rfl).cell 1 _ rfl
  have pE := (h6.blk 3 rfl).cell 7 _ rfl
  have qA := (h6.blk 1 rfl).cell 0 _ rfl
  have qL := (h6.blk 1 rfl).cell 1 _ rfl
  have HFG := Lib.hid h6
  clear h6 HFC
  have KN := Lib.hid (fun w => NegAcc_any (oExt x) (oExt_bd2 x HX.out.1 HX.out.2).1 (oExt_bd2 x HX.out.1 HX.out.2).2 w)
  have KG := Lib.hid (fun w => Neg_any y HY.out.1 (by have := HY.out; omega) w)
  have eX := oExt_bd2 x HX.out.1 HX.out.2
  generalize oExt x = ex at *
  have hyy : y % 32768 = y := by have := HY.out; omega
  rw [hyy] at KG qL HFG
  clear hyy
  obtain ⟨yn, hyn⟩ : ∃ z, 32767 - y = z := ⟨_, rfl⟩
  obtain ⟨xn, hxn⟩ : ∃ z, 65535 - ex = z := ⟨_, rfl⟩
  rw [hyn] at KG qL HFG
  rw [hxn] at KN qA HFG
  clear hyn hxn
  go_region_held3 (fun w' => w'.cell? ⟨w5.heap.size, 0, none⟩ = some (.int .u16 ex) ∧ w'.cell? ⟨w5.heap.size, 1, none⟩ = some (.int .u16 y) ∧ w'.cell? ⟨w5.heap.size, 7, none⟩ = some (.bool false) ∧ w'.cell? ⟨w11.heap.size, 0, none⟩ = some (.int .u16 xn) ∧ w'.cell? ⟨w11.heap.size, 1, none⟩ = some (.int .u16 yn))
    (first
      | with_reducible exact ⟨pA, pL, pE, qA, qL⟩
      | exact ⟨pA, pL, pE, qA, qL⟩
      | exact ⟨p1', p2', p3', q1', q2'⟩)
    (first
      | (go_at_call 26; refine (KE.out _).mono ?_; rintro er wv ⟨rfl, rfl⟩)
      | (go_at_call 29; refine (KN.out _).mono ?_; rintro er wv ⟨rfl, rfl⟩)
      | (go_at_call 30; refine (KG.out _).mono ?_; rintro er wv ⟨rfl, rfl⟩)
      | (go_at_call 18; refine (works5_any _ ?_).mono ?_; exact HL.out.below (HFG.out.drew).2; rintro er w12 ⟨rfl, hb⟩; (have hb' : Below U7.heap.size U7 w12 := by first | exact hb | exact from_drew hb | exact from_drewN hb); (have HFH := Lib.hid (HFG.out.call hb')); (have p1' := (HFH.out.blk 3 rfl).cell 0 _ rfl); (have p2' := (HFH.out.blk 3 rfl).cell 1 _ rfl); (have p3' := (HFH.out.blk 3 rfl).cell 7 _ rfl); (have q1' := (HFH.out.blk 1 rfl).cell 0 _ rfl); (have q2' := (HFH.out.blk 1 rfl).cell 1 _ rfl); clear hb hb')
      | fail)
  all_goals
    clear pA pL pE qA qL p1' p2' p3' q1' q2'
    go_wp2_with (fail)
    go_ret
    exact ⟨rfl, HFH.out.2⟩
theorem cpuDoubles_walk (p0 p1 p2 p3 : Int) (w0 : (Lit.int .u16 p0).wf = true) (w1 : (Lit.int .u16 p1).wf = true) (w2 : (Lit.int .u16 p2).wf = true) (w3 : (Lit.int .u16 p3).wf = true) (w : World) (hL : Lay w) :
    Calls Tryz.prog 8 #[.agg #[.int .u16 p0, .int .u16 p1, .int .u16 p2, .int .u16 p3]] w fun e w' => e = .returned (.bool true) ∧ Below w.heap.size w w' :=
  cpuDoubles_core p0 p1 p2 p3 _ _ _ _ rfl rfl rfl rfl (bounds_u16 w0).1 (bounds_u16 w1).1 (bounds_u16 w2).1 (bounds_u16 w3).1 w hL
end Go.Proofs.YtjjkikghfmnikaaGreatDoor
