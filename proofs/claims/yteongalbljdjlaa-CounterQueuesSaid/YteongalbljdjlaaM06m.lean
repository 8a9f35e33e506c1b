/- Contracts of layer 6: the reference's Serve where it answers. -/
import Derived.Test.YteongalbljdjlaaM06l
import Derived.Test.YteongalbljdjlaaM06h
set_option linter.unusedSimpArgs false
set_option linter.unusedVariables false
set_option maxRecDepth 100000
namespace Go.Proofs.Yteongalbljdjlaa
open Go.ChangeShapes Go.WideShapes Go.ChangeAt Go.RowKit
set_option maxHeartbeats 4000000 in
theorem rServe_yes (A : Option Addr) (n c : Nat) (M : List (Int × Int)) (hM : M.length = n) (hn : n ≤ 50000) (h0 : 0 < n) (hc : n ≤ c) (B : Option Addr) (m d : Nat) (h : Nat → Int) (w : World) (hp : PlsL w A M) (hr : Row .u16 w B m h) (q : Nat) (hq : nx (fun i => (M.getD i (0, 0)).1) n = q) (k : Nat) (hk : k < m) (hfk : (M.getD q (0, 0)).1 = k) (x : Int) (hx : h k = x) (x0 : 0 ≤ x ∧ x < 65536) (g : Int) (hg : (M.getD q (0, 0)).2 = g) (hg7 : 1 ≤ g ∧ g ≤ 7) (X S : Int) (hXX : pW (x % 32768) g = X) (hSS : pS (x % 32768) g = S) :
    Calls Try.prog 13 #[.slice A n c, .slice B m d] w (SvRet (without M q) k X S w) := by
  have hql : q < n := by rw [← hq]; exact nx_lt _ n h0
  have HN := Lib.hid (fun w (hp : PlsL w A M) => rNext_any A n c (fun i => (M.getD i (0, 0)).1) (fun i => (M.getD i (0, 0)).2) (by omega) w (by rw [← hM]; exact hp))
  rw [hq, show decide (0 < n) = true by simp [h0]] at HN
  have HP := Lib.hid hp
  have HR := Lib.hid hr
  have HM := Lib.hid hM
  clear hp hr hq
  obtain ⟨a, rfl, _⟩ := HP.out q (by rw [HM.out]; exact hql)
  obtain ⟨b, rfl, _⟩ := HR.out k hk
  have Z := Lib.hid (Blk.new w 37 [.int .i64 0, .int .u16 0] _ rfl)
  have HF := Lib.hid hfk
  have HX := Lib.hid hx
  have HG := Lib.hid hg
  have HPE := Lib.hid (show pE g = 0 by unfold pE; rw [if_pos hg7])
  have HXX := Lib.hid hXX
  have HSS := Lib.hid hSS
  clear hfk hx hg hM hXX hSS
  go_enter Try.func13, Try.ntmps13
  go_wp2_with (fail)
  refine (HN.out _ (HP.out.below ((Below.refl _ _).alloc (Nat.le_refl _) _) (Nat.le_refl _))).mono ?_
  rintro e w1 ⟨rfl, hb⟩
  have Z1 := Z.out.below hb (by simp)
  have X1 := Lib.hid (((Below.refl w.heap.size w).alloc (Nat.le_refl _) _).trans (hb.mono (by simp)))
  have P1 := HP.out.below X1.out (Nat.le_refl _)
  obtain ⟨d1, d2⟩ := Pls.at_ P1 (i := q) (by rw [HM.out]; exact hql)
  rw [HF.out] at d1
  rw [HG.out] at d2
  have d3 := ((HR.out.below X1.out (Nat.le_refl _)).at_ hk)
  rw [HX.out] at d3
  clear hb Z HN P1
  have Y1 := Lib.hid Z1
  have hz : w.heap.size < w1.heap.size := lt_of_cell (Z1.cell 0 _ rfl)
  have D3 := Lib.hid (((HR.out.below X1.out (Nat.le_refl _)).below ((Below.refl _ _).alloc (Nat.le_refl _) (.cells #[.int .i64 k, .int .u8 g] 25)) (Nat.le_refl _)).at_ hk)
  rw [HX.out] at D3
  clear Z1
  go_wp2_with (fail)
  have d4 := D3.out
  go_region_with (go_at_call 20; refine (rApply_anyB x g x0.1 x0.2 _).mono ?_; rintro e w2 ⟨rfl, hb2⟩; (have HB2 := Lib.hid hb2); clear hb2)
  all_goals
    rw [HPE.out, HXX.out, HSS.out]
    have hb3 := HB2.out
    replace hb3 := from_drew hb3
    have X2 := Lib.hid ((X1.out.alloc (by omega) (.cells #[.int .i64 k, .int .u8 g] 25)).trans (hb3.mono (by simp; omega)))
    have Y2 := Lib.hid ((Y1.out.alloc hz (.cells #[.int .i64 k, .int .u8 g] 25)).below hb3 (by simp; omega))
    have hz2 : w.heap.size < w2.heap.size ∧ w1.heap.size < w2.heap.size := by have := hb3.size; simp at this; omega
    have PB := Lib.hid ((Blk.new w1 25 [.int .i64 k, .int .u8 g] _ rfl).below hb3 (by simp))
    clear d4 D3 hb3 HB2
    have hqc : q ≤ c := by omega
    have hq1 : q + 1 ≤ n := by omega
    have hq2 : q + 1 ≤ c := by omega
    have ew : IntKind.i64.wrap ((q : Int) + 1) = ((q + 1 : Nat) : Int) := by rw [IntKind.wrap_i64]; omega
    have hq3 : ((q + 1 : Nat) : Int) ≤ n := by omega
    have hq5 : (0 : Int) ≤ (q : Int) + 1 := by omega
    have hq6 : (q : Int) + 1 ≤ n := by omega
    have hq4 : (0 : Int) ≤ ((q + 1 : Nat) : Int) := by omega
    have PT := Lib.hid ((HP.out.below X2.out (Nat.le_refl _)).take q)
    have PD := Lib.hid (dropQ (HP.out.below X2.out (Nat.le_refl _)) (q + 1) c (by rw [HM.out]; omega))
    have L1 := Lib.hid (show (M.take q).length = q by rw [List.length_take, HM.out]; omega)
    have L2 := Lib.hid (show (M.drop (q + 1)).length = n - (q + 1) by rw [List.length_drop, HM.out])
    have tokA : True := trivial
    go_wp2_with (first
      | (have _t := tokA; clear _t tokA; at_builtin; refine wp_appQ rfl _ _ _ rfl 25 _ 16 Try.underlying22 info_pulse rfl w2 w2.heap.size _ (some a) q c [] (M.take q) L1.out (OwnP.nil _ _ _ _ _) PT.out (fun h => by cases h) rfl rfl (by simp; omega) (Below.refl _ _) (Nat.le_refl _) ?_; intro v3 w3 ho3 hb3 _ _; (obtain ⟨A3, n3, c3, rfl⟩ := ho3.shape); (have HO3 := Lib.hid (show OwnP .i64 .u8 25 w3 w2.heap.size _ (M.take q) from ho3)); (have HB3 := Lib.hid hb3); clear ho3 hb3)
      | (at_builtin; refine wp_appQ rfl _ _ _ rfl 25 _ 16 Try.underlying22 info_pulse rfl w2 w2.heap.size _ (if c = q + 1 then some a else some (a.add ((q + 1) * 2))) (n - (q + 1)) (c - (q + 1)) (M.take q) (M.drop (q + 1)) L2.out HO3.out (PD.out.below HB3.out (Nat.le_refl _)) (fun h => by split at h <;> cases h) rfl rfl (by rw [L1.out]; omega) HB3.out HB3.out.size ?_; intro v4 w4 ho4 hb4 _ _; (obtain ⟨A4, n4, c4, rfl⟩ := ho4.shape); (have HO4 := Lib.hid ho4); (have HB4 := Lib.hid hb4); (have Z4 := Y2.out.below hb4 (by omega)); (have Q4 := PB.out.below hb4 (by omega)); clear ho4 hb4; have c0 := Z4.cell 0 _ rfl; have c1 := Z4.cell 1 _ rfl; have e0 := Z4.free 0 _ rfl; have e1 := Z4.free 1 _ rfl; have p0 := Q4.cell 0 _ rfl; have p1 := Q4.cell 1 _ rfl; clear Z4 Q4)
      | fail)
    all_goals
      have B4 := Y2.out.below HB4.out (by omega)
      have X4 := X2.out.trans (HB4.out.mono (by omega))
      have O4 := HO4.out.low (B' := w.heap.size + 1) (by omega)
      go_region
      all_goals (go_wp2_with (fail))
      all_goals
        change bodyPost _ _ _ _ _ (w4.setCells w.heap.size 0 [.int .i64 k, .int .u16 X]).drew
        have hB5 : Blk (w4.setCells w.heap.size 0 [.int .i64 k, .int .u16 X]).drew w.heap.size [.int .i64 k, .int .u16 X] := B4.overS _ rfl
        have hS5 : SvRet (without M q) k X S w (.returned (.tuple #[.slice A4 n4 c4, .agg #[.int .i64 k, .int .u16 X], .int .i64 S, .int .i64 0])) (w4.setCells w.heap.size 0 [.int .i64 k, .int .u16 X]).drew :=
          ⟨_, rfl, ((OwnP.setCells_low (Nat.lt_succ_self _) _ 0 _ O4).low (Nat.le_succ _)).drew, (below_setCells w.heap.size (Nat.le_refl _) _ 0 _ X4).drew⟩
        refine ret_serve Try.results13 Try.underlying37 [.int .i64 k, .int .u16 X] (by kernel_rfl) w.heap.size (.slice A4 n4 c4) (.int .i64 S) (.int .i64 0) hS5 hB5 ?_ ?_ ?_ ?_ ?_
        all_goals rfl
end Go.Proofs.Yteongalbljdjlaa
