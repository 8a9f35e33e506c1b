/- Contracts of layer 6: the table of the changes, Apply. -/
import Derived.Test.YteongalbljdjlaaM06a
import Derived.Test.YteongalbljdjlaaSto
set_option linter.unusedSimpArgs false
set_option linter.unusedVariables false
set_option maxRecDepth 100000
namespace Go.Proofs.Yteongalbljdjlaa
open Go.ChangeShapes Go.WideShapes Go.ChangeAt Go.RowKit
set_option maxHeartbeats 2000000 in
theorem changes_any (w : World) : Calls Try.prog 26 #[] w (RetTbl w) := by
  go_enter Try.func26, Try.ntmps26
  have Z0 := Lib.hid (Blk.new w 62 [.nilFunc, .nilFunc, .nilFunc, .nilFunc, .nilFunc, .nilFunc, .nilFunc, .nilFunc] _ rfl)
  go_wp2_with (fail)
  refine (turned_any 3 1 (by omega) (w.heap.size + 1) _ (by simp)).mono ?_
  rintro e w1 ⟨v3, rfl, h3, hb1⟩
  have s1 : w.heap.size + 1 ≤ w1.heap.size := by have := hb1.size; simp at this; omega
  have H3 := Lib.hid h3
  have Z1 := Lib.hid (Z0.out.below hb1 (by first | omega | simp))
  have B1 := Lib.hid hb1
  clear h3 hb1 Z0
  go_wp2_with (fail)
  refine (turned_any 4 32767 (by omega) (w.heap.size + 1) _ s1).mono ?_
  rintro e w2 ⟨v4, rfl, h4, hb2⟩
  have s2 : w.heap.size + 1 ≤ w2.heap.size := by have := hb2.size; omega
  have H4 := Lib.hid h4
  have Z2 := Lib.hid (Z1.out.below hb2 (by first | omega | simp))
  have B2 := Lib.hid hb2
  clear h4 hb2 Z1
  go_wp2_with (fail)
  refine (counted_any 1 1 16383 0 1 (by omega) (w.heap.size + 1) _ s2).mono ?_
  rintro e w3 ⟨v1, rfl, h1, hb3⟩
  have s3 : w.heap.size + 1 ≤ w3.heap.size := by have := hb3.size; omega
  have H1 := Lib.hid h1
  have Z3 := Lib.hid (Z2.out.below hb3 (by first | omega | simp))
  have B3 := Lib.hid hb3
  clear h1 hb3 Z2
  go_wp2_with (fail)
  refine (counted_any 2 32766 16384 32767 (-1) (by omega) (w.heap.size + 1) _ s3).mono ?_
  rintro e w4 ⟨v2, rfl, h2, hb4⟩
  have s4 : w.heap.size + 1 ≤ w4.heap.size := by have := hb4.size; omega
  have H2 := Lib.hid h2
  have Z4 := Lib.hid (Z3.out.below hb4 (by first | omega | simp))
  have B4 := Lib.hid hb4
  clear h2 hb4 Z3
  go_wp2_with (fail)
  refine (diminished_any v3 v4 (w.heap.size + 1) _ _ (H3.out.below B2.out) H4.out ((kept_below B3.out).trans (kept_below B4.out)) s4).mono ?_
  rintro e w5 ⟨v5, rfl, h5, hb5⟩
  have s5 : w.heap.size + 1 ≤ w5.heap.size := by have := hb5.size; omega
  have H5 := Lib.hid h5
  have Z5 := Lib.hid (Z4.out.below hb5 (by first | omega | simp))
  have B5 := Lib.hid hb5
  clear h5 hb5 Z4
  go_wp2_with (fail)
  refine (shifted_any 6 0 (by omega) (w.heap.size + 1) _ s5).mono ?_
  rintro e w6 ⟨v6, rfl, h6, hb6⟩
  have s6 : w.heap.size + 1 ≤ w6.heap.size := by have := hb6.size; omega
  have H6 := Lib.hid h6
  have Z6 := Lib.hid (Z5.out.below hb6 (by first | omega | simp))
  have B6 := Lib.hid hb6
  clear h6 hb6 Z5
  go_wp2_with (fail)
  refine (shifted_any 7 1 (by omega) (w.heap.size + 1) _ s6).mono ?_
  rintro e w7 ⟨v7, rfl, h7, hb7⟩
  have s7 : w.heap.size + 1 ≤ w7.heap.size := by have := hb7.size; omega
  have H7 := Lib.hid h7
  have Z7 := Lib.hid (Z6.out.below hb7 (by first | omega | simp))
  have B7 := Lib.hid hb7
  clear h7 hb7 Z6
  have X := Lib.hid (((((((Below.refl w.heap.size w).alloc (Nat.le_refl _) _).trans (B1.out.mono (by simp))).trans (B2.out.mono (by omega))).trans (B3.out.mono (by omega))).trans (B4.out.mono (by omega))).trans (B5.out.mono (by omega)) |>.trans (B6.out.mono (by omega)) |>.trans (B7.out.mono (by omega)))
  have T1 := Lib.hid (((H1.out.below B4.out).below B5.out).below B6.out |>.below B7.out)
  have T2 := Lib.hid (((H2.out.below B5.out)).below B6.out |>.below B7.out)
  have T3 := Lib.hid (((((H3.out.below B2.out).below B3.out).below B4.out).below B5.out).below B6.out |>.below B7.out)
  have T4 := Lib.hid (((((H4.out.below B3.out).below B4.out).below B5.out)).below B6.out |>.below B7.out)
  have T5 := Lib.hid (((H5.out.below B6.out)) |>.below B7.out)
  have T6 := Lib.hid (H6.out.below B7.out)
  have T7 := Lib.hid H7.out
  clear H1 H2 H3 H4 H5 H6 H7 B1 B2 B3 B4 B5 B6 B7
  have SZ := Lib.hid s7
  clear s1 s2 s3 s4 s5 s6 s7
  obtain ⟨f1, c1, rfl⟩ := T1.out.shape
  obtain ⟨f2, c2, rfl⟩ := T2.out.shape
  obtain ⟨f3, c3, rfl⟩ := T3.out.shape
  obtain ⟨f4, c4, rfl⟩ := T4.out.shape
  obtain ⟨f5, c5, rfl⟩ := T5.out.shape
  obtain ⟨f6, c6, rfl⟩ := T6.out.shape
  obtain ⟨f7, c7, rfl⟩ := T7.out.shape
  have hbl : ∀ w : World, (Instr.build 62 #[(1, .func (.func f1) #[] c1), (2, .func (.func f2) #[] c2), (3, .func (.func f3) #[] c3), (4, .func (.func f4) #[] c4), (5, .func (.func f5) #[] c5), (6, .func (.func f6) #[] c6), (7, .func (.func f7) #[] c7)]).run Try.prog w = .ok (.agg #[.nilFunc, .func (.func f1) #[] c1, .func (.func f2) #[] c2, .func (.func f3) #[] c3, .func (.func f4) #[] c4, .func (.func f5) #[] c5, .func (.func f6) #[] c6, .func (.func f7) #[] c7]) w := fun _ => by kernel_rfl
  go_wp2_with (show wpList _ _ _ [_] _ _; apply wp_storeBlkS)
  case hop => exact ⟨rfl, rfl, rfl⟩
  case hb => exact Z7.out
  case hx => rfl
  case hy => rfl
  case hlen => rfl
  case hi => kernel_rfl
  case hdst => rfl
  case hgd => rfl
  case h1 => simp [Value.oneCell']
  clear hbl
  have Q := kept_below (B := w.heap.size + 1) (Below.refl w7.heap.size w7)
  have KK : ∀ (m : List Value) (j : Nat) (u : World), Kept (w.heap.size + 1) u (u.setCells w.heap.size j m) := by
    intro m
    induction m with
    | nil => exact fun j u => Kept.refl _ _
    | cons v m ih => exact fun j u => (kept_setCell u ⟨w.heap.size, j, none⟩ v (Nat.lt_succ_self _)).trans (ih (j + 1) _)
  have K := KK [.nilFunc, .func (.func f1) #[] c1, .func (.func f2) #[] c2, .func (.func f3) #[] c3, .func (.func f4) #[] c4, .func (.func f5) #[] c5, .func (.func f6) #[] c6, .func (.func f7) #[] c7] 0 w7
  have Y := Z7.out.overS [.nilFunc, .func (.func f1) #[] c1, .func (.func f2) #[] c2, .func (.func f3) #[] c3, .func (.func f4) #[] c4, .func (.func f5) #[] c5, .func (.func f6) #[] c6, .func (.func f7) #[] c7] rfl
  have YX := below_setCells w.heap.size (Nat.le_refl _) [.nilFunc, .func (.func f1) #[] c1, .func (.func f2) #[] c2, .func (.func f3) #[] c3, .func (.func f4) #[] c4, .func (.func f5) #[] c5, .func (.func f6) #[] c6, .func (.func f7) #[] c7] 0 _ X.out
  exact ret_arr1 Try.results26 Try.underlying62 _ (by kernel_rfl) w.heap.size rfl Y.cells rfl
    ⟨_, _, _, _, _, _, _, rfl, ⟨w.heap.size + 1, T1.out.kept K, T2.out.kept K, T3.out.kept K, T4.out.kept K, T5.out.kept K, T6.out.kept K, T7.out.kept K⟩, YX⟩
end Go.Proofs.Yteongalbljdjlaa
