/- Contracts of layer 6: Apply. -/
import Derived.Test.YteongalbljdjlaaM06b
set_option linter.unusedSimpArgs false
set_option linter.unusedVariables false
set_option maxRecDepth 100000
namespace Go.Proofs.Yteongalbljdjlaa
open Go.ChangeShapes Go.WideShapes Go.ChangeAt Go.RowKit
theorem isKind_any (k : Int) (w : World) : Calls Try.prog 17 #[.int .u8 k] w fun e w' => e = .returned (.bool (decide (1 ≤ k ∧ k ≤ 7))) ∧ w = w' := by
  by_cases h1 : 1 ≤ k
  · by_cases h2 : k ≤ 7
    · rw [show decide (1 ≤ k ∧ k ≤ 7) = true by simp [h1, h2]]
      go_enter Try.func17, Try.ntmps17
      go_wp2
      go_ret
      exact ⟨rfl, rfl⟩
    · rw [show decide (1 ≤ k ∧ k ≤ 7) = false by simp [h1, h2]]
      go_enter Try.func17, Try.ntmps17
      go_wp2
      go_ret
      exact ⟨rfl, rfl⟩
  · rw [show decide (1 ≤ k ∧ k ≤ 7) = false by simp [h1]]
    go_enter Try.func17, Try.ntmps17
    go_wp2
    go_ret
    exact ⟨rfl, rfl⟩
theorem Chg.call {v : Value} {k : Int} {B : Nat} {w : World} (h : Chg v k B w) (x : Int) (x0 : 0 ≤ x) (x1 : x < 32768) : ∃ (fid : FuncId) (caps : List Value), v = .func (.func fid) #[] caps.toArray ∧
    (∀ W : World, (callFunc fid (.int .u16 x :: caps).toArray).run Try.prog W = .ok (.enter fid (.int .u16 x :: caps).toArray) W) ∧
    Calls Try.prog fid (.int .u16 x :: caps).toArray w fun e W' => e = .returned (.tuple #[.int .u16 (pW x k), .int .i64 (pS x k)]) ∧ ∃ n, W' = w.drewN n := by
  obtain ⟨fid, caps, rfl, h0, h1⟩ := h
  exact ⟨fid, caps, rfl, fun W => h0 _ W (by simp), h1 w (Kept.refl _ _) x x0 x1⟩
set_option maxHeartbeats 2000000 in
theorem Apply_any (x k : Int) (x0 : 0 ≤ x) (x1 : x < 65536) (w : World) :
    Calls Try.prog 19 #[.int .u16 x, .int .u8 k] w fun e w' => e = .returned (.tuple #[.int .u16 (pW (x % 32768) k), .int .i64 (pS (x % 32768) k), .int .i64 (pE k)]) ∧ Below w.heap.size w w' := by
  have hb := and15 x x0 x1
  have m0 : 0 ≤ x % 32768 := by omega
  have m1 : x % 32768 < 32768 := by omega
  have HK := Lib.hid (isKind_any k)
  by_cases hk : 1 ≤ k ∧ k ≤ 7
  · rw [decide_eq_true hk] at HK
    rw [show pE k = 0 by unfold pE; rw [if_pos hk]]
    obtain ⟨y, hy⟩ : ∃ y, x % 32768 = y := ⟨_, rfl⟩
    rw [hy] at hb m0 m1 ⊢
    clear hy
    have HC : Hid (k = 1 ∨ k = 2 ∨ k = 3 ∨ k = 4 ∨ k = 5 ∨ k = 6 ∨ k = 7) := by unfold Hid; omega
    clear hk
    go_enter Try.func19, Try.ntmps19
    go_wp2_with (go_at_call 17; refine (HK.out _).mono ?_; rintro e w1 ⟨rfl, rfl⟩)
    refine (changes_any _).mono ?_
    rintro e w1 ⟨v1, v2, v3, v4, v5, v6, v7, rfl, ⟨B, g1, g2, g3, g4, g5, g6, g7⟩, hb1⟩
    have HB1 := Lib.hid hb1
    clear hb1
    have S1 := g1.call y m0 m1
    have S2 := g2.call y m0 m1
    have S3 := g3.call y m0 m1
    have S4 := g4.call y m0 m1
    have S5 := g5.call y m0 m1
    have S6 := g6.call y m0 m1
    have S7 := g7.call y m0 m1
    clear g1 g2 g3 g4 g5 g6 g7
    obtain ⟨f1, c1, rfl, i1, j1⟩ := S1
    obtain ⟨f2, c2, rfl, i2, j2⟩ := S2
    obtain ⟨f3, c3, rfl, i3, j3⟩ := S3
    obtain ⟨f4, c4, rfl, i4, j4⟩ := S4
    obtain ⟨f5, c5, rfl, i5, j5⟩ := S5
    obtain ⟨f6, c6, rfl, i6, j6⟩ := S6
    obtain ⟨f7, c7, rfl, i7, j7⟩ := S7
    rcases HC.out with rfl | rfl | rfl | rfl | rfl | rfl | rfl
    · clear HC HK i2 j2 i3 j3 i4 j4 i5 j5 i6 j6 i7 j7
      have hix : ∀ w : World, (Instr.index 62 (.agg #[.nilFunc, .func (.func f1) #[] c1.toArray, .func (.func f2) #[] c2.toArray, .func (.func f3) #[] c3.toArray, .func (.func f4) #[] c4.toArray, .func (.func f5) #[] c5.toArray, .func (.func f6) #[] c6.toArray, .func (.func f7) #[] c7.toArray]) (.int .u8 1)).run Try.prog w = .ok (.func (.func f1) #[] c1.toArray) w := fun _ => by kernel_rfl
      have HG := Lib.hid j1
      clear j1
      go_wp2_with (with_reducible refine HG.out.mono ?_; rintro e w2 ⟨rfl, n, rfl⟩)
      go_ret3
      exact ⟨rfl, below_drewN HB1.out n⟩
    · clear HC HK i1 j1 i3 j3 i4 j4 i5 j5 i6 j6 i7 j7
      have hix : ∀ w : World, (Instr.index 62 (.agg #[.nilFunc, .func (.func f1) #[] c1.toArray, .func (.func f2) #[] c2.toArray, .func (.func f3) #[] c3.toArray, .func (.func f4) #[] c4.toArray, .func (.func f5) #[] c5.toArray, .func (.func f6) #[] c6.toArray, .func (.func f7) #[] c7.toArray]) (.int .u8 2)).run Try.prog w = .ok (.func (.func f2) #[] c2.toArray) w := fun _ => by kernel_rfl
      have HG := Lib.hid j2
      clear j2
      go_wp2_with (with_reducible refine HG.out.mono ?_; rintro e w2 ⟨rfl, n, rfl⟩)
      go_ret3
      exact ⟨rfl, below_drewN HB1.out n⟩
    · clear HC HK i1 j1 i2 j2 i4 j4 i5 j5 i6 j6 i7 j7
      have hix : ∀ w : World, (Instr.index 62 (.agg #[.nilFunc, .func (.func f1) #[] c1.toArray, .func (.func f2) #[] c2.toArray, .func (.func f3) #[] c3.toArray, .func (.func f4) #[] c4.toArray, .func (.func f5) #[] c5.toArray, .func (.func f6) #[] c6.toArray, .func (.func f7) #[] c7.toArray]) (.int .u8 3)).run Try.prog w = .ok (.func (.func f3) #[] c3.toArray) w := fun _ => by kernel_rfl
      have HG := Lib.hid j3
      clear j3
      go_wp2_with (with_reducible refine HG.out.mono ?_; rintro e w2 ⟨rfl, n, rfl⟩)
      go_ret3
      exact ⟨rfl, below_drewN HB1.out n⟩
    · clear HC HK i1 j1 i2 j2 i3 j3 i5 j5 i6 j6 i7 j7
      have hix : ∀ w : World, (Instr.index 62 (.agg #[.nilFunc, .func (.func f1) #[] c1.toArray, .func (.func f2) #[] c2.toArray, .func (.func f3) #[] c3.toArray, .func (.func f4) #[] c4.toArray, .func (.func f5) #[] c5.toArray, .func (.func f6) #[] c6.toArray, .func (.func f7) #[] c7.toArray]) (.int .u8 4)).run Try.prog w = .ok (.func (.func f4) #[] c4.toArray) w := fun _ => by kernel_rfl
      have HG := Lib.hid j4
      clear j4
      go_wp2_with (with_reducible refine HG.out.mono ?_; rintro e w2 ⟨rfl, n, rfl⟩)
      go_ret3
      exact ⟨rfl, below_drewN HB1.out n⟩
    · clear HC HK i1 j1 i2 j2 i3 j3 i4 j4 i6 j6 i7 j7
      have hix : ∀ w : World, (Instr.index 62 (.agg #[.nilFunc, .func (.func f1) #[] c1.toArray, .func (.func f2) #[] c2.toArray, .func (.func f3) #[] c3.toArray, .func (.func f4) #[] c4.toArray, .func (.func f5) #[] c5.toArray, .func (.func f6) #[] c6.toArray, .func (.func f7) #[] c7.toArray]) (.int .u8 5)).run Try.prog w = .ok (.func (.func f5) #[] c5.toArray) w := fun _ => by kernel_rfl
      have HG := Lib.hid j5
      clear j5
      go_wp2_with (with_reducible refine HG.out.mono ?_; rintro e w2 ⟨rfl, n, rfl⟩)
      go_ret3
      exact ⟨rfl, below_drewN HB1.out n⟩
    · clear HC HK i1 j1 i2 j2 i3 j3 i4 j4 i5 j5 i7 j7
      have hix : ∀ w : World, (Instr.index 62 (.agg #[.nilFunc, .func (.func f1) #[] c1.toArray, .func (.func f2) #[] c2.toArray, .func (.func f3) #[] c3.toArray, .func (.func f4) #[] c4.toArray, .func (.func f5) #[] c5.toArray, .func (.func f6) #[] c6.toArray, .func (.func f7) #[] c7.toArray]) (.int .u8 6)).run Try.prog w = .ok (.func (.func f6) #[] c6.toArray) w := fun _ => by kernel_rfl
      have HG := Lib.hid j6
      clear j6
      go_wp2_with (with_reducible refine HG.out.mono ?_; rintro e w2 ⟨rfl, n, rfl⟩)
      go_ret3
      exact ⟨rfl, below_drewN HB1.out n⟩
    · clear HC HK i1 j1 i2 j2 i3 j3 i4 j4 i5 j5 i6 j6
      have hix : ∀ w : World, (Instr.index 62 (.agg #[.nilFunc, .func (.func f1) #[] c1.toArray, .func (.func f2) #[] c2.toArray, .func (.func f3) #[] c3.toArray, .func (.func f4) #[] c4.toArray, .func (.func f5) #[] c5.toArray, .func (.func f6) #[] c6.toArray, .func (.func f7) #[] c7.toArray]) (.int .u8 7)).run Try.prog w = .ok (.func (.func f7) #[] c7.toArray) w := fun _ => by kernel_rfl
      have HG := Lib.hid j7
      clear j7
      go_wp2_with (with_reducible refine HG.out.mono ?_; rintro e w2 ⟨rfl, n, rfl⟩)
      go_ret3
      exact ⟨rfl, below_drewN HB1.out n⟩
  · rw [decide_eq_false hk] at HK
    rw [show pE k = 2 by unfold pE; rw [if_neg hk], show pW (x % 32768) k = 0 by unfold pW; repeat (rw [if_neg (by omega)]), show pS (x % 32768) k = 0 by unfold pS; repeat (rw [if_neg (by omega)])]
    clear hk hb m0 m1
    go_enter Try.func19, Try.ntmps19
    go_wp2_with (go_at_call 17; refine (HK.out _).mono ?_; rintro e w1 ⟨rfl, rfl⟩)
    go_ret3
    exact ⟨rfl, Below.refl _ _⟩
end Go.Proofs.Yteongalbljdjlaa
