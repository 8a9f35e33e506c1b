/- The walk of CounterPulses. -/
import Derived.Test.YtkobomcpohccdaaW06a
set_option linter.unusedSimpArgs false
set_option linter.unusedVariables false
set_option maxRecDepth 100000
namespace Go.Proofs.Ytkobomcpohccdaa
open Go.ChangeShapes Go.WideShapes Go.ChangeAt Go.RowKit
theorem aL_len (a s : Int) : (aL a s).length ≤ 100000 := by unfold aL; split <;> simp
set_option maxHeartbeats 8000000 in
theorem counterPulses_walk (x a kk s : Int) (w_x : (Lit.int .u16 x).wf = true) (w_a : (Lit.int .i64 a).wf = true) (w_k : (Lit.int .u8 kk).wf = true) (w_s : (Lit.int .i64 s).wf = true) (w : World) :
    Calls Try.prog 3 #[.int .u16 x, .agg #[.int .i64 a, .int .u8 kk], .int .i64 s] w fun e w' => e = .returned (.bool true) ∧ Below w.heap.size w w' := by
  obtain ⟨x0, x1⟩ := bounds_u16 w_x
  clear w_x w_a w_s
  go_enter Try.func3, Try.ntmps3
  go_wp2_with (fail)
  generalize kk.tmod 9 = k9
  have Z := Lib.hid (Blk.new w 26 [.int .i64 a, .int .u8 kk] _ rfl)
  have X0 := Lib.hid ((Below.refl w.heap.size w).alloc (Nat.le_refl _) (.cells #[.int .i64 a, .int .u8 kk] 26))
  have hz0 : (w.alloc (.cells #[.int .i64 a, .int .u8 kk] 26)).heap.size = w.heap.size + 1 := by simp
  have ZZ := Z.out
  have XX := X0.out
  change Blk (w.alloc (.cells #[.int .i64 a, .int .u8 kk] 26)) _ _ at ZZ
  clear Z X0
  generalize w.alloc (.cells #[.int .i64 a, .int .u8 kk] 26) = W0 at ZZ XX hz0 ⊢
  have Z := Lib.hid ZZ
  have X0 := Lib.hid XX
  have HZ := Lib.hid hz0
  clear ZZ XX hz0
  have i0 : ∀ w : World, (Instr.index 27 (.agg #[.int .u8 kk, .int .u8 k9]) (.int .i64 0)).run Try.prog w = .ok (.int .u8 kk) w := fun _ => by kernel_rfl
  have i1 : ∀ w : World, (Instr.index 27 (.agg #[.int .u8 kk, .int .u8 k9]) (.int .i64 1)).run Try.prog w = .ok (.int .u8 k9) w := fun _ => by kernel_rfl
  go_loopw [31] (fun i wr => ∃ j : Int, (j = 0 ∨ j = 1 ∨ j = 2) ∧ i = .int .i64 j ∧ Below W0.heap.size W0 wr) (fun i _ => (2 - intOf i).toNat)
  case atStart => exact ⟨0, by omega, rfl, Below.refl _ _⟩
  case round =>
    obtain ⟨j, hj, rfl, hb⟩ := hrel
    have HB := Lib.hid hb
    clear hb
    rcases hj with rfl | rfl | rfl
    · go_wp2_with (first
        | (go_at_call 11; refine (Apply_any x _ x0 (by omega) _).mono ?_; rintro e w1 ⟨rfl, hb1⟩; (have X1 := Lib.hid (HB.out.trans (hb1.mono HB.out.size))); clear hb1)
        | (go_at_call 12; refine (rApply_any x _ x0 (by omega) _).mono ?_; rintro e w2 ⟨rfl, rfl⟩)
        | fail)
      clear HB
      go_loopw [15] (fun i wr => ∃ j : Nat, j ≤ 20 ∧ i = .int .i64 (19 + (j : Int)) ∧ Below W0.heap.size W0 wr) (fun i _ => (39 - intOf i).toNat)
      case atStart => exact ⟨0, by omega, rfl, X1.out⟩
      case round =>
        clear X1
        obtain ⟨p, hp, rfl, hb⟩ := hrel
        have HB := Lib.hid hb
        clear hb
        by_cases hlt : p < 20
        · have g1 : 19 + (p : Int) ≤ 38 := by omega
          obtain ⟨A, hA⟩ : ∃ A : Int, 19 + (p : Int) = A := ⟨_, rfl⟩
          have HA := Lib.hid hA
          rw [hA] at g1 ⊢
          have g0 : 0 ≤ A := by omega
          clear hA
          go_wp2
          go_loopw [16] (fun i wr => ∃ q : Nat, q ≤ 3 ∧ i = .int .i64 ((q : Int) - 1) ∧ Below W0.heap.size W0 wr) (fun i _ => (2 - intOf i).toNat)
          case atStart => exact ⟨0, by omega, rfl, HB.out⟩
          case round =>
            clear HB
            obtain ⟨q, hq, rfl, hb⟩ := hrel
            have HB := Lib.hid hb
            clear hb
            by_cases hlq : q < 3
            · have g2 : (q : Int) - 1 ≤ 1 := by omega
              obtain ⟨S, hS⟩ : ∃ S : Int, (q : Int) - 1 = S := ⟨_, rfl⟩
              have HS := Lib.hid hS
              rw [hS] at g2 ⊢
              have g3 : -1 ≤ S := by omega
              clear hS
              go_wp2_with (first
                | (go_at_call 13; refine (After_any _ _ _ _).mono ?_; rintro e w1 ⟨v1, rfl, ho1, hb1⟩; (obtain ⟨A1, c1, rfl, hp1⟩ := ho1.prs); (have P1 := Lib.hid hp1); (have X1 := Lib.hid (HB.out.trans (hb1.mono HB.out.size))); clear hb1 ho1 hp1)
                | (go_at_call 14; refine (rAfter_any _ _ _ _).mono ?_; rintro e w2 ⟨v2, rfl, ho2, hb2⟩; (obtain ⟨A2, c2, rfl, hp2⟩ := ho2.prs); (have P2 := Lib.hid hp2); (have Q1 := Lib.hid (P1.out.below hb2 (Nat.le_refl _))); (have X2 := Lib.hid (X1.out.trans (hb2.mono X1.out.size))); clear hb2 ho2 hp2)
                | (go_at_call 15; refine (Same_same A1 A2 c1 c2 _ _ rfl _ Q1.out P2.out (aL_len _ _)).mono ?_; rintro e w3 ⟨rfl, m, rfl⟩)
                | fail)
              exact ⟨⟨q + 1, by omega, by rw [← HS.out]; go_num, below_drewN X2.out m⟩, by simp only [intOf]; omega⟩
            · have e : q = 3 := by omega
              subst e
              go_wp2_with (fail)
              exact ⟨⟨p + 1, by omega, by rw [← HA.out]; go_num, HB.out⟩, by simp only [intOf]; omega⟩
        · have e : p = 20 := by omega
          subst e
          go_wp2_with (fail)
          exact ⟨⟨1, by omega, rfl, HB.out⟩, by decide⟩
    · go_wp2_with (first
        | (go_at_call 11; refine (Apply_any x _ x0 (by omega) _).mono ?_; rintro e w1 ⟨rfl, hb1⟩; (have X1 := Lib.hid (HB.out.trans (hb1.mono HB.out.size))); clear hb1)
        | (go_at_call 12; refine (rApply_any x _ x0 (by omega) _).mono ?_; rintro e w2 ⟨rfl, rfl⟩)
        | fail)
      clear HB
      go_loopw [15] (fun i wr => ∃ j : Nat, j ≤ 20 ∧ i = .int .i64 (19 + (j : Int)) ∧ Below W0.heap.size W0 wr) (fun i _ => (39 - intOf i).toNat)
      case atStart => exact ⟨0, by omega, rfl, X1.out⟩
      case round =>
        clear X1
        obtain ⟨p, hp, rfl, hb⟩ := hrel
        have HB := Lib.hid hb
        clear hb
        by_cases hlt : p < 20
        · have g1 : 19 + (p : Int) ≤ 38 := by omega
          obtain ⟨A, hA⟩ : ∃ A : Int, 19 + (p : Int) = A := ⟨_, rfl⟩
          have HA := Lib.hid hA
          rw [hA] at g1 ⊢
          have g0 : 0 ≤ A := by omega
          clear hA
          go_wp2
          go_loopw [16] (fun i wr => ∃ q : Nat, q ≤ 3 ∧ i = .int .i64 ((q : Int) - 1) ∧ Below W0.heap.size W0 wr) (fun i _ => (2 - intOf i).toNat)
          case atStart => exact ⟨0, by omega, rfl, HB.out⟩
          case round =>
            clear HB
            obtain ⟨q, hq, rfl, hb⟩ := hrel
            have HB := Lib.hid hb
            clear hb
            by_cases hlq : q < 3
            · have g2 : (q : Int) - 1 ≤ 1 := by omega
              obtain ⟨S, hS⟩ : ∃ S : Int, (q : Int) - 1 = S := ⟨_, rfl⟩
              have HS := Lib.hid hS
              rw [hS] at g2 ⊢
              have g3 : -1 ≤ S := by omega
              clear hS
              go_wp2_with (first
                | (go_at_call 13; refine (After_any _ _ _ _).mono ?_; rintro e w1 ⟨v1, rfl, ho1, hb1⟩; (obtain ⟨A1, c1, rfl, hp1⟩ := ho1.prs); (have P1 := Lib.hid hp1); (have X1 := Lib.hid (HB.out.trans (hb1.mono HB.out.size))); clear hb1 ho1 hp1)
                | (go_at_call 14; refine (rAfter_any _ _ _ _).mono ?_; rintro e w2 ⟨v2, rfl, ho2, hb2⟩; (obtain ⟨A2, c2, rfl, hp2⟩ := ho2.prs); (have P2 := Lib.hid hp2); (have Q1 := Lib.hid (P1.out.below hb2 (Nat.le_refl _))); (have X2 := Lib.hid (X1.out.trans (hb2.mono X1.out.size))); clear hb2 ho2 hp2)
                | (go_at_call 15; refine (Same_same A1 A2 c1 c2 _ _ rfl _ Q1.out P2.out (aL_len _ _)).mono ?_; rintro e w3 ⟨rfl, m, rfl⟩)
                | fail)
              exact ⟨⟨q + 1, by omega, by rw [← HS.out]; go_num, below_drewN X2.out m⟩, by simp only [intOf]; omega⟩
            · have e : q = 3 := by omega
              subst e
              go_wp2_with (fail)
              exact ⟨⟨p + 1, by omega, by rw [← HA.out]; go_num, HB.out⟩, by simp only [intOf]; omega⟩
        · have e : p = 20 := by omega
          subst e
          go_wp2_with (fail)
          exact ⟨⟨2, by omega, rfl, HB.out⟩, by decide⟩
    · have ZB := Z.out.below HB.out (by have := HZ.out; omega)
      have hzr : w.heap.size < wr.heap.size := by have := HZ.out; have := HB.out.size; omega
      have Z1 := Lib.hid ZB
      have c0 := ZB.cell 0 _ rfl; have c1 := ZB.cell 1 _ rfl
      clear ZB
      have HB' := Lib.hid (X0.out.trans (HB.out.mono X0.out.size))
      clear HB
      go_wp2_with (first
        | (go_at_call 13; refine (After_any _ _ _ _).mono ?_; rintro e w1 ⟨v1, rfl, ho1, hb1⟩; (obtain ⟨A1, n1, rfl, hp1⟩ := ho1.prs); (have P1 := Lib.hid hp1); (have X1 := Lib.hid (HB'.out.trans (hb1.mono HB'.out.size))); (have ZC := Z1.out.below hb1 hzr); clear hb1 ho1 hp1; have k0 := ZC.cell 0 _ rfl; have k1 := ZC.cell 1 _ rfl; clear ZC)
        | (go_at_call 14; refine (rAfter_any _ _ _ _).mono ?_; rintro e w2 ⟨v2, rfl, ho2, hb2⟩; (obtain ⟨A2, n2, rfl, hp2⟩ := ho2.prs); (have P2 := Lib.hid hp2); (have Q1 := Lib.hid (P1.out.below hb2 (Nat.le_refl _))); (have X2 := Lib.hid (X1.out.trans (hb2.mono X1.out.size))); clear hb2 ho2 hp2)
        | (go_at_call 15; refine (Same_same A1 A2 n1 n2 _ _ rfl _ Q1.out P2.out (aL_len _ _)).mono ?_; rintro e w3 ⟨rfl, m, rfl⟩)
        | (go_at_call 16; refine (works_any _).mono ?_; rintro e w9 ⟨rfl, hb⟩; (have X9 := Lib.hid (X2.out.trans ((below_drewN (Below.refl _ _) m).trans (hb.mono (Nat.le_refl _)) |>.mono X2.out.size))); clear hb)
        | fail)
      go_ret
      exact ⟨rfl, X9.out⟩
end Go.Proofs.Ytkobomcpohccdaa
