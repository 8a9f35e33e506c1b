/- The walk of IsaEncodes. -/
import Derived.Test.YtjkdojdkmgaofaaDoorL04g
set_option linter.unusedSimpArgs false
set_option linter.unusedVariables false
namespace Go.Proofs.YtjkdojdkmgaofaaDoor
open Go.ChangeShapes Go.WideShapes Go.ChangeAt Go.RowKit
theorem wrap64_bd (n : Int) : -9223372036854775808 ≤ wrap64 n ∧ wrap64 n ≤ 9223372036854775807 := by unfold wrap64; omega
set_option maxHeartbeats 1500000 in
theorem isaEncodes_walk (c0 : Int) (n : ByteArray) (b : Bool) (q x y k : Int) (hc : (Lit.int .u8 c0).wf = true) (hk : (Lit.int .i64 k).wf = true) (w : World) (hL : Lay w) :
    Calls Tryd.prog 4 #[.agg #[.int .u8 c0, .string n, .bool b, .int .u8 q, .int .i64 x, .int .i64 y], .int .i64 k] w fun e w' => e = .returned (.bool true) ∧ Below w.heap.size w w' := by
  have HL := Lib.hid hL
  clear hL
  have hcb := bounds_u8 hc
  have hkb := bounds_i64 hk
  clear hc hk
  have O0 := Lib.hid (OpAt.alloc w 28 c0 n b q x y)
  have B0 := Lib.hid ((Below.refl w.heap.size w).alloc (Nat.le_refl _) (.cells #[.int .u8 c0, .string n, .bool b, .int .u8 q, .int .i64 x, .int .i64 y] 28))
  go_enter Tryd.func4, Tryd.ntmps4
  go_wp2
  have p1 := wrap64_bd ((IntKind.u64.wrap k).tmod 4200)
  have p2 := wrap64_bd ((IntKind.u64.wrap k).tmod 1030)
  have p3 := wrap64_bd ((IntKind.u64.wrap k).tmod 20)
  generalize wrap64 ((IntKind.u64.wrap k).tmod 4200) = k1 at p1 ⊢
  generalize wrap64 ((IntKind.u64.wrap k).tmod 1030) = k2 at p2 ⊢
  generalize wrap64 ((IntKind.u64.wrap k).tmod 20) = k3 at p3 ⊢
  have i0 : ∀ w : World, (Instr.index 38 (.agg #[.int .i64 k, .int .i64 k1, .int .i64 k2, .int .i64 k3]) (.int .i64 0)).run Tryd.prog w = .ok (.int .i64 k) w := fun _ => by kernel_rfl
  have i1 : ∀ w : World, (Instr.index 38 (.agg #[.int .i64 k, .int .i64 k1, .int .i64 k2, .int .i64 k3]) (.int .i64 1)).run Tryd.prog w = .ok (.int .i64 k1) w := fun _ => by kernel_rfl
  have i2 : ∀ w : World, (Instr.index 38 (.agg #[.int .i64 k, .int .i64 k1, .int .i64 k2, .int .i64 k3]) (.int .i64 2)).run Tryd.prog w = .ok (.int .i64 k2) w := fun _ => by kernel_rfl
  have i3 : ∀ w : World, (Instr.index 38 (.agg #[.int .i64 k, .int .i64 k1, .int .i64 k2, .int .i64 k3]) (.int .i64 3)).run Tryd.prog w = .ok (.int .i64 k3) w := fun _ => by kernel_rfl
  have HLW := Lib.hid (HL.out.below B0.out)
  generalize hW : w.alloc (.cells #[.int .u8 c0, .string n, .bool b, .int .u8 q, .int .i64 x, .int .i64 y] 28) = W at O0 B0 HLW ⊢
  have hWs : w.heap.size < W.heap.size := by rw [← hW]; simp
  clear hW
  go_loopw [29] (fun i wr => ∃ j : Int, 0 ≤ j ∧ j ≤ 4 ∧ i = .int .i64 j ∧ Below W.heap.size W wr) (fun i _ => 4 - (intOf i).toNat)
  case atStart => exact ⟨0, by omega, by omega, rfl, Below.refl _ _⟩
  case round =>
    obtain ⟨j, hj0, hj, rfl, hb⟩ := hrel
    have X0 := Lib.hid hb
    clear hb
    by_cases hlt : j < 4
    · have hm : 0 ≤ c0 % 41 ∧ c0 % 41 ≤ 40 := by omega
      have hjj : j = 0 ∨ j = 1 ∨ j = 2 ∨ j = 3 := by omega
      obtain ⟨m, hm1, hm2⟩ : ∃ m, (j = 0 → m = k) ∧ (j = 1 → m = k1) ∧ (j = 2 → m = k2) ∧ (j = 3 → m = k3) ∧ (-9223372036854775808 ≤ m ∧ m ≤ 9223372036854775807) := by
        rcases hjj with rfl | rfl | rfl | rfl
        · exact ⟨k, fun _ => rfl, fun h => by omega, fun h => by omega, fun h => by omega, hkb⟩
        · exact ⟨k1, fun h => by omega, fun _ => rfl, fun h => by omega, fun h => by omega, p1⟩
        · exact ⟨k2, fun h => by omega, fun h => by omega, fun _ => rfl, fun h => by omega, p2⟩
        · exact ⟨k3, fun h => by omega, fun h => by omega, fun h => by omega, fun _ => rfl, p3⟩
      obtain ⟨hm2, hm3, hm4, hm5⟩ := hm2
      obtain ⟨v1, e1, E1, E2⟩ := enc_both c0 n b q x y m hcb.1 hcb.2 hm5.1 hm5.2
      obtain ⟨v2, e2, E3, E4⟩ := enc_both (c0 % 41) ⟨#[]⟩ false 0 0 0 m (by omega) (by omega) hm5.1 hm5.2
      have Q1 := Lib.hid E1
      have Q2 := Lib.hid E2
      have Q3 := Lib.hid E3
      have Q4 := Lib.hid E4
      clear E1 E2 E3 E4 hm5
      obtain ⟨o0, o1, o2, o3, o4, o5⟩ := O0.out.below X0.out hWs
      have tokA : True := trivial
      have tokB : True := trivial
      rcases hjj with rfl | rfl | rfl | rfl
      all_goals
        first
          | (have hmv := hm1 rfl; subst hmv)
          | (have hmv := hm2 rfl; subst hmv)
          | (have hmv := hm3 rfl; subst hmv)
          | (have hmv := hm4 rfl; subst hmv)
        clear hm1 hm2 hm3 hm4
        go_wp2_with (first
          | (go_at_call 21; have _t := tokA; clear _t tokA; refine (Q1.out _ (by repeat (first | exact HL.out | exact Lay.keep HL (by assumption) | exact Lay.keep HLW (by assumption) | refine Lay.alloc ?_ _ | refine Lay.drew ?_ | (refine Lay.below HL.out (Below.setCell ?_ ?_ _) <;> first | exact Nat.le_refl _ | exact Hid.out (by assumption) | omega)))).mono ?_; rintro e w1 ⟨rfl, hb⟩; (have X1 := Lib.hid (X0.out.trans (hb.mono X0.out.size))); (obtain ⟨o6, o7, o8, o9, oa, ob⟩ := O0.out.below X1.out hWs); clear hb)
          | (go_at_call 22; have _t := tokB; clear _t tokB; refine (Q2.out _ (by repeat (first | exact HL.out | exact Lay.keep HL (by assumption) | exact Lay.keep HLW (by assumption) | refine Lay.alloc ?_ _ | refine Lay.drew ?_ | (refine Lay.below HL.out (Below.setCell ?_ ?_ _) <;> first | exact Nat.le_refl _ | exact Hid.out (by assumption) | omega)))).mono ?_; rintro e w2 ⟨rfl, hb⟩; (have X2 := Lib.hid (X1.out.trans (hb.mono X1.out.size))); (obtain ⟨oc, od, oe, of, og, oh⟩ := O0.out.below X2.out hWs); clear hb)
          | (go_at_call 21; refine (Q3.out _ (by repeat (first | exact HL.out | exact Lay.keep HL (by assumption) | exact Lay.keep HLW (by assumption) | refine Lay.alloc ?_ _ | refine Lay.drew ?_ | (refine Lay.below HL.out (Below.setCell ?_ ?_ _) <;> first | exact Nat.le_refl _ | exact Hid.out (by assumption) | omega)))).mono ?_; rintro e w3 ⟨rfl, hb⟩; (have X3 := Lib.hid (X2.out.trans (hb.mono X2.out.size))); (obtain ⟨oi, oj, ok, ol, om, on⟩ := O0.out.below X3.out hWs); clear hb)
          | (go_at_call 22; refine (Q4.out _ (by repeat (first | exact HL.out | exact Lay.keep HL (by assumption) | exact Lay.keep HLW (by assumption) | refine Lay.alloc ?_ _ | refine Lay.drew ?_ | (refine Lay.below HL.out (Below.setCell ?_ ?_ _) <;> first | exact Nat.le_refl _ | exact Hid.out (by assumption) | omega)))).mono ?_; rintro e w4 ⟨rfl, hb⟩; (have X4 := Lib.hid (X3.out.trans (hb.mono X3.out.size))); clear hb))
        exact ⟨⟨_, by decide, by decide, rfl, X4.out⟩, by decide⟩
    · have e : j = 4 := by omega
      subst e
      clear hj0 hj hlt
      have B1 := Lib.hid (B0.out.trans (X0.out.mono B0.out.size))
      go_wp2_with (go_at_call 20; refine (works4_any _ (by repeat (first | exact HL.out | exact Lay.keep HL (by assumption) | exact Lay.keep HLW (by assumption) | refine Lay.alloc ?_ _ | refine Lay.drew ?_ | (refine Lay.below HL.out (Below.setCell ?_ ?_ _) <;> first | exact Nat.le_refl _ | exact Hid.out (by assumption) | omega)))).mono ?_; rintro e w5 ⟨rfl, hb⟩; (have B2 := Lib.hid (B1.out.trans (hb.mono B1.out.size))); clear hb)
      go_ret
      exact ⟨rfl, B2.out⟩
end Go.Proofs.YtjkdojdkmgaofaaDoor
