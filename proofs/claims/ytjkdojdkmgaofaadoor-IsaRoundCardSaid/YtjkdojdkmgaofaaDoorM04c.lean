/- Contracts of layer 4: the program's Decode. -/
import Derived.Test.YtjkdojdkmgaofaaDoorM04b
set_option linter.unusedSimpArgs false
set_option linter.unusedVariables false
namespace Go.Proofs.YtjkdojdkmgaofaaDoor
open Go.ChangeShapes Go.WideShapes Go.ChangeAt Go.RowKit
theorem Decode_no (x : Int) (h : 32767 < x) (x1 : x ≤ 65535) (e : Bool) (w : World) :
    Calls Tryd.prog 23 #[.int .u16 x, .bool e] w (fun e w' => e = .returned (.tuple #[.agg #[.int .u8 0, .string ⟨#[]⟩, .bool false, .int .u8 0, .int .i64 0, .int .i64 0], .int .i64 0, .int .i64 3]) ∧ Below w.heap.size w w') := by
  go_enter Tryd.func23, Tryd.ntmps23
  go_wp2
  exact ret_struct3 Tryd.results23 Tryd.underlying28 [.int .u8 0, .string ⟨#[]⟩, .bool false, .int .u8 0, .int .i64 0, .int .i64 0] (by kernel_rfl) w.heap.size rfl (at_alloc [.int .u8 0, .string ⟨#[]⟩, .bool false, .int .u8 0, .int .i64 0, .int .i64 0]) (.int .i64 0) (.int .i64 3) rfl rfl rfl ⟨rfl, (Below.refl _ _).alloc (Nat.le_refl _) _⟩
set_option maxHeartbeats 2000000 in
theorem Decode_yes (x : Int) (x0 : 0 ≤ x) (x1 : x ≤ 32767) (ex : Bool) (i : Nat) (hi : decI x ex = i) (w : World) (hL : Lay w) :
    Calls Tryd.prog 23 #[.int .u16 x, .bool ex] w (fun e w' => e = .returned (.tuple #[.agg #[.int .u8 ((i : Int) + 1), .string (nm i), .bool (decide (19 ≤ i)), .int .u8 (kd i), .int .i64 (bt (kd i)), .int .i64 (cy i)], .int .i64 (x - bs i), .int .i64 0]) ∧ Below w.heap.size w w') := by
  have h39 : i < 39 := by rw [← hi]; exact decI_lt x ex
  have HX := Lib.hid (show decide (19 ≤ i) = ex by rw [← hi]; exact decI_ext x ex)
  have HO := Lib.hid (show encOk i (x - bs i) by rw [← hi]; exact dec_ok x x0 x1 ex)
  have HD := Lib.hid hi
  have HL := Lib.hid hL
  clear hi hL
  have R1 := Lib.hid (Six.alloc w 28 (.int .u8 0) (.string ⟨#[]⟩) (.bool false) (.int .u8 0) (.int .i64 0) (.int .i64 0))
  have X1 := Lib.hid ((Below.refl w.heap.size w).alloc (Nat.le_refl _) (.cells #[.int .u8 0, .string ⟨#[]⟩, .bool false, .int .u8 0, .int .i64 0, .int .i64 0] 28))
  have L1 := Lib.hid (HL.out.alloc (.cells #[.int .u8 0, .string ⟨#[]⟩, .bool false, .int .u8 0, .int .i64 0, .int .i64 0] 28))
  go_enter Tryd.func23, Tryd.ntmps23
  go_wp2
  have hz1 : w.heap.size < (w.alloc (.cells #[.int .u8 0, .string ⟨#[]⟩, .bool false, .int .u8 0, .int .i64 0, .int .i64 0] 28)).heap.size := by simp
  generalize (w.alloc (.cells #[.int .u8 0, .string ⟨#[]⟩, .bool false, .int .u8 0, .int .i64 0, .int .i64 0] 28)) = w1 at R1 X1 L1 hz1 ⊢
  go_loopw [13] (fun j wr => ∃ k : Nat, k ≤ i ∧ j = .int .i64 k ∧ Below w1.heap.size w1 wr) (fun j _ => i - (intOf j).toNat)
  case atStart => exact ⟨0, Nat.zero_le _, rfl, Below.refl _ _⟩
  case round =>
    obtain ⟨k, hk, rfl, hb⟩ := hrel
    have XB := Lib.hid hb
    have hz := hb.size
    have hk39 : k < 39 := by omega
    have bk := bs_bd k hk39
    have LB := Lib.hid (L1.out.below hb)
    obtain ⟨f0, f1, f2, f3, f4⟩ := LB.out.f k hk39
    have hsf := LB.out.sf
    have e0 : IntKind.i64.wrap x = x := IntWalk.i64_in _ (by omega)
    have e1 : IntKind.i64.wrap (x - bs k) = x - bs k := IntWalk.i64_in _ (by omega)
    have e2 : IntKind.u8.wrap ((k : Int) + 1) = (k : Int) + 1 := IntWalk.u8_in _ (by omega)
    clear hb
    by_cases hlt : k < i
    · by_cases he : decide (19 ≤ k) = ex
      · have HN := Lib.hid (decide_eq_false (show ¬ encOk k (x - bs k) from fun c => by
          have := dec_one hk39 he c
          rw [HD.out] at this; omega))
        have hee : (decide (19 ≤ k) == ex) = true := by rw [beq_iff_eq]; exact he
        clear he
        go_wp2_with (go_at_call 33; refine (encodes_any _ k hk39 (by omega) (x - bs k) false HN.out _ LB.out).mono ?_; rintro e w2 ⟨rfl, hb⟩; (have X2 := Lib.hid (XB.out.trans (hb.mono XB.out.size))); clear hb)
        exact ⟨⟨k + 1, by omega, by go_num, X2.out⟩, by simp [intOf]; omega⟩
      · have hee : (decide (19 ≤ k) == ex) = false := by rw [beq_eq_false_iff_ne]; exact he
        clear he
        go_wp2
        exact ⟨⟨k + 1, by omega, by go_num, XB.out⟩, by simp [intOf]; omega⟩
    · have e : k = i := by omega
      subst e
      have HN := Lib.hid (decide_eq_true HO.out)
      have hee : (decide (19 ≤ k) == ex) = true := by rw [beq_iff_eq]; exact HX.out
      go_wp2_with (first
        | (go_at_call 33; refine (encodes_any _ k hk39 (by omega) (x - bs k) true HN.out _ LB.out).mono ?_; rintro e w2 ⟨rfl, hb⟩; (have L2 := Lib.hid (LB.out.below hb)); (have X2 := Lib.hid (XB.out.trans (hb.mono XB.out.size))); (have hz2 := hb.size); clear hb)
        | (go_at_call 29; refine (opOf_any _ k hk39 (by omega) _ L2.out).mono ?_; rintro e w3 ⟨rfl, hb⟩; (have X3 := Lib.hid (X2.out.trans (hb.mono X2.out.size))); (have R2 := R1.out.below X3.out hz1); (obtain ⟨⟨r0, hr0⟩, hf0⟩ := R2 0 (by omega)); (obtain ⟨⟨r1, hr1⟩, hf1⟩ := R2 1 (by omega)); (obtain ⟨⟨r2, hr2⟩, hf2⟩ := R2 2 (by omega)); (obtain ⟨⟨r3, hr3⟩, hf3⟩ := R2 3 (by omega)); (obtain ⟨⟨r4, hr4⟩, hf4⟩ := R2 4 (by omega)); (obtain ⟨⟨r5, hr5⟩, hf5⟩ := R2 5 (by omega)); (have R2s := Lib.hid R2); clear R2 hb))
      have HC6 := set6 (w := w3) (g := w.heap.size) R2s.out.some (.int .u8 ((k : Int) + 1)) (.string (nm k)) (.bool (decide (19 ≤ k))) (.int .u8 (kd k)) (.int .i64 (bt (kd k))) (.int .i64 (cy k))
      have HB6 := below6 (g := w.heap.size) (X1.out.trans (X3.out.mono X1.out.size)) (Nat.le_refl _) (.int .u8 ((k : Int) + 1)) (.string (nm k)) (.bool (decide (19 ≤ k))) (.int .u8 (kd k)) (.int .i64 (bt (kd k))) (.int .i64 (cy k))
      exact ret_struct3 Tryd.results23 Tryd.underlying28 [.int .u8 ((k : Int) + 1), .string (nm k), .bool (decide (19 ≤ k)), .int .u8 (kd k), .int .i64 (bt (kd k)), .int .i64 (cy k)] (by kernel_rfl) w.heap.size rfl HC6 (.int .i64 (x - bs k)) (.int .i64 0) rfl rfl rfl ⟨rfl, HB6⟩
end Go.Proofs.YtjkdojdkmgaofaaDoor
