/- Contracts of layer 4: the program's Of, Range and Encode. -/
import Derived.Test.YtjkdojdkmgaofaaDoorM04
set_option linter.unusedSimpArgs false
set_option linter.unusedVariables false
namespace Go.Proofs.YtjkdojdkmgaofaaDoor
open Go.ChangeShapes Go.WideShapes Go.ChangeAt Go.RowKit
set_option maxHeartbeats 1000000 in
theorem Of_yes (c : Int) (i : Nat) (hi : i < 39) (hc : c - 1 = i) (w : World) (hL : Lay w) :
    Calls Tryd.prog 16 #[.int .u8 c] w (fun e w' => e = .returned (.tuple #[.agg #[.int .u8 c, .string (nm i), .bool (decide (19 ≤ i)), .int .u8 (kd i), .int .i64 (bt (kd i)), .int .i64 (cy i)], .int .i64 0]) ∧ Below w.heap.size w w') := by
  have HL := Lib.hid hL
  clear hL
  have HC := Lib.hid (show 1 ≤ c ∧ c ≤ 39 by omega)
  go_enter Tryd.func16, Tryd.ntmps16
  go_wp2_with (first
    | (go_at_call 28; refine (exists_yes c HC.out.1 HC.out.2 _).mono ?_; rintro e w0 ⟨rfl, rfl⟩)
    | (go_at_call 29; refine (opOf_any c i hi hc _ (HL.out.alloc _)).mono ?_; rintro e w1 ⟨rfl, hb⟩; (have R2 := (Six.alloc w 28 _ _ _ _ _ _).below hb (by simp)); (obtain ⟨⟨r0, hr0⟩, hf0⟩ := R2 0 (by omega)); (obtain ⟨⟨r1, hr1⟩, hf1⟩ := R2 1 (by omega)); (obtain ⟨⟨r2, hr2⟩, hf2⟩ := R2 2 (by omega)); (obtain ⟨⟨r3, hr3⟩, hf3⟩ := R2 3 (by omega)); (obtain ⟨⟨r4, hr4⟩, hf4⟩ := R2 4 (by omega)); (obtain ⟨⟨r5, hr5⟩, hf5⟩ := R2 5 (by omega)); (have R2s := Lib.hid R2); (have X1 := Lib.hid (((Below.refl w.heap.size w).alloc (Nat.le_refl _) _).trans (hb.mono (by simp)))); clear R2 hb))
  have HC6 := set6 (w := w1) (g := w.heap.size) R2s.out.some (.int .u8 c) (.string (nm i)) (.bool (decide (19 ≤ i))) (.int .u8 (kd i)) (.int .i64 (bt (kd i))) (.int .i64 (cy i))
  have HB6 := below6 (g := w.heap.size) X1.out (Nat.le_refl _) (.int .u8 c) (.string (nm i)) (.bool (decide (19 ≤ i))) (.int .u8 (kd i)) (.int .i64 (bt (kd i))) (.int .i64 (cy i))
  exact ret_struct2 Tryd.results16 Tryd.underlying28 [.int .u8 c, .string (nm i), .bool (decide (19 ≤ i)), .int .u8 (kd i), .int .i64 (bt (kd i)), .int .i64 (cy i)] (by kernel_rfl) w.heap.size rfl HC6 (.int .i64 0) rfl rfl ⟨rfl, HB6⟩
theorem Of_no (c : Int) (h : ¬ (1 ≤ c ∧ c ≤ 39)) (c0 : 0 ≤ c) (c1 : c ≤ 255) (w : World) :
    Calls Tryd.prog 16 #[.int .u8 c] w (fun e w' => e = .returned (.tuple #[.agg #[.int .u8 0, .string ⟨#[]⟩, .bool false, .int .u8 0, .int .i64 0, .int .i64 0], .int .i64 7]) ∧ Below w.heap.size w w') := by
  have H := Lib.hid h
  clear h
  go_enter Tryd.func16, Tryd.ntmps16
  go_wp2_with (go_at_call 28; refine (exists_no c c0 c1 H.out _).mono ?_; rintro e w0 ⟨rfl, rfl⟩)
  exact ret_struct2 Tryd.results16 Tryd.underlying28 [.int .u8 0, .string ⟨#[]⟩, .bool false, .int .u8 0, .int .i64 0, .int .i64 0] (by kernel_rfl) w.heap.size rfl (at_alloc [.int .u8 0, .string ⟨#[]⟩, .bool false, .int .u8 0, .int .i64 0, .int .i64 0]) (.int .i64 7) rfl rfl ⟨rfl, (Below.refl _ _).alloc (Nat.le_refl _) _⟩
theorem kd_255 (i : Nat) (h : i < 39) : 0 ≤ kd i ∧ kd i ≤ 255 := by have := kd_bd i h; omega
set_option maxHeartbeats 1000000 in
theorem Range_any (c0 : Int) (s : ByteArray) (b : Bool) (k x y : Int) (w : World) (hk : 0 ≤ k ∧ k ≤ 255) (hL : Lay w) :
    Calls Tryd.prog 18 #[.agg #[.int .u8 c0, .string s, .bool b, .int .u8 k, .int .i64 x, .int .i64 y]] w (fun e w' => e = .returned (.tuple #[.int .i64 (lo k), .int .i64 (hi k)]) ∧ Below w.heap.size w w') := by
  obtain ⟨h0, h1⟩ := hk
  by_cases h : k < 5
  · obtain ⟨hk0, hk1, hk2⟩ := hL.k k h0 h
    have hsk := hL.sk
    clear hL
    go_enter Tryd.func18, Tryd.ntmps18
    go_wp2
    go_region
    go_wp2
    go_ret2
    exact ⟨rfl, ((Below.refl _ _).alloc (Nat.le_refl _) _).drew⟩
  · clear hL
    have e0 : 0 = lo k := by unfold lo; rw [if_neg (by omega)]
    have e1 : 0 = hi k := by unfold hi; rw [if_neg (by omega), if_neg (by omega), if_neg (by omega), if_neg (by omega)]
    have E0 := Lib.hid e0
    have E1 := Lib.hid e1
    clear e0 e1
    go_enter Tryd.func18, Tryd.ntmps18
    go_wp2
    go_ret2
    exact ⟨ret_tup2 E0.out E1.out, (Below.refl _ _).alloc (Nat.le_refl _) _⟩
set_option maxHeartbeats 1000000 in
theorem Encode_no (c0 : Int) (s : ByteArray) (b : Bool) (q x y : Int) (h : ¬ (1 ≤ c0 ∧ c0 ≤ 39)) (h0 : 0 ≤ c0) (h1 : c0 ≤ 255) (k : Int) (k0 : -9223372036854775808 ≤ k) (k1 : k ≤ 9223372036854775807) (w : World) :
    Calls Tryd.prog 21 #[.agg #[.int .u8 c0, .string s, .bool b, .int .u8 q, .int .i64 x, .int .i64 y], .int .i64 k] w (fun e w' => e = .returned (.tuple #[.int .u16 0, .int .i64 7]) ∧ Below w.heap.size w w') := by
  have H := Lib.hid h
  clear h
  go_enter Tryd.func21, Tryd.ntmps21
  go_wp2_with (go_at_call 28; refine (exists_no c0 h0 h1 H.out _).mono ?_; rintro e w0 ⟨rfl, rfl⟩)
  go_ret2
  exact ⟨rfl, (Below.refl _ _).alloc (Nat.le_refl _) _⟩
set_option maxHeartbeats 1000000 in
theorem Encode_yes (c0 : Int) (s : ByteArray) (b : Bool) (q x y : Int) (i : Nat) (h39 : i < 39) (hc : c0 - 1 = i) (k : Int) (k0 : -9223372036854775808 ≤ k) (k1 : k ≤ 9223372036854775807) (w : World) (hL : Lay w) :
    Calls Tryd.prog 21 #[.agg #[.int .u8 c0, .string s, .bool b, .int .u8 q, .int .i64 x, .int .i64 y], .int .i64 k] w (fun e w' => e = .returned (.tuple #[.int .u16 (encW i k), .int .i64 (encE i k)]) ∧ Below w.heap.size w w') := by
  have HL := Lib.hid hL
  have HC := Lib.hid (show 1 ≤ c0 ∧ c0 ≤ 39 by omega)
  clear hL
  have hz0 : (w.alloc (.cells #[.int .u8 c0, .string s, .bool b, .int .u8 q, .int .i64 x, .int .i64 y] 28)).heap.size = w.heap.size + 1 := by simp
  have O0 : (w.alloc (.cells #[.int .u8 c0, .string s, .bool b, .int .u8 q, .int .i64 x, .int .i64 y] 28)).cell? ⟨w.heap.size, 0, none⟩ = some (.int .u8 c0) := by rw [World.cell?_alloc_at _ _ _ _ rfl]; rfl
  have B0 := Lib.hid ((Below.refl w.heap.size w).alloc (Nat.le_refl _) (.cells #[.int .u8 c0, .string s, .bool b, .int .u8 q, .int .i64 x, .int .i64 y] 28))
  have L0 := Lib.hid (HL.out.alloc (.cells #[.int .u8 c0, .string s, .bool b, .int .u8 q, .int .i64 x, .int .i64 y] 28))
  have fd : ∀ w : World, (Instr.field 56 (.agg #[.string (nm i), .bool (decide (19 ≤ i)), .int .u8 (kd i), .int .i64 (bs i), .int .i64 (cy i)]) 3).run Tryd.prog w = .ok (.int .i64 (bs i)) w := fun _ => by kernel_rfl
  by_cases d : encOk i k
  · have HT := Lib.hid (decide_eq_true d)
    have E := Lib.hid (enc_yes d)
    obtain ⟨d1, d2, d3⟩ := d
    have bsb := bs_hi i h39
    have bsb2 := bs_bd i h39
    have e3 : IntKind.i64.wrap (bs i + k) = bs i + k := IntWalk.i64_in _ (by omega)
    have e4 : IntKind.u16.wrap (bs i + k) = bs i + k := IntWalk.u16_in _ (by omega)
    clear d1 d2 d3 bsb bsb2
    go_enter Tryd.func21, Tryd.ntmps21
    go_wp2_with (first
      | (go_at_call 28; refine (exists_yes c0 HC.out.1 HC.out.2 _).mono ?_; rintro e w0 ⟨rfl, rfl⟩)
      | (go_at_call 33; refine (encodes_any c0 i h39 hc k true HT.out _ L0.out).mono ?_; rintro e w1 ⟨rfl, hb⟩; (have O1 := (hb.cell (p := ⟨w.heap.size, 0, none⟩) (by simp)).trans O0); (have hz1 : w.heap.size < w1.heap.size := by have := hb.size; simp at this; omega); (have L1 := Lib.hid (L0.out.below hb)); (have X1 := Lib.hid (B0.out.trans (hb.mono (by simp)))); clear hb)
      | (go_at_call 34; refine (formOf_any c0 i h39 hc _ L1.out).mono ?_; rintro e w2 ⟨rfl, hb⟩; (have X2 := Lib.hid (X1.out.trans (hb.mono X1.out.size))); clear hb))
    go_ret2
    exact ⟨ret_tup2 E.out.1 E.out.2, X2.out⟩
  · have HT := Lib.hid (decide_eq_false d)
    have E := Lib.hid (enc_no d)
    clear d
    go_enter Tryd.func21, Tryd.ntmps21
    go_wp2_with (first
      | (go_at_call 28; refine (exists_yes c0 HC.out.1 HC.out.2 _).mono ?_; rintro e w0 ⟨rfl, rfl⟩)
      | (go_at_call 33; refine (encodes_any c0 i h39 hc k false HT.out _ L0.out).mono ?_; rintro e w1 ⟨rfl, hb⟩; (have X1 := Lib.hid (B0.out.trans (hb.mono (by simp)))); clear hb))
    go_ret2
    exact ⟨ret_tup2 E.out.1 E.out.2, X1.out⟩
end Go.Proofs.YtjkdojdkmgaofaaDoor
