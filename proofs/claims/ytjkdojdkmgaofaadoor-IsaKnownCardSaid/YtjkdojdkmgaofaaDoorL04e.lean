/- Contracts of layer 4: the reference's Find. -/
import Derived.Test.YtjkdojdkmgaofaaDoorL04d
set_option linter.unusedSimpArgs false
set_option linter.unusedVariables false
namespace Go.Proofs.YtjkdojdkmgaofaaDoor
open Go.ChangeShapes Go.WideShapes Go.ChangeAt Go.RowKit
theorem txt_ne {a b : ByteArray} (h : a ≠ b) : (a.toList == b.toList) = false := by
  rw [beq_eq_false_iff_ne]; intro c; exact h ((toList_inj' a b).1 c)
theorem txt_eq {a b : ByteArray} (h : a = b) : (a.toList == b.toList) = true := by rw [h]; simp
set_option maxHeartbeats 2000000 in
theorem rFind_hit (s : ByteArray) (i : Nat) (h39 : i < 39) (hs : nm i = s) (w : World) :
    Calls Tryd.prog 15 #[.string s] w fun e w' => e = .returned (.tuple #[.agg #[.int .u8 ((i : Int) + 1), .string (nm i), .bool (decide (19 ≤ i)), .int .u8 (kd i), .int .i64 (bt (kd i)), .int .i64 (cy i)], .int .i64 0]) ∧ Below w.heap.size w w' := by
  have HS := Lib.hid hs
  clear hs
  go_enter Tryd.func15, Tryd.ntmps15
  go_wp2_with (go_at_call 13; refine (rNames_any _).mono ?_; rintro e w1 ⟨g1, c1, rfl, hg1, hg2, hcell1, hb1⟩)
  have HC1 := Lib.hid hcell1
  have X1 := Lib.hid (((Below.refl w.heap.size w).alloc (Nat.le_refl _) _).trans (hb1.mono (by simp)))
  have hz1 : w.heap.size < w1.heap.size := by have := hb1.size; simp at this; omega
  have R1 := Lib.hid ((Six.alloc w 28 _ _ _ _ _ _).below hb1 (by simp))
  clear hcell1 hb1
  go_loop [5] (fun j => ∃ k : Nat, k ≤ i ∧ j = .int .i64 k) (fun j => i - (intOf j).toNat)
  case atStart => exact ⟨0, Nat.zero_le _, rfl⟩
  case round =>
    obtain ⟨k, hk, rfl⟩ := hrel
    have cell1 := HC1.out k (by omega)
    by_cases hlt : k < i
    · have t := txt_ne (a := nm k) (b := s) (fun c => by have := nm_inj k (by omega) i h39 (c.trans HS.out.symm); omega)
      go_wp2
      exact ⟨⟨k + 1, by omega, by go_num⟩, by simp [intOf]; omega⟩
    · have e : k = i := by omega
      subst e
      have t := txt_eq HS.out
      go_wp2_with (go_at_call 17; refine (rOf_yes _ k (by omega) (by omega) _).mono ?_; rintro e w2 ⟨rfl, hb2⟩; (have R2 := R1.out.below hb2 hz1); (obtain ⟨⟨r0, hr0⟩, hf0⟩ := R2 0 (by omega)); (obtain ⟨⟨r1, hr1⟩, hf1⟩ := R2 1 (by omega)); (obtain ⟨⟨r2, hr2⟩, hf2⟩ := R2 2 (by omega)); (obtain ⟨⟨r3, hr3⟩, hf3⟩ := R2 3 (by omega)); (obtain ⟨⟨r4, hr4⟩, hf4⟩ := R2 4 (by omega)); (obtain ⟨⟨r5, hr5⟩, hf5⟩ := R2 5 (by omega)); (have R2s := Lib.hid R2.some); (have X2 := Lib.hid (X1.out.trans (hb2.mono X1.out.size))); clear R2 hb2)
      have HC6 := set6 (w := w2) (g := w.heap.size) R2s.out (.int .u8 ((k : Int) + 1)) (.string (nm k)) (.bool (decide (19 ≤ k))) (.int .u8 (kd k)) (.int .i64 (bt (kd k))) (.int .i64 (cy k))
      have HB6 := below6 (g := w.heap.size) X2.out (Nat.le_refl _) (.int .u8 ((k : Int) + 1)) (.string (nm k)) (.bool (decide (19 ≤ k))) (.int .u8 (kd k)) (.int .i64 (bt (kd k))) (.int .i64 (cy k))
      exact ret_struct2 Tryd.results15 Tryd.underlying28 [.int .u8 ((k : Int) + 1), .string (nm k), .bool (decide (19 ≤ k)), .int .u8 (kd k), .int .i64 (bt (kd k)), .int .i64 (cy k)] (by kernel_rfl) w.heap.size rfl HC6 (.int .i64 0) rfl rfl ⟨rfl, HB6⟩
set_option maxHeartbeats 2000000 in
theorem rFind_miss (s : ByteArray) (hs : ∀ i, i < 39 → nm i ≠ s) (w : World) :
    Calls Tryd.prog 15 #[.string s] w fun e w' => e = .returned (.tuple #[.agg #[.int .u8 0, .string ⟨#[]⟩, .bool false, .int .u8 0, .int .i64 0, .int .i64 0], .int .i64 7]) ∧ Below w.heap.size w w' := by
  have HS := Lib.hid hs
  clear hs
  go_enter Tryd.func15, Tryd.ntmps15
  go_wp2_with (go_at_call 13; refine (rNames_any _).mono ?_; rintro e w1 ⟨g1, c1, rfl, hg1, hg2, hcell1, hb1⟩)
  have HC1 := Lib.hid hcell1
  have X1 := Lib.hid (((Below.refl w.heap.size w).alloc (Nat.le_refl _) _).trans (hb1.mono (by simp)))
  have R1 := Lib.hid ((Six.alloc w 28 _ _ _ _ _ _).below hb1 (by simp))
  clear hcell1 hb1
  go_loop [5] (fun j => ∃ k : Nat, k ≤ 39 ∧ j = .int .i64 k) (fun j => 39 - (intOf j).toNat)
  case atStart => exact ⟨0, Nat.zero_le _, rfl⟩
  case round =>
    obtain ⟨k, hk, rfl⟩ := hrel
    by_cases hlt : k < 39
    · have cell1 := HC1.out k hlt
      have t := txt_ne (HS.out k hlt)
      go_wp2
      exact ⟨⟨k + 1, by omega, by go_num⟩, by simp [intOf]; omega⟩
    · have e : k = 39 := by omega
      subst e
      have R2 := R1.out
      obtain ⟨⟨r0, hr0⟩, hf0⟩ := R2 0 (by omega)
      obtain ⟨⟨r1, hr1⟩, hf1⟩ := R2 1 (by omega)
      obtain ⟨⟨r2, hr2⟩, hf2⟩ := R2 2 (by omega)
      obtain ⟨⟨r3, hr3⟩, hf3⟩ := R2 3 (by omega)
      obtain ⟨⟨r4, hr4⟩, hf4⟩ := R2 4 (by omega)
      obtain ⟨⟨r5, hr5⟩, hf5⟩ := R2 5 (by omega)
      have R2s := Lib.hid R2.some
      clear R2
      go_wp2
      have HC6 := set6 (w := w1) (g := w.heap.size) R2s.out (.int .u8 0) (.string ⟨#[]⟩) (.bool false) (.int .u8 0) (.int .i64 0) (.int .i64 0)
      have HB6 := below6 (g := w.heap.size) X1.out (Nat.le_refl _) (.int .u8 0) (.string ⟨#[]⟩) (.bool false) (.int .u8 0) (.int .i64 0) (.int .i64 0)
      exact ret_struct2 Tryd.results15 Tryd.underlying28 [.int .u8 0, .string ⟨#[]⟩, .bool false, .int .u8 0, .int .i64 0, .int .i64 0] (by kernel_rfl) w.heap.size rfl HC6 (.int .i64 7) rfl rfl ⟨rfl, HB6⟩
end Go.Proofs.YtjkdojdkmgaofaaDoor
