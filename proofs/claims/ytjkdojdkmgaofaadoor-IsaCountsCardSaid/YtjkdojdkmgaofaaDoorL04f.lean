/- Contracts of layer 4: the helpers of its statements. -/
import Derived.Test.YtjkdojdkmgaofaaDoorM04e
import Derived.Deep.QuietTactic
import Derived.Deep.RegionWith
set_option linter.unusedSimpArgs false
set_option linter.unusedVariables false
namespace Go.Proofs.YtjkdojdkmgaofaaDoor
open Go.ChangeShapes Go.WideShapes Go.ChangeAt Go.RowKit
/-- Two slices with the 39 names are equal texts. -/
theorem rTexts_yes (g1 c1 g2 c2 : Nat) (w : World) (h1 : ∀ i, i < 39 → w.cell? ⟨g1, i, none⟩ = some (.string (nm i))) (h2 : ∀ i, i < 39 → w.cell? ⟨g2, i, none⟩ = some (.string (nm i))) :
    Calls Tryd.prog 11 #[.slice (some ⟨g1, 0, none⟩) 39 c1, .slice (some ⟨g2, 0, none⟩) 39 c2] w fun e w' => e = .returned (.bool true) ∧ ∃ m, w' = w.drewN m := by
  have H1 := Lib.hid h1
  have H2 := Lib.hid h2
  clear h1 h2
  go_enter Tryd.func11, Tryd.ntmps11
  go_wp2
  go_loopw [5] (fun j wr => ∃ k : Nat, k ≤ 39 ∧ j = .int .i64 k ∧ ∃ m, wr = w.drewN m) (fun j _ => 39 - (intOf j).toNat)
  case atStart => exact ⟨0, Nat.zero_le _, rfl, 0, rfl⟩
  case round =>
    obtain ⟨k, hk, rfl, m, rfl⟩ := hrel
    by_cases hlt : k < 39
    · have d1 := H1.out k hlt
      have d2 := H2.out k hlt
      go_wp2
      go_quiet (fail)
      go_wp2
      exact ⟨⟨k + 1, by omega, by go_num, _, rfl⟩, by simp [intOf]; omega⟩
    · have e : k = 39 := by omega
      subst e
      go_wp2
      go_ret
      exact ⟨rfl, _, rfl⟩
def wordV (i : Nat) (k : Int) : Int := if encOk i k then bs i + k else 65535
set_option maxHeartbeats 2000000 in
theorem word_eq (s : ByteArray) (k v : Int) (h : ∃ i, i < 39 ∧ nm i = s ∧ wordV i k = v) (k0 : -9223372036854775808 ≤ k) (k1 : k ≤ 9223372036854775807) (w : World) (hL : Lay w) :
    Calls Tryd.prog 25 #[.string s, .int .i64 k] w fun e w' => e = .returned (.int .u16 v) ∧ Below w.heap.size w w' := by
  have HL := Lib.hid hL
  clear hL
  obtain ⟨i, h39, hs, hv⟩ := h
  have HS := Lib.hid hs
  clear hs
  by_cases d : encOk i k
  · have e0 : encE i k = 0 := (enc_yes d).2.symm
    have e1 : encW i k = v := by rw [← hv]; unfold encW wordV; rw [if_pos d, if_pos d]
    clear d hv
    go_enter Tryd.func25, Tryd.ntmps25
    go_wp2_with (first
      | (go_at_call 14; refine (Find_hit s i h39 HS.out _ (by repeat (first | exact HL.out | exact Lay.keep HL (by assumption) | exact Lay.keep HLW (by assumption) | refine Lay.alloc ?_ _ | refine Lay.drew ?_))).mono ?_; rintro e w1 ⟨rfl, hb1⟩; (have X1 := Lib.hid hb1); clear hb1)
      | (go_at_call 21; refine (Encode_yes _ _ _ _ _ _ i h39 (by omega) k k0 k1 _ (by repeat (first | exact HL.out | exact Lay.keep HL (by assumption) | exact Lay.keep HLW (by assumption) | refine Lay.alloc ?_ _ | refine Lay.drew ?_))).mono ?_; rintro e w2 ⟨rfl, hb2⟩; (have X2 := Lib.hid ((X1.out.alloc X1.out.size _).trans (hb2.mono (by have := X1.out.size; simp; omega)))); clear hb2))
    go_ret
    exact ⟨rfl, X2.out⟩
  · have e0 : encE i k = 3 := (enc_no d).2.symm
    have e1 : v = 65535 := by rw [← hv]; unfold wordV; rw [if_neg d]
    subst e1
    clear d hv
    go_enter Tryd.func25, Tryd.ntmps25
    go_wp2_with (first
      | (go_at_call 14; refine (Find_hit s i h39 HS.out _ (by repeat (first | exact HL.out | exact Lay.keep HL (by assumption) | exact Lay.keep HLW (by assumption) | refine Lay.alloc ?_ _ | refine Lay.drew ?_))).mono ?_; rintro e w1 ⟨rfl, hb1⟩; (have X1 := Lib.hid hb1); clear hb1)
      | (go_at_call 21; refine (Encode_yes _ _ _ _ _ _ i h39 (by omega) k k0 k1 _ (by repeat (first | exact HL.out | exact Lay.keep HL (by assumption) | exact Lay.keep HLW (by assumption) | refine Lay.alloc ?_ _ | refine Lay.drew ?_))).mono ?_; rintro e w2 ⟨rfl, hb2⟩; (have X2 := Lib.hid ((X1.out.alloc X1.out.size _).trans (hb2.mono (by have := X1.out.size; simp; omega)))); clear hb2))
    go_ret
    exact ⟨rfl, X2.out⟩
set_option maxHeartbeats 2000000 in
theorem is_yes (x : Int) (ex : Bool) (s : ByteArray) (k : Int) (h : ∃ i, decI x ex = i ∧ nm i = s ∧ x - bs i = k ∧ 0 ≤ x ∧ x ≤ 32767) (w : World) (hL : Lay w) :
    Calls Tryd.prog 26 #[.int .u16 x, .bool ex, .string s, .int .i64 k] w fun e w' => e = .returned (.bool true) ∧ Below w.heap.size w w' := by
  have HL := Lib.hid hL
  clear hL
  obtain ⟨i, hi, hs, hk, x0, x1⟩ := h
  have HI := Lib.hid hi
  have HX : decide (19 ≤ i) = ex := by rw [← hi]; exact decI_ext x ex
  have HX2 : (decide (19 ≤ i) == ex) = true := by rw [beq_iff_eq]; exact HX
  have HS := txt_eq hs
  clear hi hs HX
  go_enter Tryd.func26, Tryd.ntmps26
  go_wp2_with (go_at_call 23; refine (Decode_yes x x0 x1 ex i HI.out _ (by repeat (first | exact HL.out | exact Lay.keep HL (by assumption) | exact Lay.keep HLW (by assumption) | refine Lay.alloc ?_ _ | refine Lay.drew ?_))).mono ?_; rintro e w1 ⟨rfl, hb1⟩; (have X1 := Lib.hid hb1); clear hb1)
  go_ret
  exact ⟨rfl, X1.out.alloc X1.out.size _⟩
theorem kw0 : ∃ i, i < 39 ∧ nm i = ⟨#[84, 67]⟩ ∧ wordV i 100 = 100 := ⟨0, by decide, rfl, by decide⟩
theorem kw1 : ∃ i, i < 39 ∧ nm i = ⟨#[84, 67]⟩ ∧ wordV i 4 = 65535 := ⟨0, by decide, rfl, by decide⟩
theorem kw2 : ∃ i, i < 39 ∧ nm i = ⟨#[84, 67, 70]⟩ ∧ wordV i 1024 = 5120 := ⟨5, by decide, rfl, by decide⟩
theorem kw3 : ∃ i, i < 39 ∧ nm i = ⟨#[87, 82, 73, 84, 69]⟩ ∧ wordV i 511 = 1023 := ⟨20, by decide, rfl, by decide⟩
theorem kw4 : ∃ i, i < 39 ∧ nm i = ⟨#[88, 67, 72]⟩ ∧ wordV i 7 = 23559 := ⟨16, by decide, rfl, by decide⟩
theorem kw5 : ∃ i, i < 39 ∧ nm i = ⟨#[82, 69, 83, 85, 77, 69]⟩ ∧ wordV i 0 = 20495 := ⟨13, by decide, rfl, by decide⟩
theorem kw6 : ∃ i, i < 39 ∧ nm i = ⟨#[82, 69, 83, 85, 77, 69]⟩ ∧ wordV i 1 = 65535 := ⟨13, by decide, rfl, by decide⟩
theorem kw7 : ∃ i, i < 39 ∧ nm i = ⟨#[73, 78, 68, 69, 88]⟩ ∧ wordV i 15 = 65535 := ⟨12, by decide, rfl, by decide⟩
theorem kw8 : ∃ i, i < 39 ∧ nm i = ⟨#[73, 78, 68, 69, 88]⟩ ∧ wordV i 16 = 20496 := ⟨12, by decide, rfl, by decide⟩
theorem kw9 : ∃ i, i < 39 ∧ nm i = ⟨#[67, 67, 83]⟩ ∧ wordV i 1024 = 65535 := ⟨4, by decide, rfl, by decide⟩
theorem kw10 : ∃ i, i < 39 ∧ nm i = ⟨#[84, 67, 70]⟩ ∧ wordV i 1023 = 65535 := ⟨5, by decide, rfl, by decide⟩
theorem kw11 : ∃ i, i < 39 ∧ nm i = ⟨#[84, 67]⟩ ∧ wordV i (-1) = 65535 := ⟨0, by decide, rfl, by decide⟩
theorem kw12 : ∃ i, i < 39 ∧ nm i = ⟨#[77, 80]⟩ ∧ wordV i 4096 = 65535 := ⟨38, by decide, rfl, by decide⟩
theorem ki0 : ∃ i, decI 6 false = i ∧ nm i = ⟨#[69, 88, 84, 69, 78, 68]⟩ ∧ (6 : Int) - bs i = 0 ∧ (0 : Int) ≤ 6 ∧ (6 : Int) ≤ 32767 := ⟨1, by decide, rfl, by decide, by decide, by decide⟩
theorem ki1 : ∃ i, decI 6 true = i ∧ nm i = ⟨#[82, 69, 65, 68]⟩ ∧ (6 : Int) - bs i = 6 ∧ (0 : Int) ≤ 6 ∧ (6 : Int) ≤ 32767 := ⟨19, by decide, rfl, by decide, by decide, by decide⟩
theorem ki2 : ∃ i, decI 20495 false = i ∧ nm i = ⟨#[82, 69, 83, 85, 77, 69]⟩ ∧ (20495 : Int) - bs i = 0 ∧ (0 : Int) ≤ 20495 ∧ (20495 : Int) ≤ 32767 := ⟨13, by decide, rfl, by decide, by decide, by decide⟩
theorem ki3 : ∃ i, decI 5120 true = i ∧ nm i = ⟨#[66, 90, 70]⟩ ∧ (5120 : Int) - bs i = 1024 ∧ (0 : Int) ≤ 5120 ∧ (5120 : Int) ≤ 32767 := ⟨28, by decide, rfl, by decide, by decide, by decide⟩
theorem ki4 : ∃ i, decI 20495 true = i ∧ nm i = ⟨#[88, 73, 78, 68, 69, 88]⟩ ∧ (20495 : Int) - bs i = 15 ∧ (0 : Int) ≤ 20495 ∧ (20495 : Int) ≤ 32767 := ⟨35, by decide, rfl, by decide, by decide, by decide⟩
theorem ki5 : ∃ i, decI 5119 false = i ∧ nm i = ⟨#[67, 67, 83]⟩ ∧ (5119 : Int) - bs i = 1023 ∧ (0 : Int) ≤ 5119 ∧ (5119 : Int) ≤ 32767 := ⟨4, by decide, rfl, by decide, by decide, by decide⟩
theorem ki6 : ∃ i, decI 0 false = i ∧ nm i = ⟨#[84, 67]⟩ ∧ (0 : Int) - bs i = 0 ∧ (0 : Int) ≤ 0 ∧ (0 : Int) ≤ 32767 := ⟨0, by decide, rfl, by decide, by decide, by decide⟩
theorem ki7 : ∃ i, decI 32767 false = i ∧ nm i = ⟨#[77, 65, 83, 75]⟩ ∧ (32767 : Int) - bs i = 4095 ∧ (0 : Int) ≤ 32767 ∧ (32767 : Int) ≤ 32767 := ⟨18, by decide, rfl, by decide, by decide, by decide⟩
theorem ki8 : ∃ i, decI 32767 true = i ∧ nm i = ⟨#[77, 80]⟩ ∧ (32767 : Int) - bs i = 4095 ∧ (0 : Int) ≤ 32767 ∧ (32767 : Int) ≤ 32767 := ⟨38, by decide, rfl, by decide, by decide, by decide⟩
theorem ki9 : ∃ i, decI 3584 true = i ∧ nm i = ⟨#[69, 68, 82, 85, 80, 84]⟩ ∧ (3584 : Int) - bs i = 0 ∧ (0 : Int) ≤ 3584 ∧ (3584 : Int) ≤ 32767 := ⟨26, by decide, rfl, by decide, by decide, by decide⟩
theorem Find_CCS (w : World) (hL : Lay w) : Calls Tryd.prog 14 #[.string ⟨#[67, 67, 83]⟩] w fun e w' => e = .returned (.tuple #[.agg #[.int .u8 5, .string ⟨#[67, 67, 83]⟩, .bool false, .int .u8 1, .int .i64 10, .int .i64 2], .int .i64 0]) ∧ Below w.heap.size w w' := Find_hit _ 4 (by omega) rfl w hL
theorem no_ccs : ∀ i, i < 39 → nm i ≠ ⟨#[99, 99, 115]⟩ := by decide
set_option maxHeartbeats 1600000 in
theorem works4_any (w : World) (hL : Lay w) : Calls Tryd.prog 20 #[] w fun e w' => e = .returned (.bool true) ∧ Below w.heap.size w w' := by
  have HL := Lib.hid hL
  clear hL
  go_enter Tryd.func20, Tryd.ntmps20
  go_wp2_with (first
    | (go_at_call 14; refine (Find_CCS _ (by repeat (first | exact HL.out | exact Lay.keep HL (by assumption) | exact Lay.keep HLW (by assumption) | refine Lay.alloc ?_ _ | refine Lay.drew ?_))).mono ?_; rintro e w1 ⟨rfl, hb⟩; (have B1 := Lib.hid hb); clear hb)
    | (go_at_call 14; refine (Find_miss _ no_ccs (by decide) _ (by repeat (first | exact HL.out | exact Lay.keep HL (by assumption) | exact Lay.keep HLW (by assumption) | refine Lay.alloc ?_ _ | refine Lay.drew ?_))).mono ?_; rintro e w2 ⟨rfl, hb⟩; (obtain ⟨hk1, hk2⟩ := bcell hb); (have hz2 : w1.heap.size < w2.heap.size := by have := hb.size; simp at this; omega); (have B2 := Lib.hid ((B1.out.alloc B1.out.size _).trans (hb.mono (by have := B1.out.size; simp; omega)))); clear hb)
    | (go_at_call_of 25 (Value.int IntKind.i64 (100)); refine (word_eq ⟨#[84, 67]⟩ (100) 100 kw0 (by decide) (by decide) _ (by repeat (first | exact HL.out | exact Lay.keep HL (by assumption) | exact Lay.keep HLW (by assumption) | refine Lay.alloc ?_ _ | refine Lay.drew ?_))).mono ?_; rintro e w3 ⟨rfl, hb⟩; (have B3 := Lib.hid ((B2.out.alloc B2.out.size _).trans (hb.mono (by have := B2.out.size; simp; omega)))); clear hb)
    | (go_at_call_of 25 (Value.int IntKind.i64 (4)); refine (word_eq ⟨#[84, 67]⟩ (4) 65535 kw1 (by decide) (by decide) _ (by repeat (first | exact HL.out | exact Lay.keep HL (by assumption) | exact Lay.keep HLW (by assumption) | refine Lay.alloc ?_ _ | refine Lay.drew ?_))).mono ?_; rintro e w4 ⟨rfl, hb⟩; (have B4 := Lib.hid (B3.out.trans (hb.mono B3.out.size))); clear hb)
    | (go_at_call_of 25 (Value.int IntKind.i64 (1024)); refine (word_eq ⟨#[84, 67, 70]⟩ (1024) 5120 kw2 (by decide) (by decide) _ (by repeat (first | exact HL.out | exact Lay.keep HL (by assumption) | exact Lay.keep HLW (by assumption) | refine Lay.alloc ?_ _ | refine Lay.drew ?_))).mono ?_; rintro e w5 ⟨rfl, hb⟩; (have B5 := Lib.hid (B4.out.trans (hb.mono B4.out.size))); clear hb)
    | (go_at_call_of 25 (Value.int IntKind.i64 (511)); refine (word_eq ⟨#[87, 82, 73, 84, 69]⟩ (511) 1023 kw3 (by decide) (by decide) _ (by repeat (first | exact HL.out | exact Lay.keep HL (by assumption) | exact Lay.keep HLW (by assumption) | refine Lay.alloc ?_ _ | refine Lay.drew ?_))).mono ?_; rintro e w6 ⟨rfl, hb⟩; (have B6 := Lib.hid (B5.out.trans (hb.mono B5.out.size))); clear hb)
    | (go_at_call_of 26 (Value.int IntKind.u16 6); go_at_call_of 26 (Value.bool false); refine (is_yes 6 false ⟨#[69, 88, 84, 69, 78, 68]⟩ 0 ki0 _ (by repeat (first | exact HL.out | exact Lay.keep HL (by assumption) | exact Lay.keep HLW (by assumption) | refine Lay.alloc ?_ _ | refine Lay.drew ?_))).mono ?_; rintro e w7 ⟨rfl, hb⟩; (have B7 := Lib.hid (B6.out.trans (hb.mono B6.out.size))); clear hb)
    | (go_at_call_of 26 (Value.int IntKind.u16 6); go_at_call_of 26 (Value.bool true); refine (is_yes 6 true ⟨#[82, 69, 65, 68]⟩ 6 ki1 _ (by repeat (first | exact HL.out | exact Lay.keep HL (by assumption) | exact Lay.keep HLW (by assumption) | refine Lay.alloc ?_ _ | refine Lay.drew ?_))).mono ?_; rintro e w8 ⟨rfl, hb⟩; (have B8 := Lib.hid (B7.out.trans (hb.mono B7.out.size))); clear hb)
    | (go_at_call_of 26 (Value.int IntKind.u16 20495); go_at_call_of 26 (Value.bool false); refine (is_yes 20495 false ⟨#[82, 69, 83, 85, 77, 69]⟩ 0 ki2 _ (by repeat (first | exact HL.out | exact Lay.keep HL (by assumption) | exact Lay.keep HLW (by assumption) | refine Lay.alloc ?_ _ | refine Lay.drew ?_))).mono ?_; rintro e w9 ⟨rfl, hb⟩; (have B9 := Lib.hid (B8.out.trans (hb.mono B8.out.size))); clear hb)
    | (go_at_call_of 26 (Value.int IntKind.u16 5120); go_at_call_of 26 (Value.bool true); refine (is_yes 5120 true ⟨#[66, 90, 70]⟩ 1024 ki3 _ (by repeat (first | exact HL.out | exact Lay.keep HL (by assumption) | exact Lay.keep HLW (by assumption) | refine Lay.alloc ?_ _ | refine Lay.drew ?_))).mono ?_; rintro e w10 ⟨rfl, hb⟩; (have B10 := Lib.hid (B9.out.trans (hb.mono B9.out.size))); clear hb))
  go_ret
  exact ⟨rfl, B10.out⟩
end Go.Proofs.YtjkdojdkmgaofaaDoor
