/- Contracts of layer 4: the reference's Encode. -/
import Derived.Test.YtjjkikghfmnikaaGreatDoorQ09
set_option linter.unusedSimpArgs false
set_option linter.unusedVariables false
namespace Go.Proofs.YtjjkikghfmnikaaGreatDoor
open Go.ChangeShapes Go.WideShapes Go.ChangeAt Go.RowKit
/-- What Encode answers for instruction i. -/
def encW (i : Nat) (k : Int) : Int := if encOk i k then bs i + k else 0
def encE (i : Nat) (k : Int) : Int := if encOk i k then 0 else 3
theorem enc_no {i : Nat} {k : Int} (h : ¬ encOk i k) : 0 = encW i k ∧ 3 = encE i k := by unfold encW encE; rw [if_neg h, if_neg h]; exact ⟨rfl, rfl⟩
theorem enc_yes {i : Nat} {k : Int} (h : encOk i k) : bs i + k = encW i k ∧ 0 = encE i k := by unfold encW encE; rw [if_pos h, if_pos h]; exact ⟨rfl, rfl⟩
theorem rEncode_no (c0 : Int) (s : ByteArray) (b : Bool) (q x y : Int) (h : ¬ (1 ≤ c0 ∧ c0 ≤ 39)) (k : Int) (w : World) :
    Calls Tryz.prog 86 #[.agg #[.int .u8 c0, .string s, .bool b, .int .u8 q, .int .i64 x, .int .i64 y], .int .i64 k] w fun e w' => e = .returned (.tuple #[.int .u16 0, .int .i64 7]) ∧ Below w.heap.size w w' := by
  go_enter Tryz.func86, Tryz.ntmps86
  go_wp2_with (go_at_call 85; refine (rOf_no c0 h _).mono ?_; rintro e w1 ⟨rfl, hb1⟩; (have X1 := Lib.hid (((Below.refl w.heap.size w).alloc (Nat.le_refl _) _).trans (hb1.mono (by simp)))); clear hb1)
  go_ret2
  exact ⟨rfl, X1.out.alloc X1.out.size _⟩
set_option maxHeartbeats 4000000 in
theorem rEncode_yes (c0 : Int) (s : ByteArray) (b : Bool) (q x y : Int) (i : Nat) (h39 : i < 39) (hc : c0 - 1 = i) (k : Int) (k0 : -9223372036854775808 ≤ k) (k1 : k ≤ 9223372036854775807) (w : World) :
    Calls Tryz.prog 86 #[.agg #[.int .u8 c0, .string s, .bool b, .int .u8 q, .int .i64 x, .int .i64 y], .int .i64 k] w fun e w' => e = .returned (.tuple #[.int .u16 (encW i k), .int .i64 (encE i k)]) ∧ Below w.heap.size w w' := by
  have HI := Lib.hid h39
  have HC := Lib.hid hc
  have hlh := bs_hi i h39
  have hcb : 1 ≤ c0 ∧ c0 ≤ 39 := by omega
  by_cases d : encOk i k
  · obtain ⟨d1, d2, d3⟩ := d
    have E := Lib.hid (enc_yes ⟨d1, d2, d3⟩)
    have R : rsvB i k = false := by unfold rsvB; simp [d3]
    have bsb := bs_bd i h39
    clear d3
    go_enter Tryz.func86, Tryz.ntmps86
    go_wp2_with (first
      | (go_at_call 85; refine (rOf_yes c0 i HI.out HC.out _).mono ?_; rintro e w1 ⟨rfl, hb1⟩; (have X1 := Lib.hid (((Below.refl w.heap.size w).alloc (Nat.le_refl _) _).trans (hb1.mono (by simp)))); clear hb1)
      | (go_at_call 147; refine (rRange_any _ _ _ _ _ _ _).mono ?_; rintro e w2 ⟨rfl, hb2⟩; (obtain ⟨hk1, hk2⟩ := bcell hb2); (have hz2 : w1.heap.size < w2.heap.size := by have := hb2.size; simp at this; omega); (have X2 := Lib.hid ((X1.out.alloc X1.out.size _).trans (hb2.mono (by have := X1.out.size; simp; omega)))); clear hb2)
      | (go_at_call 148; refine (rreserved_any i HI.out k k0 k1 _).mono ?_; rintro e w3 ⟨rfl, rfl⟩))
    have e1 : IntKind.u8.wrap (c0 - 1) = (i : Int) := by rw [HC.out]; exact IntWalk.u8_in _ (by omega)
    have e2 : IntKind.u8.wrap (i : Int) = (i : Int) := IntWalk.u8_in _ (by omega)
    have e3 : IntKind.i64.wrap (bs i + k) = bs i + k := IntWalk.i64_in _ (by omega)
    have e4 : IntKind.u16.wrap (bs i + k) = bs i + k := IntWalk.u16_in _ (by omega)
    go_region_with (go_at_call 84; refine (rbases_any _).mono ?_; rintro e w4 ⟨g4, c4, rfl, hg3, hg4, hcell4, hb4⟩; (replace hb4 := from_drew hb4); (obtain ⟨hn1, hn2⟩ := bcell hb4); (have cell4 := hcell4 i HI.out); (have X4 := Lib.hid (X2.out.trans (hb4.mono X2.out.size))); clear hcell4 hb4)
    all_goals
      go_wp2
      go_ret2
      exact ⟨ret_tup2 E.out.1 E.out.2, X4.out⟩
  · have E := Lib.hid (enc_no d)
    have d' : k < lo (kd i) ∨ hi (kd i) < k ∨ (lo (kd i) ≤ k ∧ k ≤ hi (kd i) ∧ rsvB i k = true) := by
      by_cases c1 : k < lo (kd i)
      · exact .inl c1
      by_cases c2 : hi (kd i) < k
      · exact .inr (.inl c2)
      refine .inr (.inr ⟨by omega, by omega, ?_⟩)
      unfold rsvB
      by_cases c3 : rsv i k
      · simp [c3]
      · exact absurd ⟨by omega, by omega, c3⟩ d
    clear d
    rcases d' with d1 | d1 | ⟨d1, d2, R⟩
    all_goals
      go_enter Tryz.func86, Tryz.ntmps86
      go_wp2_with (first
        | (go_at_call 85; refine (rOf_yes c0 i HI.out HC.out _).mono ?_; rintro e w1 ⟨rfl, hb1⟩; (have X1 := Lib.hid (((Below.refl w.heap.size w).alloc (Nat.le_refl _) _).trans (hb1.mono (by simp)))); clear hb1)
        | (go_at_call 147; refine (rRange_any _ _ _ _ _ _ _).mono ?_; rintro e w2 ⟨rfl, hb2⟩; (obtain ⟨hk1, hk2⟩ := bcell hb2); (have hz2 : w1.heap.size < w2.heap.size := by have := hb2.size; simp at this; omega); (have X2 := Lib.hid ((X1.out.alloc X1.out.size _).trans (hb2.mono (by have := X1.out.size; simp; omega)))); clear hb2)
        | (go_at_call 148; refine (rreserved_any i HI.out k k0 k1 _).mono ?_; rintro e w3 ⟨rfl, rfl⟩))
      go_ret2
      exact ⟨ret_tup2 E.out.1 E.out.2, X2.out⟩
end Go.Proofs.YtjjkikghfmnikaaGreatDoor
