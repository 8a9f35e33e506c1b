/- Contracts of layer 5: the reference's Divide. -/
import Derived.Test.YtjjkikghfmnikaaGreatDoorQ18
set_option linter.unusedSimpArgs false
set_option linter.unusedVariables false
namespace Go.Proofs.YtjjkikghfmnikaaGreatDoor
open Go.ChangeShapes Go.WideShapes Go.ChangeAt Go.RowKit
def iteNeg (c : Bool) (x : Int) : Int := if c then 32767 - x % 32768 else x
set_option maxHeartbeats 4000000 in
theorem rDivide_core (a b d : Int) (a0 : 0 ≤ a) (a1 : a < 65536) (b0 : 0 ≤ b) (b1 : b < 65536) (d0 : 0 ≤ d) (d1 : d < 65536)
    (p q n dv nn m : Int) (s1 s2 t : Bool) (HP : Hid (oVal a = p)) (HQ : Hid (oVal b = q)) (HD : Hid (oVal d = dv)) (HS1 : Hid (sgn a = s1)) (HS2 : Hid (sgn b = s2)) (HT : Hid (sgn d = t))
    (bp : -16383 ≤ p ∧ p ≤ 16383) (bq : -16383 ≤ q ∧ q ≤ 16383) (bd : -16383 ≤ dv ∧ dv ≤ 16383) (en : 16384 * p + q = n)
    (N : (n < 0 ∧ -n = nn) ∨ (0 ≤ n ∧ n = nn)) (M : (dv < 0 ∧ -dv = m) ∨ (0 ≤ dv ∧ dv = m))
    (s : Bool) (S : (p = 0 ∧ s = s2) ∨ (p ≠ 0 ∧ s = s1)) (x y : Int)
    (R : (nn < 16384 * m ∧ iteNeg (s != t) (nn / m) = x ∧ iteNeg s (nn % m) = y) ∨ (16384 * m ≤ nn ∧ iteNeg (s != t) 16383 = x ∧ b % 32768 = y)) (w : World) :
    Calls Tryz.prog 130 #[.int .u16 a, .int .u16 b, .int .u16 d] w fun e w' => e = .returned (.tuple #[.int .u16 x, .int .u16 y]) ∧ Below w.heap.size w w' := by
  have bn : -268435455 ≤ n ∧ n ≤ 268435455 := by omega
  have e0 : 0 ≤ nn ∧ nn ≤ 268435455 := by omega
  have e1 : 0 ≤ m ∧ m ≤ 16383 := by omega
  have bm := Int.emod_nonneg b (show (32768 : Int) ≠ 0 by decide)
  have bm2 := Int.emod_lt_of_pos b (show (0 : Int) < 32768 by decide)
  have ebm : IntKind.u16.wrap (b % 32768) = b % 32768 := IntWalk.u16_in _ (by omega)
  rcases R with ⟨r0, r1, r2⟩ | ⟨r0, r1, r2⟩
  · have m0 : 0 < m := by omega
    have m1 : m ≠ 0 := by omega
    have eq1 : nn.tdiv m = nn / m := Int.tdiv_eq_ediv_of_nonneg e0.1
    have eq2 : nn.tmod m = nn % m := Int.tmod_eq_emod_of_nonneg e0.1
    have q0 : 0 ≤ nn / m := Int.ediv_nonneg e0.1 e1.1
    have q1 : nn / m < 16384 := Int.ediv_lt_of_lt_mul m0 r0
    have q2 := Int.emod_nonneg nn m1
    have q3 := Int.emod_lt_of_pos nn m0
    obtain ⟨u, hu⟩ : ∃ u, nn / m = u := ⟨_, rfl⟩
    obtain ⟨v, hv⟩ : ∃ v, nn % m = v := ⟨_, rfl⟩
    rw [hu] at eq1 q0 q1 r1
    rw [hv] at eq2 q2 q3 r2
    clear hu hv
    have w1 : wrap64 u = u := by unfold wrap64; omega
    have w2 : IntKind.u16.wrap u = u := IntWalk.u16_in _ (by omega)
    have w3 : IntKind.u16.wrap v = v := IntWalk.u16_in _ (by omega)
    have R1 := Lib.hid r1
    have R2 := Lib.hid r2
    clear r1 r2
    rcases S with ⟨S1, rfl⟩ | ⟨S1, rfl⟩ <;> rcases N with ⟨N1, N2⟩ | ⟨N1, rfl⟩ <;> rcases M with ⟨M1, M2⟩ | ⟨M1, rfl⟩ <;> cases s <;> cases t
    all_goals
      try (subst S1; obtain rfl : q = n := (by omega); clear en)
      go_enter Tryz.func130, Tryz.ntmps130
      go_wp2_with (first
        | (go_at_call_of 177 (Value.int IntKind.u16 a); refine (rValue_any a a0 a1 _).mono ?_; rintro e w1 ⟨rfl, rfl⟩; rw [HP.out])
        | (go_at_call_of 177 (Value.int IntKind.u16 b); refine (rValue_any b b0 b1 _).mono ?_; rintro e w1 ⟨rfl, rfl⟩; rw [HQ.out])
        | (go_at_call_of 177 (Value.int IntKind.u16 d); refine (rValue_any d d0 d1 _).mono ?_; rintro e w1 ⟨rfl, rfl⟩; rw [HD.out])
        | (go_at_call_of 178 (Value.int IntKind.u16 a); refine (rnegative_any a a0 a1 _ HS1.out _).mono ?_; rintro e w1 ⟨rfl, rfl⟩)
        | (go_at_call_of 178 (Value.int IntKind.u16 b); refine (rnegative_any b b0 b1 _ HS2.out _).mono ?_; rintro e w1 ⟨rfl, rfl⟩)
        | (go_at_call_of 178 (Value.int IntKind.u16 d); refine (rnegative_any d d0 d1 _ HT.out _).mono ?_; rintro e w1 ⟨rfl, rfl⟩)
        | (go_at_call 87; refine (rLow_any b b0 b1 _).mono ?_; rintro e w1 ⟨rfl, rfl⟩)
        | (go_at_call_of 126 (Value.int IntKind.u16 u); refine (rNeg_any u (by omega) (by omega) _).mono ?_; rintro e w1 ⟨rfl, rfl⟩)
        | (go_at_call_of 126 (Value.int IntKind.u16 v); refine (rNeg_any v (by omega) (by omega) _).mono ?_; rintro e w1 ⟨rfl, rfl⟩))
      go_quiet (fail)
      go_wp2_with (first
        | (go_at_call_of 177 (Value.int IntKind.u16 a); refine (rValue_any a a0 a1 _).mono ?_; rintro e w1 ⟨rfl, rfl⟩; rw [HP.out])
        | (go_at_call_of 177 (Value.int IntKind.u16 b); refine (rValue_any b b0 b1 _).mono ?_; rintro e w1 ⟨rfl, rfl⟩; rw [HQ.out])
        | (go_at_call_of 177 (Value.int IntKind.u16 d); refine (rValue_any d d0 d1 _).mono ?_; rintro e w1 ⟨rfl, rfl⟩; rw [HD.out])
        | (go_at_call_of 178 (Value.int IntKind.u16 a); refine (rnegative_any a a0 a1 _ HS1.out _).mono ?_; rintro e w1 ⟨rfl, rfl⟩)
        | (go_at_call_of 178 (Value.int IntKind.u16 b); refine (rnegative_any b b0 b1 _ HS2.out _).mono ?_; rintro e w1 ⟨rfl, rfl⟩)
        | (go_at_call_of 178 (Value.int IntKind.u16 d); refine (rnegative_any d d0 d1 _ HT.out _).mono ?_; rintro e w1 ⟨rfl, rfl⟩)
        | (go_at_call 87; refine (rLow_any b b0 b1 _).mono ?_; rintro e w1 ⟨rfl, rfl⟩)
        | (go_at_call_of 126 (Value.int IntKind.u16 u); refine (rNeg_any u (by omega) (by omega) _).mono ?_; rintro e w1 ⟨rfl, rfl⟩)
        | (go_at_call_of 126 (Value.int IntKind.u16 v); refine (rNeg_any v (by omega) (by omega) _).mono ?_; rintro e w1 ⟨rfl, rfl⟩))
      go_ret2
      exact ⟨ret_tup2 (by have t1 := R1.out; simpa [iteNeg] using t1) (by have t1 := R2.out; simpa [iteNeg] using t1), below_drewN (Below.refl _ _) _⟩
  · have R1 := Lib.hid r1
    have R2 := Lib.hid r2
    clear r1 r2
    rcases S with ⟨S1, rfl⟩ | ⟨S1, rfl⟩ <;> rcases N with ⟨N1, N2⟩ | ⟨N1, rfl⟩ <;> rcases M with ⟨M1, M2⟩ | ⟨M1, rfl⟩ <;> cases s <;> cases t
    all_goals
      try (subst S1; obtain rfl : q = n := (by omega); clear en)
      go_enter Tryz.func130, Tryz.ntmps130
      go_wp2_with (first
        | (go_at_call_of 177 (Value.int IntKind.u16 a); refine (rValue_any a a0 a1 _).mono ?_; rintro e w1 ⟨rfl, rfl⟩; rw [HP.out])
        | (go_at_call_of 177 (Value.int IntKind.u16 b); refine (rValue_any b b0 b1 _).mono ?_; rintro e w1 ⟨rfl, rfl⟩; rw [HQ.out])
        | (go_at_call_of 177 (Value.int IntKind.u16 d); refine (rValue_any d d0 d1 _).mono ?_; rintro e w1 ⟨rfl, rfl⟩; rw [HD.out])
        | (go_at_call_of 178 (Value.int IntKind.u16 a); refine (rnegative_any a a0 a1 _ HS1.out _).mono ?_; rintro e w1 ⟨rfl, rfl⟩)
        | (go_at_call_of 178 (Value.int IntKind.u16 b); refine (rnegative_any b b0 b1 _ HS2.out _).mono ?_; rintro e w1 ⟨rfl, rfl⟩)
        | (go_at_call_of 178 (Value.int IntKind.u16 d); refine (rnegative_any d d0 d1 _ HT.out _).mono ?_; rintro e w1 ⟨rfl, rfl⟩)
        | (go_at_call 87; refine (rLow_any b b0 b1 _).mono ?_; rintro e w1 ⟨rfl, rfl⟩)
        | (go_at_call_of 126 (Value.int IntKind.u16 16383); refine (rNeg_any 16383 (by omega) (by omega) _).mono ?_; rintro e w1 ⟨rfl, rfl⟩))
      all_goals
        go_ret2
        exact ⟨ret_tup2 (by have t1 := R1.out; simpa [iteNeg] using t1) (by have t1 := R2.out; simpa [iteNeg] using t1), Below.refl _ _⟩
theorem rDivide_any (a b d x y : Int) (a0 : 0 ≤ a) (a1 : a < 65536) (b0 : 0 ≤ b) (b1 : b < 65536) (d0 : 0 ≤ d) (d1 : d < 65536) (hx : dvQ a b d = x) (hy : dvR a b d = y) (w : World) :
    Calls Tryz.prog 130 #[.int .u16 a, .int .u16 b, .int .u16 d] w fun e w' => e = .returned (.tuple #[.int .u16 x, .int .u16 y]) ∧ Below w.heap.size w w' := by
  refine rDivide_core a b d a0 a1 b0 b1 d0 d1 (oVal a) (oVal b) (16384 * oVal a + oVal b) (oVal d) (dvN a b) (mag d) (sgn a) (sgn b) (sgn d) rfl rfl rfl rfl rfl rfl (oVal_in a) (oVal_in b) (oVal_in d) rfl ?_ ?_ (dvS a b) ?_ x y ?_ w
  · unfold dvN; simp only []; split
    · exact .inl ⟨by assumption, rfl⟩
    · exact .inr ⟨by omega, rfl⟩
  · unfold mag; split
    · exact .inl ⟨by assumption, rfl⟩
    · exact .inr ⟨by omega, rfl⟩
  · unfold dvS; split
    · exact .inl ⟨by assumption, rfl⟩
    · exact .inr ⟨by assumption, rfl⟩
  · rw [← hx, ← hy]
    unfold dvQ dvR
    simp only []
    by_cases c : dvOk a b d
    · refine .inl ⟨c, ?_, ?_⟩
      · rw [if_pos c]; unfold iteNeg oNg; by_cases e : dvS a b = sgn d <;> simp [e]
      · rw [if_pos c]; unfold iteNeg oNg; rfl
    · refine .inr ⟨by unfold dvOk at c; omega, ?_, ?_⟩
      · rw [if_neg c]; unfold iteNeg oNg; by_cases e : dvS a b = sgn d <;> simp [e]
      · rw [if_neg c]
end Go.Proofs.YtjjkikghfmnikaaGreatDoor
