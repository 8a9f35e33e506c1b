/- Contracts of layer 5: the reference's arithmetic. -/
import Derived.Test.YtjjkikghfmnikaaGreatDoorQ03
set_option linter.unusedSimpArgs false
set_option linter.unusedVariables false
namespace Go.Proofs.YtjjkikghfmnikaaGreatDoor
open Go.ChangeShapes Go.WideShapes Go.ChangeAt Go.RowKit
theorem rextend_any (a : Int) (a0 : 0 ≤ a) (a1 : a < 65536) (w : World) : Calls Tryz.prog 116 #[.int .u16 a] w fun e w' => e = .returned (.int .u16 (oExt a)) ∧ w = w' := by
  go_enter Tryz.func116, Tryz.ntmps116
  go_wp2_with (go_at_call 79; refine (rExtend_any _ a0 a1 _).mono ?_; rintro e w1 ⟨rfl, rfl⟩)
  go_ret
  exact ⟨rfl, rfl⟩
theorem rcorrect_any (a : Int) (a0 : 0 ≤ a) (a1 : a < 65536) (w : World) : Calls Tryz.prog 114 #[.int .u16 a] w fun e w' => e = .returned (.int .u16 (oCorr a)) ∧ w = w' := by
  go_enter Tryz.func114, Tryz.ntmps114
  go_wp2_with (go_at_call 47; refine (rCorrect_any _ a0 a1 _).mono ?_; rintro e w1 ⟨rfl, rfl⟩)
  go_ret
  exact ⟨rfl, rfl⟩
theorem radd_any (a b : Int) (a0 : 0 ≤ a) (a1 : a < 65536) (b0 : 0 ≤ b) (b1 : b < 65536) (w : World) : Calls Tryz.prog 119 #[.int .u16 a, .int .u16 b] w fun e w' => e = .returned (.int .u16 (oAddA a b)) ∧ w = w' := by
  go_enter Tryz.func119, Tryz.ntmps119
  go_wp2_with (go_at_call 174; refine (rAddAcc_any _ a0 a1 _ b0 b1 _).mono ?_; rintro e w1 ⟨rfl, rfl⟩)
  go_ret
  exact ⟨rfl, rfl⟩
/-- 1, 65534 or 0. -/
def sg (n : Int) : Int := if 0 < n then 1 else if n < 0 then 65534 else 0
theorem rsign_any (n : Int) (w : World) : Calls Tryz.prog 120 #[.int .i64 n] w fun e w' => e = .returned (.int .u16 (sg n)) ∧ w = w' := by
  unfold sg
  by_cases h : 0 < n
  · rw [if_pos h]
    go_enter Tryz.func120, Tryz.ntmps120
    go_wp2
    go_ret
    exact ⟨rfl, rfl⟩
  · rw [if_neg h]
    by_cases h2 : n < 0
    · rw [if_pos h2]
      go_enter Tryz.func120, Tryz.ntmps120
      go_wp2
      go_ret
      exact ⟨rfl, rfl⟩
    · rw [if_neg h2]
      go_enter Tryz.func120, Tryz.ntmps120
      go_wp2
      go_ret
      exact ⟨rfl, rfl⟩
theorem rnegative_any (a : Int) (a0 : 0 ≤ a) (a1 : a < 65536) (t : Bool) (ht : sgn a = t) (w : World) : Calls Tryz.prog 178 #[.int .u16 a] w fun e w' => e = .returned (.bool t) ∧ w = w' := by
  have HT := Lib.hid ht
  clear ht
  go_enter Tryz.func178, Tryz.ntmps178
  go_wp2_with (go_at_call 87; refine (rLow_any _ (by omega) (by omega) _).mono ?_; rintro e w1 ⟨rfl, rfl⟩)
  go_ret
  exact ⟨by rw [← HT.out]; rfl, rfl⟩
theorem oVal_in (a : Int) : -16383 ≤ oVal a ∧ oVal a ≤ 16383 := by unfold oVal; split <;> omega
theorem mag_max (a : Int) : max (oVal a) (-oVal a) = mag a := by unfold mag; split <;> omega
theorem mul_bd (a b : Int) : 0 ≤ mag a * mag b ∧ mag a * mag b ≤ 268402689 := by
  obtain ⟨a0, a1⟩ := mag_bd a
  obtain ⟨b0, b1⟩ := mag_bd b
  refine ⟨Int.mul_nonneg a0 b0, ?_⟩
  calc mag a * mag b ≤ 16383 * 16383 := Int.mul_le_mul a1 b1 b0 (by omega)
    _ = 268402689 := by decide
theorem wrap_prod {x y a b m : Int} (ha : x = a) (hb : y = b) (hm : a * b = m) (h0 : 0 ≤ m) (h1 : m ≤ 268402689) : wrap64 (x * y) = m := by
  subst ha; subst hb; subst hm
  unfold wrap64; omega
set_option maxHeartbeats 2000000 in
theorem rMultiply_any (a b x y : Int) (a0 : 0 ≤ a) (a1 : a < 65536) (b0 : 0 ≤ b) (b1 : b < 65536) (hx : mulHi a b = x) (hy : mulLo a b = y) (w : World) :
    Calls Tryz.prog 129 #[.int .u16 a, .int .u16 b] w fun e w' => e = .returned (.tuple #[.int .u16 x, .int .u16 y]) ∧ w = w' := by
  obtain ⟨m0, m1⟩ := mul_bd a b
  obtain ⟨p, hp⟩ : ∃ p, oVal a = p := ⟨_, rfl⟩
  obtain ⟨q, hq⟩ : ∃ q, oVal b = q := ⟨_, rfl⟩
  have hmp := mag_max a
  have hmq := mag_max b
  obtain ⟨mp, hmp2⟩ : ∃ m, mag a = m := ⟨_, rfl⟩
  obtain ⟨mq, hmq2⟩ : ∃ m, mag b = m := ⟨_, rfl⟩
  have bp := oVal_in a
  have bq := oVal_in b
  unfold mulHi at hx
  unfold mulLo at hy
  rw [hp] at hmp bp
  rw [hq] at hmq bq
  rw [hmp2] at hmp
  rw [hmq2] at hmq
  rw [hmp2, hmq2] at m0 m1 hx hy
  obtain ⟨m, hm⟩ : ∃ m, mp * mq = m := ⟨_, rfl⟩
  rw [hm] at m0 m1 hx hy
  obtain ⟨s, hs⟩ : ∃ s, sgn a = s := ⟨_, rfl⟩
  obtain ⟨t, ht⟩ : ∃ t, sgn b = t := ⟨_, rfl⟩
  rw [hs, ht] at hx hy
  have HP := Lib.hid hp
  have HQ := Lib.hid hq
  have HS := Lib.hid hs
  have HT := Lib.hid ht
  have HX := Lib.hid hx
  have HY := Lib.hid hy
  have HM := Lib.hid hm
  have HMP := Lib.hid hmp
  have HMQ := Lib.hid hmq
  clear hp hq hs ht hx hy hm hmp hmq hmp2 hmq2
  have eh : m.tdiv 16384 = m / 16384 := Int.tdiv_eq_ediv_of_nonneg m0
  have el : m.tmod 16384 = m % 16384 := Int.tmod_eq_emod_of_nonneg m0
  obtain ⟨uh, hh⟩ : ∃ uh, m / 16384 = uh := ⟨_, rfl⟩
  obtain ⟨l, hl⟩ : ∃ l, m % 16384 = l := ⟨_, rfl⟩
  have h0 : 0 ≤ uh ∧ uh ≤ 16382 := by omega
  have l0 : 0 ≤ l ∧ l ≤ 16383 := by omega
  rw [hh] at eh
  rw [hl] at el
  have e3 : wrap64 uh = uh := by unfold wrap64; omega
  have e4 : IntKind.u16.wrap uh = uh := IntWalk.u16_in _ (by omega)
  have e5 : IntKind.u16.wrap l = l := IntWalk.u16_in _ (by omega)
  have HX2 : Hid ((if s = t then uh else oNg uh) = x) := by rw [← hh]; exact HX.out
  have HY2 : Hid ((if s = t then l else oNg l) = y) := by rw [← hl]; exact HY.out
  have M0 : Hid (0 ≤ m ∧ m ≤ 268402689) := ⟨m0, m1⟩
  have P : (p < 0 ∧ -p = mp) ∨ (0 ≤ p ∧ p = mp) := by have := HMP.out; omega
  have Q : (q < 0 ∧ -q = mq) ∨ (0 ≤ q ∧ q = mq) := by have := HMQ.out; omega
  clear hh hl m0 m1
  by_cases hst : s = t
  · have hst2 : (s == t) = true := by rw [beq_iff_eq]; exact hst
    have HX3 : Hid (uh = x) := by rw [← HX2.out, if_pos hst]; rfl
    have HY3 : Hid (l = y) := by rw [← HY2.out, if_pos hst]; rfl
    clear hst
    rcases P with ⟨hp0, mpe⟩ | ⟨hp0, mpe⟩ <;> rcases Q with ⟨hq0, mqe⟩ | ⟨hq0, mqe⟩
    all_goals
      have e1 := wrap_prod mpe mqe HM.out M0.out.1 M0.out.2
      clear mpe mqe
      go_enter Tryz.func129, Tryz.ntmps129
      go_wp2_with (first
        | (go_at_call_of 177 (Value.int IntKind.u16 a); refine (rValue_any a a0 a1 _).mono ?_; rintro e w1 ⟨rfl, rfl⟩; rw [HP.out])
        | (go_at_call_of 177 (Value.int IntKind.u16 b); refine (rValue_any b b0 b1 _).mono ?_; rintro e w1 ⟨rfl, rfl⟩; rw [HQ.out])
        | (go_at_call_of 178 (Value.int IntKind.u16 a); refine (rnegative_any a a0 a1 s HS.out _).mono ?_; rintro e w1 ⟨rfl, rfl⟩)
        | (go_at_call_of 178 (Value.int IntKind.u16 b); refine (rnegative_any b b0 b1 t HT.out _).mono ?_; rintro e w1 ⟨rfl, rfl⟩))
      go_ret2
      exact ⟨ret_tup2 HX3.out HY3.out, rfl⟩
  · have hst2 : (s == t) = false := by rw [beq_eq_false_iff_ne]; exact hst
    have HX3 : Hid (32767 - uh % 32768 = x) := by rw [← HX2.out, if_neg hst]; rfl
    have HY3 : Hid (32767 - l % 32768 = y) := by rw [← HY2.out, if_neg hst]; rfl
    clear hst
    rcases P with ⟨hp0, mpe⟩ | ⟨hp0, mpe⟩ <;> rcases Q with ⟨hq0, mqe⟩ | ⟨hq0, mqe⟩
    all_goals
      have e1 := wrap_prod mpe mqe HM.out M0.out.1 M0.out.2
      clear mpe mqe
      go_enter Tryz.func129, Tryz.ntmps129
      go_wp2_with (first
        | (go_at_call_of 177 (Value.int IntKind.u16 a); refine (rValue_any a a0 a1 _).mono ?_; rintro e w1 ⟨rfl, rfl⟩; rw [HP.out])
        | (go_at_call_of 177 (Value.int IntKind.u16 b); refine (rValue_any b b0 b1 _).mono ?_; rintro e w1 ⟨rfl, rfl⟩; rw [HQ.out])
        | (go_at_call_of 178 (Value.int IntKind.u16 a); refine (rnegative_any a a0 a1 s HS.out _).mono ?_; rintro e w1 ⟨rfl, rfl⟩)
        | (go_at_call_of 178 (Value.int IntKind.u16 b); refine (rnegative_any b b0 b1 t HT.out _).mono ?_; rintro e w1 ⟨rfl, rfl⟩)
        | (go_at_call_of 126 (Value.int IntKind.u16 uh); refine (rNeg_any uh (by omega) (by omega) _).mono ?_; rintro e w1 ⟨rfl, rfl⟩)
        | (go_at_call_of 126 (Value.int IntKind.u16 l); refine (rNeg_any l (by omega) (by omega) _).mono ?_; rintro e w1 ⟨rfl, rfl⟩))
      go_ret2
      exact ⟨ret_tup2 HX3.out HY3.out, rfl⟩
end Go.Proofs.YtjjkikghfmnikaaGreatDoor
