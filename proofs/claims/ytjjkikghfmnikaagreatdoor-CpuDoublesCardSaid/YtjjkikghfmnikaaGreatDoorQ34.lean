/- Contracts of layer 5: the program's products and quotients. -/
import Derived.Test.YtjjkikghfmnikaaGreatDoorQ32
import Derived.Test.YtjjkikghfmnikaaGreatDoorQ33
set_option linter.unusedSimpArgs false
set_option linter.unusedVariables false
namespace Go.Proofs.YtjjkikghfmnikaaGreatDoor
open Go.ChangeShapes Go.WideShapes Go.ChangeAt Go.RowKit
theorem isNegative_any (a : Int) (a0 : 0 ≤ a) (a1 : a < 65536) (t : Bool) (ht : sgn a = t) (w : World) : Calls Tryz.prog 65 #[.int .u16 a] w fun e w' => e = .returned (.bool t) ∧ w = w' := by
  have hb := andBit14 a a0 a1
  have HT := Lib.hid ht
  have e : Hid ((a / 16384 % 2 * 16384 != 0) = sgn a) := by
    unfold sgn
    by_cases c : 16383 < a % 32768
    · rw [decide_eq_true c]
      have : a / 16384 % 2 * 16384 = 16384 := by omega
      rw [this]; rfl
    · rw [decide_eq_false c]
      have : a / 16384 % 2 * 16384 = 0 := by omega
      rw [this]; rfl
  clear ht
  go_enter Tryz.func65, Tryz.ntmps65
  go_wp2
  go_ret
  exact ⟨ret_bool (e.out.trans HT.out), rfl⟩
theorem magnitude_any (n m : Int) (h : (n < 0 ∧ -n = m) ∨ (0 ≤ n ∧ n = m)) (n0 : -1000000000000 ≤ n) (n1 : n ≤ 1000000000000) (w : World) : Calls Tryz.prog 64 #[.int .i64 n] w fun e w' => e = .returned (.int .i64 m) ∧ w = w' := by
  rcases h with ⟨h, rfl⟩ | ⟨h, rfl⟩
  · go_enter Tryz.func64, Tryz.ntmps64
    go_wp2
    go_ret
    exact ⟨rfl, rfl⟩
  · go_enter Tryz.func64, Tryz.ntmps64
    go_wp2
    go_ret
    exact ⟨rfl, rfl⟩
theorem signed_any (n x : Int) (t : Bool) (n0 : 0 ≤ n) (n1 : n ≤ 32767) (hx : iteNeg t n = x) (w : World) : Calls Tryz.prog 66 #[.int .i64 n, .bool t] w fun e w' => e = .returned (.int .u16 x) ∧ w = w' := by
  have wr : IntKind.u16.wrap n = n := IntWalk.u16_in _ (by omega)
  unfold iteNeg at hx
  have HX := Lib.hid hx
  clear hx
  cases t
  · go_enter Tryz.func66, Tryz.ntmps66
    go_wp2
    go_ret
    exact ⟨ret_int HX.out, rfl⟩
  · go_enter Tryz.func66, Tryz.ntmps66
    go_wp2_with (go_at_call 30; refine (Neg_any _ (by omega) (by omega) _).mono ?_; rintro e w1 ⟨rfl, rfl⟩)
    go_ret
    exact ⟨ret_int HX.out, rfl⟩
theorem mag_mul (p q : Int) (mp mq : Int) (hp : (p < 0 ∧ -p = mp) ∨ (0 ≤ p ∧ p = mp)) (hq : (q < 0 ∧ -q = mq) ∨ (0 ≤ q ∧ q = mq)) : (p * q < 0 ∧ -(p * q) = mp * mq) ∨ (0 ≤ p * q ∧ p * q = mp * mq) := by
  rcases hp with ⟨hp, rfl⟩ | ⟨hp, rfl⟩ <;> rcases hq with ⟨hq, rfl⟩ | ⟨hq, rfl⟩
  · right; exact ⟨Int.le_of_lt (Int.mul_pos_of_neg_of_neg hp hq), (Int.neg_mul_neg p q).symm⟩
  · by_cases c : q = 0
    · subst c; right; simp
    · left; exact ⟨Int.mul_neg_of_neg_of_pos hp (by omega), (Int.neg_mul p q).symm⟩
  · by_cases c : p = 0
    · subst c; right; simp
    · left; exact ⟨Int.mul_neg_of_pos_of_neg (by omega) hq, (Int.mul_neg p q).symm⟩
  · right; exact ⟨Int.mul_nonneg hp hq, rfl⟩
theorem mag_or (a : Int) : (oVal a < 0 ∧ -oVal a = mag a) ∨ (0 ≤ oVal a ∧ oVal a = mag a) := by unfold mag; split <;> omega
set_option maxHeartbeats 2000000 in
theorem Multiply_any (a b x y : Int) (a0 : 0 ≤ a) (a1 : a < 65536) (b0 : 0 ≤ b) (b1 : b < 65536) (hx : mulHi a b = x) (hy : mulLo a b = y) (w : World) :
    Calls Tryz.prog 31 #[.int .u16 a, .int .u16 b] w fun e w' => e = .returned (.tuple #[.int .u16 x, .int .u16 y]) ∧ ∃ m, w' = w.drewN m := by
  obtain ⟨m0, m1⟩ := mul_bd a b
  have hmm := mag_mul (oVal a) (oVal b) (mag a) (mag b) (mag_or a) (mag_or b)
  have bp := oVal_in a
  have bq := oVal_in b
  have ex : iteNeg (sgn a != sgn b) (mag a * mag b / 16384) = x := by rw [← hx]; unfold mulHi iteNeg oNg; by_cases c : sgn a = sgn b <;> simp [c]
  have ey : iteNeg (sgn a != sgn b) (mag a * mag b % 16384) = y := by rw [← hy]; unfold mulLo iteNeg oNg; by_cases c : sgn a = sgn b <;> simp [c]
  obtain ⟨p, hp⟩ : ∃ p, oVal a = p := ⟨_, rfl⟩
  obtain ⟨q, hq⟩ : ∃ q, oVal b = q := ⟨_, rfl⟩
  obtain ⟨m, hm⟩ : ∃ m, mag a * mag b = m := ⟨_, rfl⟩
  obtain ⟨s, hs⟩ : ∃ s, sgn a = s := ⟨_, rfl⟩
  obtain ⟨t, ht⟩ : ∃ t, sgn b = t := ⟨_, rfl⟩
  rw [hp, hq, hm] at hmm
  rw [hm] at m0 m1 ex ey
  rw [hs, ht] at ex ey
  obtain ⟨pq, hpq⟩ : ∃ pq, p * q = pq := ⟨_, rfl⟩
  rw [hpq] at hmm
  have hb : -268402689 ≤ pq ∧ pq ≤ 268402689 := by omega
  have wpq : wrap64 (p * q) = pq := by rw [hpq]; unfold wrap64; omega
  have eh : m.tdiv 16384 = m / 16384 := Int.tdiv_eq_ediv_of_nonneg m0
  have el : m.tmod 16384 = m % 16384 := Int.tmod_eq_emod_of_nonneg m0
  obtain ⟨uh, hh⟩ : ∃ uh, m / 16384 = uh := ⟨_, rfl⟩
  obtain ⟨l, hl⟩ : ∃ l, m % 16384 = l := ⟨_, rfl⟩
  have h0 : 0 ≤ uh ∧ uh ≤ 16382 := by omega
  have l0 : 0 ≤ l ∧ l ≤ 16383 := by omega
  rw [hh] at eh ex
  rw [hl] at el ey
  have e3 : wrap64 uh = uh := by unfold wrap64; omega
  have HP := Lib.hid hp
  have HQ := Lib.hid hq
  have HS := Lib.hid hs
  have HT := Lib.hid ht
  have HEX := Lib.hid ex
  have HEY := Lib.hid ey
  have HMM := Lib.hid hmm
  clear hp hq hs ht ex ey hmm hx hy hh hl hm hpq m0 m1 bp bq
  go_enter Tryz.func31, Tryz.ntmps31
  go_wp2_with (first
    | (go_at_call_of 27 (Value.int IntKind.u16 a); refine (Value_any a a0 a1 _).mono ?_; rintro e w1 ⟨rfl, rfl⟩; rw [HP.out])
    | (go_at_call_of 27 (Value.int IntKind.u16 b); refine (Value_any b b0 b1 _).mono ?_; rintro e w1 ⟨rfl, rfl⟩; rw [HQ.out])
    | (go_at_call_of 65 (Value.int IntKind.u16 a); refine (isNegative_any a a0 a1 s HS.out _).mono ?_; rintro e w1 ⟨rfl, rfl⟩)
    | (go_at_call_of 65 (Value.int IntKind.u16 b); refine (isNegative_any b b0 b1 t HT.out _).mono ?_; rintro e w1 ⟨rfl, rfl⟩)
    | (go_at_call 64; refine (magnitude_any pq m HMM.out (by omega) (by omega) _).mono ?_; rintro e w1 ⟨rfl, rfl⟩)
    | (go_at_call_of 66 (Value.int IntKind.i64 uh); refine (signed_any uh x (s != t) (by omega) (by omega) HEX.out _).mono ?_; rintro e w1 ⟨rfl, rfl⟩)
    | (go_at_call 66; refine (signed_any l y (s != t) (by omega) (by omega) HEY.out _).mono ?_; rintro e w1 ⟨rfl, rfl⟩))
  go_ret2
  exact ⟨rfl, 0, rfl⟩
end Go.Proofs.YtjjkikghfmnikaaGreatDoor
