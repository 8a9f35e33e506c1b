/- Contracts of layer 5: the program's Divide; MP and DV. -/
import Derived.Test.YtjjkikghfmnikaaGreatDoorQ34
set_option linter.unusedSimpArgs false
set_option linter.unusedVariables false
set_option maxRecDepth 100000
namespace Go.Proofs.YtjjkikghfmnikaaGreatDoor
open Go.ChangeShapes Go.WideShapes Go.ChangeAt Go.RowKit
theorem ret_ib {a b : Int} {c d : Bool} (h : a = b) (h' : c = d) : Ending.returned (.tuple #[.int .i64 a, .bool c]) = .returned (.tuple #[.int .i64 b, .bool d]) := by rw [h, h']
theorem dvN_or (a b : Int) : (16384 * oVal a + oVal b < 0 ∧ -(16384 * oVal a + oVal b) = dvN a b) ∨ (0 ≤ 16384 * oVal a + oVal b ∧ 16384 * oVal a + oVal b = dvN a b) := by
  unfold dvN; simp only []; split <;> omega
theorem dvN_bd (a b : Int) : 0 ≤ dvN a b ∧ dvN a b ≤ 268435455 := by
  have h1 := oVal_in a
  have h2 := oVal_in b
  have := dvN_or a b
  omega
set_option maxHeartbeats 1000000 in
theorem dividendOf_any (a b : Int) (a0 : 0 ≤ a) (a1 : a < 65536) (b0 : 0 ≤ b) (b1 : b < 65536) (n : Int) (s : Bool) (hn : dvN a b = n) (hs : dvS a b = s) (w : World) :
    Calls Tryz.prog 67 #[.int .u16 a, .int .u16 b] w fun e w' => e = .returned (.tuple #[.int .i64 n, .bool s]) ∧ w = w' := by
  have bp := oVal_in a
  have bq := oVal_in b
  have hN := dvN_or a b
  rw [hn] at hN
  unfold dvS at hs
  obtain ⟨p, hp⟩ : ∃ p, oVal a = p := ⟨_, rfl⟩
  obtain ⟨q, hq⟩ : ∃ q, oVal b = q := ⟨_, rfl⟩
  rw [hp] at bp hN hs
  rw [hq] at bq hN
  have HP := Lib.hid hp
  have HQ := Lib.hid hq
  have HN := Lib.hid hN
  clear hp hq hN hn
  by_cases c : p = 0
  · rw [if_pos c] at hs
    subst c
    have HS := Lib.hid hs
    have HN2 := Lib.hid (show (q < 0 ∧ -q = n) ∨ (0 ≤ q ∧ q = n) by have := HN.out; omega)
    clear hs
    go_enter Tryz.func67, Tryz.ntmps67
    go_wp2_with (first
      | (go_at_call_of 27 (Value.int IntKind.u16 a); refine (Value_any a a0 a1 _).mono ?_; rintro e w1 ⟨rfl, rfl⟩; rw [HP.out])
      | (go_at_call_of 27 (Value.int IntKind.u16 b); refine (Value_any b b0 b1 _).mono ?_; rintro e w1 ⟨rfl, rfl⟩; rw [HQ.out])
      | (go_at_call_of 65 (Value.int IntKind.u16 a); refine (isNegative_any a a0 a1 _ rfl _).mono ?_; rintro e w1 ⟨rfl, rfl⟩)
      | (go_at_call_of 65 (Value.int IntKind.u16 b); refine (isNegative_any b b0 b1 s HS.out _).mono ?_; rintro e w1 ⟨rfl, rfl⟩)
      | (go_at_call 64; refine (magnitude_any _ n HN2.out (by omega) (by omega) _).mono ?_; rintro e w1 ⟨rfl, rfl⟩))
    go_ret2
    exact ⟨rfl, rfl⟩
  · rw [if_neg c] at hs
    have t0 : (p == 0) = false := by rw [beq_eq_false_iff_ne]; exact c
    have HS := Lib.hid hs
    have wq : wrap64 (16384 * p) = 16384 * p := by unfold wrap64; omega
    have wr : wrap64 (16384 * p + q) = 16384 * p + q := by unfold wrap64; omega
    clear hs c
    go_enter Tryz.func67, Tryz.ntmps67
    go_wp2_with (first
      | (go_at_call_of 27 (Value.int IntKind.u16 a); refine (Value_any a a0 a1 _).mono ?_; rintro e w1 ⟨rfl, rfl⟩; rw [HP.out])
      | (go_at_call_of 27 (Value.int IntKind.u16 b); refine (Value_any b b0 b1 _).mono ?_; rintro e w1 ⟨rfl, rfl⟩; rw [HQ.out])
      | (go_at_call_of 65 (Value.int IntKind.u16 a); refine (isNegative_any a a0 a1 s HS.out _).mono ?_; rintro e w1 ⟨rfl, rfl⟩)
      | (go_at_call 64; refine (magnitude_any _ n HN.out (by omega) (by omega) _).mono ?_; rintro e w1 ⟨rfl, rfl⟩))
    go_ret2
    exact ⟨rfl, rfl⟩
set_option maxHeartbeats 2000000 in
theorem Divide_any (a b d x y : Int) (a0 : 0 ≤ a) (a1 : a < 65536) (b0 : 0 ≤ b) (b1 : b < 65536) (d0 : 0 ≤ d) (d1 : d < 65536) (hx : dvQ a b d = x) (hy : dvR a b d = y) (w : World) :
    Calls Tryz.prog 32 #[.int .u16 a, .int .u16 b, .int .u16 d] w fun e w' => e = .returned (.tuple #[.int .u16 x, .int .u16 y]) ∧ ∃ m, w' = w.drewN m := by
  have bn := dvN_bd a b
  have bm := mag_bd d
  have bd := oVal_in d
  have hM := mag_or d
  have hlow := and15 b b0 b1
  have bl : 0 ≤ b % 32768 ∧ b % 32768 ≤ 32767 := by omega
  have R : (dvN a b < 16384 * mag d ∧ iteNeg (dvS a b != sgn d) (dvN a b / mag d) = x ∧ iteNeg (dvS a b) (dvN a b % mag d) = y) ∨ (¬ dvN a b < 16384 * mag d ∧ iteNeg (dvS a b != sgn d) 16383 = x ∧ b % 32768 = y) := by
    rw [← hx, ← hy]
    unfold dvQ dvR
    simp only []
    by_cases c : dvOk a b d
    · refine .inl ⟨c, ?_, ?_⟩
      · rw [if_pos c]; unfold iteNeg oNg; by_cases e : dvS a b = sgn d <;> simp [e]
      · rw [if_pos c]; unfold iteNeg oNg; rfl
    · refine .inr ⟨c, ?_, ?_⟩
      · rw [if_neg c]; unfold iteNeg oNg; by_cases e : dvS a b = sgn d <;> simp [e]
      · rw [if_neg c]
  obtain ⟨n, hn⟩ : ∃ n, dvN a b = n := ⟨_, rfl⟩
  obtain ⟨m, hm⟩ : ∃ m, mag d = m := ⟨_, rfl⟩
  obtain ⟨dv, hdv⟩ : ∃ dv, oVal d = dv := ⟨_, rfl⟩
  obtain ⟨s, hs⟩ : ∃ s, dvS a b = s := ⟨_, rfl⟩
  obtain ⟨t, ht⟩ : ∃ t, sgn d = t := ⟨_, rfl⟩
  rw [hn] at bn R
  rw [hm] at bm R hM
  rw [hdv] at bd hM
  rw [hs] at R
  rw [ht] at R
  have wm : wrap64 (16384 * m) = 16384 * m := by unfold wrap64; omega
  have HN := Lib.hid hn
  have HS := Lib.hid hs
  have HT := Lib.hid ht
  have HD := Lib.hid hdv
  have HM := Lib.hid hM
  clear hx hy hn hm hdv hs ht hM
  rcases R with ⟨c, qx, qy⟩ | ⟨c, qx, qy⟩
  · have m0 : 0 < m := by omega
    have m1 : m ≠ 0 := by omega
    have m2 : (m == 0) = false := by rw [beq_eq_false_iff_ne]; exact m1
    have eq1 : n.tdiv m = n / m := Int.tdiv_eq_ediv_of_nonneg bn.1
    have eq2 : n.tmod m = n % m := Int.tmod_eq_emod_of_nonneg bn.1
    have q0 : 0 ≤ n / m := Int.ediv_nonneg bn.1 bm.1
    have q1 : n / m < 16384 := Int.ediv_lt_of_lt_mul m0 c
    have q2 := Int.emod_nonneg n m1
    have q3 := Int.emod_lt_of_pos n m0
    obtain ⟨u, hu⟩ : ∃ u, n / m = u := ⟨_, rfl⟩
    obtain ⟨z, hz⟩ : ∃ z, n % m = z := ⟨_, rfl⟩
    rw [hu] at eq1 q0 q1 qx
    rw [hz] at eq2 q2 q3 qy
    have w1 : wrap64 u = u := by unfold wrap64; omega
    have QX := Lib.hid qx
    have QY := Lib.hid qy
    clear qx qy hu hz
    go_enter Tryz.func32, Tryz.ntmps32
    go_wp2_with (first
      | (go_at_call 67; refine (dividendOf_any a b a0 a1 b0 b1 n s HN.out HS.out _).mono ?_; rintro e w1 ⟨rfl, rfl⟩)
      | (go_at_call 27; refine (Value_any d d0 d1 _).mono ?_; rintro e w1 ⟨rfl, rfl⟩; rw [HD.out])
      | (go_at_call 64; refine (magnitude_any dv m HM.out (by omega) (by omega) _).mono ?_; rintro e w1 ⟨rfl, rfl⟩)
      | (go_at_call 65; refine (isNegative_any d d0 d1 t HT.out _).mono ?_; rintro e w1 ⟨rfl, rfl⟩))
    go_quiet (first
      | (go_at_call_of 66 (Value.int IntKind.i64 u); exact quiet_left (signed_any u x (s != t) (by omega) (by omega) QX.out _))
      | (go_at_call 66; exact quiet_left (signed_any z y s (by omega) (by omega) QY.out _)))
    go_wp2
    go_ret2
    exact ⟨rfl, _, rfl⟩
  · have QX := Lib.hid qx
    have QY := Lib.hid qy
    clear qx qy
    go_enter Tryz.func32, Tryz.ntmps32
    go_wp2_with (first
      | (go_at_call 67; refine (dividendOf_any a b a0 a1 b0 b1 n s HN.out HS.out _).mono ?_; rintro e w1 ⟨rfl, rfl⟩)
      | (go_at_call 27; refine (Value_any d d0 d1 _).mono ?_; rintro e w1 ⟨rfl, rfl⟩; rw [HD.out])
      | (go_at_call 64; refine (magnitude_any dv m HM.out (by omega) (by omega) _).mono ?_; rintro e w1 ⟨rfl, rfl⟩)
      | (go_at_call 65; refine (isNegative_any d d0 d1 t HT.out _).mono ?_; rintro e w1 ⟨rfl, rfl⟩)
      | (go_at_call 66; refine (signed_any 16383 x (s != t) (by omega) (by omega) QX.out _).mono ?_; rintro e w1 ⟨rfl, rfl⟩))
    go_ret2
    exact ⟨ret_tup2 rfl QY.out, 0, rfl⟩
end Go.Proofs.YtjjkikghfmnikaaGreatDoor
