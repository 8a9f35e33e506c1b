/- Contracts of layer 7's reference. -/
import Derived.Test.YtmmpifcfhjdfnaaM07g
import Derived.Test.YtmmpifcfhjdfnaaL05
set_option linter.unusedSimpArgs false
set_option linter.unusedVariables false
set_option maxRecDepth 100000
namespace Go.Proofs.Ytmmpifcfhjdfnaa
open Go.ChangeShapes Go.WideShapes Go.ChangeAt Go.RowKit
theorem bV_succ (n : Nat) : bV (n + 1) = 2 * bV n := by unfold bV; rw [Nat.pow_succ]; omega
theorem rpower_any (n : Nat) (hn : n ≤ 10) (w : World) : Calls Try.prog 25 #[.int .i64 n] w fun e w' => e = .returned (.int .i64 (bV n)) ∧ w = w' := by
  go_enter Try.func25, Try.ntmps25
  go_wp2
  go_loop [3, 4] (fun u i => ∃ k : Nat, k ≤ n ∧ i = .int .i64 k ∧ u = .int .i64 (bV k)) (fun _ i => n - (intOf i).toNat)
  case atStart => exact ⟨0, Nat.zero_le _, rfl, rfl⟩
  case round =>
    obtain ⟨k, hk, rfl, rfl⟩ := hrel
    by_cases hlt : k < n
    · have hb := bV_bd k (by omega)
      have HS := Lib.hid (bV_succ k)
      have HLT := Lib.hid hlt
      generalize bV k = b at *
      have hw : wrap64 (2 * b) = 2 * b := by unfold wrap64; omega
      go_wp2
      go_round
      case rel => exact ⟨k + 1, by have := HLT.out; omega, by go_num, by rw [HS.out]⟩
      case measure => have := HLT.out; simp [intOf]; omega
    · have e : k = n := by omega
      subst e
      go_wp2
      go_ret
      exact ⟨rfl, rfl⟩
theorem pb_div (p : Int) (p0 : 0 ≤ p) (n : Nat) : ((p.tdiv (bV n)).tmod 2 = 1 ↔ pb p n = true) := by
  obtain ⟨P, rfl⟩ := Int.eq_ofNat_of_zero_le p0
  unfold bV pb
  try simp only [Int.ofNat_eq_natCast] at *
  rw [Int.toNat_natCast]
  rw [Int.tdiv_eq_ediv_of_nonneg (by omega)]
  have e : ((P : Int) / ((2 ^ n : Nat) : Int)) = ((P / 2 ^ n : Nat) : Int) := by simp
  have e3 : ((P / 2 ^ n : Nat) : Int).tmod 2 = ((P / 2 ^ n : Nat) : Int) % 2 := Int.tmod_eq_emod_of_nonneg (Int.natCast_nonneg _)
  rw [e, e3]
  have e2 : (((P / 2 ^ n : Nat) : Int) % 2 = 1) ↔ (P / 2 ^ n % 2 = 1) := by omega
  rw [e2, Nat.testBit_eq_decide_div_mod_eq]
  simp
set_option maxHeartbeats 1000000 in
theorem rWaits_yes (p : Int) (p0 : 0 ≤ p) (p1 : p < 65536) (n : Nat) (h0 : 1 ≤ n) (h1 : n ≤ 10) (t : Bool) (ht : pb p n = t) (w : World) :
    Calls Try.prog 24 #[.agg #[.int .u16 p], .int .i64 n] w fun e w' => e = .returned (.bool t) ∧ Below w.heap.size w w' := by
  have hd := pb_div p p0 n
  have hbv := bV_bd n (by omega)
  have hq : 0 ≤ p.tdiv (bV n) ∧ p.tdiv (bV n) ≤ p := by
    rw [Int.tdiv_eq_ediv_of_nonneg p0]
    exact ⟨Int.ediv_nonneg p0 hbv.1, Int.ediv_le_self _ p0⟩
  have hbn : bV n ≠ 0 := bV_ne n
  have hpw := Lib.hid (fun w => rpower_any n h1 w)
  rw [ht] at hd
  generalize bV n = b at *
  have hne : (b == 0) = false := by rw [beq_eq_false_iff_ne]; exact hbn
  obtain ⟨q, hqe⟩ : ∃ q, p.tdiv b = q := ⟨_, rfl⟩
  rw [hqe] at hd hq
  have hw : wrap64 q = q := by unfold wrap64; omega
  rw [Int.tmod_eq_emod_of_nonneg hq.1] at hd
  have hm : (q % 2 == 1) = t := by
    cases t
    · rw [beq_eq_false_iff_ne]; intro e; have := hd.1 e; simp at this
    · rw [beq_iff_eq]; exact hd.2 rfl
  have g1 : decide ((1 : Int) ≤ (n : Int)) = true := by rw [decide_eq_true_iff]; omega
  have g2 : decide ((n : Int) ≤ 10) = true := by rw [decide_eq_true_iff]; omega
  clear hd ht
  go_enter Try.func24, Try.ntmps24
  go_wp2
  go_quiet ((go_at_call 25; exact quiet_left (hpw.out _)))
  go_wp2
  go_ret
  exact ⟨rfl, below_drewN ((Below.refl _ _).alloc (Nat.le_refl _) _) _⟩
theorem rAllowed_any (r : Rg) (hf : r.Fit) (hm : r.may) (t : Bool) (ht : alw r = t) (w : World) :
    Calls Try.prog 35 #[.agg #[.int .u16 r.A, .int .u16 r.L, .int .u16 r.Q, .int .i64 r.Z, .int .i64 r.EB, .int .i64 r.FB, .int .i64 r.Su, .bool r.Ex, .int .u16 r.Ix, .bool r.Hd, .int .u16 r.B, .bool r.Ih, .bool r.Sv]] w fun e w' => e = .returned (.bool t) ∧ Below w.heap.size w w' := by
  have hx : r.Ix % 32768 = r.Ix := by have := hm.2.2.1; have := hf.Ix.1; omega
  have HA := Lib.hid (show 0 ≤ r.A ∧ r.A < 65536 by have := hf.A; omega)
  have he : alw r = (!r.Ih && (!r.Sv && (!r.Ex && (!r.Hd && ((r.Ix == 0) && (oOver r.A == 0)))))) := by
    unfold alw
    rw [hx]
    have e1 : decide (r.Ix = 0) = (r.Ix == 0) := rfl
    have e2 : decide (oOver r.A = 0) = (oOver r.A == 0) := rfl
    rw [e1, e2]
  rw [he] at ht
  clear he hx hm hf
  obtain ⟨o, ho⟩ : ∃ o, oOver r.A = o := ⟨_, rfl⟩
  have HO := Lib.hid (fun w => rOverflow_any r.A HA.out.1 HA.out.2 w)
  rw [ho] at ht HO
  obtain ⟨A, L, Q, Z, EB, FB, Su, Ex, Ix, Hd, B, Ih, Sv⟩ := r
  clear ho HA
  simp only at ht HO ⊢
  cases Ih <;> cases Sv <;> cases Ex <;> cases Hd
  · obtain ⟨u, hu⟩ : ∃ u, (Ix == 0) = u := ⟨_, rfl⟩
    obtain ⟨v, hv⟩ : ∃ v, (o == 0) = v := ⟨_, rfl⟩
    rw [hu, hv] at ht
    cases u
    · have e : t = false := by rw [← ht]; simp
      subst e
      clear ht hv
      go_enter Try.func35, Try.ntmps35
      go_wp2
      go_ret
      exact ⟨rfl, (Below.refl _ _).alloc (Nat.le_refl _) _⟩
    · have e : t = v := by rw [← ht]; simp
      subst e
      clear ht
      go_enter Try.func35, Try.ntmps35
      go_wp2_with (go_at_call 37; refine (HO.out _).mono ?_; rintro e w1 ⟨rfl, rfl⟩)
      go_ret
      exact ⟨rfl, (Below.refl _ _).alloc (Nat.le_refl _) _⟩
  all_goals
    have e : t = false := by rw [← ht]; simp
    subst e
    clear ht
    go_enter Try.func35, Try.ntmps35
    go_wp2
    go_ret
    exact ⟨rfl, (Below.refl _ _).alloc (Nat.le_refl _) _⟩
end Go.Proofs.Ytmmpifcfhjdfnaa
