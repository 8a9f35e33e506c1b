/- Contracts of layer 3: the reference's Fixed. -/
import Derived.Test.YtamjknckgaffpaaL03c
import Derived.Test.YtamjknckgaffpaaBanks
import Derived.Deep.RegionWith
set_option linter.unusedSimpArgs false
set_option linter.unusedVariables false
namespace Go.Proofs.Ytamjknckgaffpaa
open Go.ChangeShapes Go.WideShapes Go.ChangeAt Go.RowKit
set_option maxHeartbeats 4000000 in
theorem rcheck_any (A : Addr) (n c : Nat) (b : BankF) (w : World) (hb : Banks w (some A) n b) (hf : b.Fits) (hn : n ≤ 4611686018427387904) (i : Nat) (hi : i < n) :
    Calls Try.prog 44 #[.slice (some A) n c, .int .i64 i] w fun e w' => e = .returned (.int .i64 (chk b i)) ∧ ∃ m, w' = w.drewN m := by
  have HB := Lib.hid hb
  have HF := Lib.hid hf
  clear hb hf
  obtain ⟨c0, c1, r0⟩ := HB.out.at_ hi
  obtain ⟨n0, n1⟩ := HF.out.num i
  have R0 := Lib.hid r0
  clear r0
  by_cases hr : 0 ≤ b.num i ∧ b.num i ≤ 35
  · obtain ⟨hr0, hr1⟩ := hr
    go_enter Try.func44, Try.ntmps44
    go_wp2_with (first | (go_at_call 37; refine (rwithin_yes _ _ (by omega) _).mono ?_; rintro e w1 ⟨rfl, rfl⟩))
    go_loopw [5] (fun j wr => ∃ k : Nat, k ≤ i ∧ j = .int .i64 k ∧ (∃ m, wr = w.drewN m) ∧ Hid (∀ q, q < k → b.num q ≠ b.num i)) (fun j _ => i - (intOf j).toNat)
    case atStart => exact ⟨0, Nat.zero_le _, rfl, ⟨0, rfl⟩, fun q hq => by omega⟩
    case round =>
      obtain ⟨k, hk, rfl, ⟨m, rfl⟩, hd⟩ := hrel
      by_cases hlt : k < i
      · obtain ⟨d0, d1, s0⟩ := HB.out.at_ (show k < n by omega)
        clear s0
        by_cases he : b.num k = b.num i
        · have E := Lib.hid (chk_dup ⟨hr0, hr1⟩ k hlt he)
          have HE := Lib.hid he
          rw [he] at d0
          clear he
          go_wp2
          go_quiet (fail)
          go_wp2
          go_ret
          exact ⟨ret_int E.out.symm, _, World.drewN_drewN _ _ _⟩
        · have t : (b.num k == b.num i) = false := by rw [beq_eq_false_iff_ne]; exact he
          have D := Lib.hid (show ∀ q, q < k + 1 → b.num q ≠ b.num i from fun q hq => by
            by_cases e : q = k
            · rw [e]; exact he
            · exact hd.out q (by omega))
          clear he
          go_wp2
          go_quiet (fail)
          go_wp2
          go_roundw
          case rel => exact ⟨k + 1, by omega, by go_num, ⟨_, rfl⟩, D.out⟩
          case measure => simp [intOf]; omega
      · have e : k = i := by omega
        subst e
        by_cases hl : 1024 < b.wn k
        · have hl2 : 1024 < (b.wn k : Int) := by omega
          have E := Lib.hid (chk_long ⟨hr0, hr1⟩ hd.out hl)
          clear hl
          go_wp2
          go_ret
          exact ⟨ret_int E.out.symm, _, rfl⟩
        · have hl2 : ¬ 1024 < (b.wn k : Int) := by omega
          go_wp2
          go_loop [6] (fun j => ∃ q : Nat, q ≤ b.wn k ∧ j = .int .i64 q ∧ Hid (∀ p, p < q → b.wf k p ≤ 32767)) (fun j => b.wn k - (intOf j).toNat)
          case atStart => exact ⟨0, Nat.zero_le _, rfl, fun q hq => by omega⟩
          case round =>
            obtain ⟨q, hq, rfl, hw⟩ := hrel
            by_cases hql : q < b.wn k
            · obtain ⟨wa, ewa, cw⟩ := R0.out q hql
              rw [ewa] at c1
              have EW := Lib.hid ewa
              clear ewa
              by_cases hx : 32767 < b.wf k q
              · have E := Lib.hid (chk_word ⟨hr0, hr1⟩ hd.out hl q hql hx)
                go_wp2
                go_ret
                exact ⟨ret_int E.out.symm, _, rfl⟩
              · have D := Lib.hid (show ∀ p, p < q + 1 → b.wf k p ≤ 32767 from fun p hp => by
                  by_cases e : p = q
                  · rw [e]; omega
                  · exact hw.out p (by omega))
                go_wp2
                go_round
                case rel => exact ⟨q + 1, by omega, by go_num, D.out⟩
                case measure => simp [intOf]; omega
            · have E := Lib.hid (chk_ok ⟨hr0, hr1⟩ hd.out hl (fun p hp => hw.out p (by omega)))
              go_wp2
              go_ret
              exact ⟨ret_int E.out.symm, _, rfl⟩
  · have E := Lib.hid (chk_range hr)
    go_enter Try.func44, Try.ntmps44
    go_wp2_with (first | (go_at_call 37; refine (rwithin_no _ _ (by omega) _).mono ?_; rintro e w1 ⟨rfl, rfl⟩))
    go_ret
    exact ⟨ret_int E.out.symm, 0, rfl⟩
set_option maxHeartbeats 4000000 in
theorem rFixed_bad (A : Addr) (n c : Nat) (b : BankF) (w : World) (hb : Banks w (some A) n b) (hf : b.Fits) (hn : n ≤ 1000000000) (i : Nat) (hi : i < n) (hx : chk b i ≠ 0) (hk : banksOk b i) :
    Calls Try.prog 18 #[.slice (some A) n c] w (RetOwnE .u16 58 [] (chk b i) w) := by
  have HB := Lib.hid hb
  have HF := Lib.hid hf
  have HK := Lib.hid hk
  have HX := Lib.hid hx
  clear hb hf hk hx
  go_enter Try.func18, Try.ntmps18
  go_wp2
  go_loopw [4] (fun j wr => ∃ k : Nat, k ≤ i ∧ j = .int .i64 k ∧ ∃ m, wr = w.drewN m) (fun j _ => i - (intOf j).toNat)
  case atStart => exact ⟨0, Nat.zero_le _, rfl, 0, rfl⟩
  case round =>
    obtain ⟨k, hk, rfl, m, rfl⟩ := hrel
    by_cases hlt : k < i
    · have hz := HK.out k hlt
      go_wp2_with (go_at_call 44; refine (rcheck_any A n c b _ (HB.out.drewN _) HF.out (by omega) k (by omega)).mono ?_; rintro e w1 ⟨rfl, m1, rfl⟩)
      go_roundw
      case rel => exact ⟨k + 1, by omega, by go_num, _, rfl⟩
      case measure => simp [intOf]; omega
    · have e : k = i := by omega
      subst e
      have t : (chk b k != 0) = true := by rw [bne_iff_ne]; exact HX.out
      go_wp2_with (go_at_call 44; refine (rcheck_any A n c b _ (HB.out.drewN _) HF.out (by omega) k (by omega)).mono ?_; rintro e w1 ⟨rfl, m1, rfl⟩)
      go_ret2
      exact ⟨_, rfl, Own.nil _ _ _ _, below_drewN (Below.refl _ _) _⟩
theorem mul_bd (x : Int) (k : Nat) (h0 : 0 ≤ x) (h1 : x ≤ 35) (hk : k < 1024) : (1024 * x + (k : Int)) = ((1024 * x.toNat + k : Nat) : Int) ∧ 1024 * x.toNat + k < 36864 := by omega
set_option maxRecDepth 200000 in
set_option maxHeartbeats 8000000 in
theorem rFixed_good (A : Option Addr) (n c : Nat) (b : BankF) (w : World) (hb : Banks w A n b) (hf : b.Fits) (hn : n ≤ 1000000000) (hk : banksOk b n) :
    Calls Try.prog 18 #[.slice A n c] w (RetOwnE .u16 58 (lst 36864 (fixF b n)) 0 w) := by
  have HF := Lib.hid hf
  have HK := Lib.hid hk
  obtain ⟨HB, hA⟩ := banksCase hb
  clear hb hf hk
  rcases hA with H0 | ⟨A, rfl⟩
  · have h0 : n = 0 := H0.out
    subst h0
    go_enter Try.func18, Try.ntmps18
    go_wp2
    refine wp_loop_rounds 1 ?_
    rw [rounds_succ]
    go_wp2_with fail
    refine (zeros_any 36864 _ (by omega)).mono ?_
    rintro e w1 ⟨v, rfl, hown, hb⟩
    have HO := Lib.hid hown
    have HW := Lib.hid hb
    clear hown hb
    go_wp2
    refine wp_loop_rounds 1 ?_
    rw [rounds_succ]
    go_wp2
    go_ret2
    exact ⟨_, rfl, HO.out, HW.out⟩
  · go_enter Try.func18, Try.ntmps18
    go_wp2
    go_loopw [4] (fun j wr => ∃ k : Nat, k ≤ n ∧ j = .int .i64 k ∧ ∃ m, wr = w.drewN m) (fun j _ => n - (intOf j).toNat)
    case atStart => exact ⟨0, Nat.zero_le _, rfl, 0, rfl⟩
    case round =>
      obtain ⟨k, hk, rfl, m, rfl⟩ := hrel
      by_cases hlt : k < n
      · have hz := HK.out k hlt
        go_wp2_with (go_at_call 44; refine (rcheck_any A n c b _ (HB.out.drewN _) HF.out (by omega) k (by omega)).mono ?_; rintro e w1 ⟨rfl, m1, rfl⟩)
        go_roundw
        case rel => exact ⟨k + 1, by omega, by go_num, _, rfl⟩
        case measure => simp [intOf]; omega
      · have e : k = n := by omega
        subst e
        go_wp2_with fail
        refine (zeros_any 36864 _ (by omega)).mono ?_
        rintro e w1 ⟨v, rfl, hown, hb⟩
        obtain ⟨g, cg, rfl, hg, oa⟩ := Arr.mk_own hown (by omega)
        have HO : Hid (Arr .u16 58 w1 w.heap.size g 36864 cg (fixF b 0)) := oa
        have HW := Lib.hid (from_drewN hb)
        clear hown hb oa
        go_wp2
        go_loopw [7] (fun j wr => ∃ q : Nat, q ≤ k ∧ j = .int .i64 q ∧ Arr .u16 58 wr w.heap.size g 36864 cg (fixF b q) ∧ Below w.heap.size w wr) (fun j _ => k - (intOf j).toNat)
        case atStart => exact ⟨0, Nat.zero_le _, rfl, HO.out, HW.out⟩
        case round =>
          obtain ⟨q, hq, rfl, oa, hw⟩ := hrel
          have XA := Lib.hid oa
          have XW := Lib.hid hw
          clear oa hw HO HW
          by_cases hqk : q < k
          · obtain ⟨z0, z1, z2, z3, z4⟩ := chk_zero (HK.out q hqk)
            have Z2 := Lib.hid z2
            have Z4 := Lib.hid z4
            clear z2 z4
            go_wp2
            rename_i wq _ _ _
            go_loopw [8] (fun j wr => ∃ p : Nat, p ≤ b.wn q ∧ j = .int .i64 p ∧ Arr .u16 58 wr w.heap.size g 36864 cg (fixW b q p (fixF b q)) ∧ Below w.heap.size w wr) (fun j _ => b.wn q - (intOf j).toNat)
            case atStart => exact ⟨0, Nat.zero_le _, rfl, by rw [fixW_zero]; exact XA.out, XW.out⟩
            case round =>
              obtain ⟨p, hp, rfl, oa, hw⟩ := hrel
              have YA := Lib.hid oa
              have YW := Lib.hid hw
              clear oa hw XA XW
              obtain ⟨d0, d1, s0⟩ := (HB.out.below YW.out (Nat.le_refl _)).at_ hqk
              have S0 := Lib.hid s0
              clear s0
              by_cases hpl : p < b.wn q
              · obtain ⟨wa, ewa, cw⟩ := S0.out p hpl
                rw [ewa] at d1
                obtain ⟨f0, f1⟩ := HF.out.wf q p
                obtain ⟨m0, m1⟩ := mul_bd (b.num q) p z0 z1 (by omega)
                have cell := YA.out.cell m1
                have free := YA.out.free (1024 * (b.num q).toNat + p)
                have hst := YA.out.set (1024 * (b.num q).toNat + p) (pPut (b.wf q p))
                rw [fixW_succ] at hst
                have YS := Lib.hid hst
                have EW := Lib.hid ewa
                clear ewa hst
                generalize hT : 1024 * (b.num q).toNat + p = T at *
                clear hT
                go_wp2
                have m2 : (T : Int) < 36864 := by omega
                have e1 : IntKind.i64.wrap (1024 * b.num q) = 1024 * b.num q := IntWalk.i64_in _ (by omega)
                have e2 : IntKind.i64.wrap (1024 * b.num q + (p : Int)) = (T : Int) := by rw [m0]; exact IntWalk.i64_in _ (by omega)
                have M0 := Lib.hid m0
                clear m0
                go_region_with ((go_at_call 46; refine (rPut_any _ (by omega) (by omega) _).mono ?_; rintro e w1 ⟨rfl, rfl⟩))
                all_goals
                  go_wp2
                  go_roundw
                  case rel => exact ⟨p + 1, by omega, by go_num, YS.out.drewN 1, (YW.out.setCell (p := ⟨g, T, none⟩) (YA.out.lt.1) _).drew⟩
                  case measure => simp [intOf]; omega
              · have e : p = b.wn q := by omega
                subst e
                go_wp2
                go_roundw
                case rel => exact ⟨q + 1, by omega, by go_num, by rw [fixF_succ]; exact YA.out, YW.out⟩
                case measure => simp [intOf]; omega
          · have e : q = k := by omega
            subst e
            go_wp2
            go_ret2
            exact ⟨_, rfl, XA.out.to_own, XW.out⟩
theorem rFixed_any (A : Option Addr) (n c : Nat) (b : BankF) (w : World) (hb : Banks w A n b) (hf : b.Fits) (hn : n ≤ 1000000000) :
    Calls Try.prog 18 #[.slice A n c] w (RetOwnE .u16 58 (mFixL b n) (mFixE b n) w) := by
  rcases banksOk_dec b n with hk | ⟨j, hj, hx, hk⟩
  · rw [(mFix_ok hk).1, (mFix_ok hk).2]
    exact rFixed_good A n c b w hb hf hn hk
  · rw [(mFix_bad hj hx hk).1, (mFix_bad hj hx hk).2]
    obtain ⟨D, rfl, _⟩ := hb 0 (by omega)
    exact rFixed_bad D n c b w hb hf hn j hj hx hk
end Go.Proofs.Ytamjknckgaffpaa
