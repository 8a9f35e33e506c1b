/- Contracts of layer 3: the program's Fixed. -/
import Derived.Test.YtamjknckgaffpaaM03e
import Derived.Deep.RegionLaw
set_option linter.unusedSimpArgs false
set_option linter.unusedVariables false
namespace Go.Proofs.Ytamjknckgaffpaa
open Go.ChangeShapes Go.WideShapes Go.ChangeAt Go.RowKit
set_option maxHeartbeats 2000000 in
theorem bankOf_any (g c x : Nat) (hx : x ≤ 35) (hc : 36864 ≤ c) (hc2 : c ≤ 9223372036854775807) (w : World) :
    Calls Try.prog 43 #[.slice (some ⟨g, 0, none⟩) 36864 c, .int .i64 x] w fun e w' => e = .returned (.slice (some ⟨g, 1024 * x, none⟩) 1024 1024) ∧ w = w' := by
  go_enter Try.func43, Try.ntmps43
  go_wp2
  go_ret
  refine ⟨?_, rfl⟩
  show Ending.returned (.slice _ (1024 * x + 1024 - 1024 * x) (1024 * x + 1024 - 1024 * x)) = _
  rw [Nat.add_sub_cancel_left]
theorem fix_step (b : BankF) (q x : Nat) (h : b.num q = x) (hw : b.wn q ≤ 1024) : (fun i => if 1024 * x ≤ i ∧ i < 1024 * x + b.wn q then (fun j => pPut (b.wf q j)) (i - 1024 * x) else fixF b q i) = fixF b (q + 1) := by
  rw [fixF_succ]
  funext i
  unfold fixW
  rw [h, Int.toNat_natCast]
set_option maxRecDepth 200000 in
set_option maxHeartbeats 8000000 in
theorem Fixed_good (A : Option Addr) (n c : Nat) (b : BankF) (w : World) (hb : Banks w A n b) (hf : b.Fits) (hn : n ≤ 1000000000) (hk : banksOk b n) :
    Calls Try.prog 17 #[.slice A n c] w (RetOwnE .u16 58 (lst 36864 (fixF b n)) 0 w) := by
  have HF := Lib.hid hf
  have HK := Lib.hid hk
  have E0 := Lib.hid (mFix_ok hk).2
  obtain ⟨HB, hA⟩ := banksCase hb
  have HBF := Lib.hid hf
  clear hb hf hk
  rcases hA with H0 | ⟨A, rfl⟩
  all_goals
    go_enter Try.func17, Try.ntmps17
    go_wp2_with fail
    refine (checkBanks_any _ n c b _ HB.out HBF.out hn).mono ?_
    rintro e w1 ⟨rfl, b1⟩
    rw [E0.out]
    have B1 := Lib.hid b1
    clear b1
    go_wp2_with fail
    refine (mzeros_any 36864 _ (by omega)).mono ?_
    rintro e w2 ⟨v, rfl, hown, hb⟩
    obtain ⟨g, cg, rfl, hg, oa⟩ := Arr.mk_own (hown.low B1.out.size) (by omega)
    have HO : Hid (Arr .u16 58 w2 w.heap.size g 36864 cg (fixF b 0)) := oa
    have HW := Lib.hid (B1.out.trans (hb.mono B1.out.size))
    have hcg : 36864 ≤ cg ∧ cg ≤ 9223372036854775807 := by
      obtain ⟨_, _, _, h1, h2, _⟩ := oa.open_
      unfold maxLen at h2
      exact ⟨h1, by omega⟩
    clear hown hb oa B1 E0 hg
    go_wp2
    go_loopw [16] (fun j wr => ∃ q : Nat, q ≤ n ∧ j = .int .i64 q ∧ Arr .u16 58 wr w.heap.size g 36864 cg (fixF b q) ∧ Below w.heap.size w wr) (fun j _ => n - (intOf j).toNat)
    case atStart => exact ⟨0, Nat.zero_le _, rfl, HO.out, HW.out⟩
    case round =>
      obtain ⟨q, hq, rfl, oa, hw⟩ := hrel
      have XA := Lib.hid oa
      have XW := Lib.hid hw
      have hz := hw.size
      clear oa hw HO HW
      by_cases hqk : q < n
      · first
          | (exfalso; have := H0.out; omega)
          | (obtain ⟨z0, z1, z2, z3, z4⟩ := chk_zero (HK.out q hqk)
             obtain ⟨c0, c1, _⟩ := (HB.out.below XW.out (Nat.le_refl _)).at_ hqk
             have R0 := Lib.hid (HB.out.at_ hqk).2.2
             obtain ⟨x, hx⟩ := Int.eq_ofNat_of_zero_le z0
             try simp only [Int.ofNat_eq_natCast] at hx
             rw [hx] at c0
             have hx35 : x ≤ 35 := by omega
             have HX := Lib.hid hx
             have HWF := Lib.hid (HF.out.wf q)
             clear z0 z1 z2 z4 hx
             go_wp2
             have hmin := Lib.hid (show b.wn q = Nat.min (b.wn q) 1024 from (Nat.min_eq_left z3).symm)
             have W0 := Lib.hid (show Below wr.heap.size wr (wr.alloc (Obj.cells #[.int .i64 x, .slice (b.wa q) (b.wn q) (b.wc q)] 64)).drew from ((Below.refl _ _).alloc (Nat.le_refl _) _).drew)
             go_region_law (first
               | (go_simp; go_at_call 43; refine (bankOf_any g cg x hx35 hcg.1 hcg.2 _).mono ?_; rintro e w3 ⟨rfl, rfl⟩)
               | (go_simp; go_at_call 32; refine (All_any _ _ _ _ _ (R0.out.below (XW.out.trans (W0.out.mono hz)) (Nat.le_refl _)) HWF.out (by omega)).mono ?_; rintro e w3 ⟨v, rfl, hown, hb⟩; (obtain ⟨A3, c3, rfl, _, _, R3⟩ := hown.rowOf (b.wn q) (fun j => pPut (b.wf q j)) (lst_len _ _) (fun i hi => lst_get _ _ _ hi)); (have XA3 := Lib.hid (XA.out.below (W0.out.trans (hb.mono W0.out.size)) (Nat.le_refl _))); (have XW3 := Lib.hid ((XW.out.trans (W0.out.mono hz)).trans (hb.mono (Nat.le_trans hz W0.out.size)))); clear hown hb)
               | (refine step_copy_arr rfl _ _ _ _ rfl .u16 58 2 Try.underlying35 info_stored w w.heap.size g 36864 cg (1024 * x) 1024 1024 (fixF b q) A3 (b.wn q) c3 (fun j => pPut (b.wf q j)) XA3.out R3.out rfl rfl (b.wn q) hmin.out (by omega) XW3.out ?_; intro w4 oa4 hb4; (rw [fix_step b q x HX.out z3] at oa4); (have XA4 := Lib.hid oa4); (have XW4 := Lib.hid hb4); clear oa4 hb4))
             all_goals
               go_wp2
               go_roundw
               case rel => exact ⟨q + 1, by omega, by go_num, XA4.out, XW4.out⟩
               case measure => simp [intOf]; omega)
      · have e : q = n := by omega
        subst e
        go_wp2
        go_ret2
        exact ⟨_, rfl, XA.out.to_own, XW.out⟩
set_option maxHeartbeats 4000000 in
theorem Fixed_bad (A : Option Addr) (n c : Nat) (b : BankF) (w : World) (hb : Banks w A n b) (hf : b.Fits) (hn : n ≤ 1000000000) (hx : mFixE b n ≠ 0) :
    Calls Try.prog 17 #[.slice A n c] w (RetOwnE .u16 58 [] (mFixE b n) w) := by
  have HF := Lib.hid hf
  have HB := Lib.hid hb
  have t : (mFixE b n != 0) = true := by rw [bne_iff_ne]; exact hx
  clear hb hf hx
  go_enter Try.func17, Try.ntmps17
  go_wp2_with fail
  refine (checkBanks_any _ n c b _ HB.out HF.out hn).mono ?_
  rintro e w1 ⟨rfl, b1⟩
  have B1 := Lib.hid b1
  clear b1
  go_wp2
  go_ret2
  exact ⟨_, rfl, Own.nil _ _ _ _, B1.out⟩
theorem Fixed_any (A : Option Addr) (n c : Nat) (b : BankF) (w : World) (hb : Banks w A n b) (hf : b.Fits) (hn : n ≤ 1000000000) :
    Calls Try.prog 17 #[.slice A n c] w (RetOwnE .u16 58 (mFixL b n) (mFixE b n) w) := by
  rcases banksOk_dec b n with hk | ⟨j, hj, hx, hk⟩
  · rw [(mFix_ok hk).1, (mFix_ok hk).2]
    exact Fixed_good A n c b w hb hf hn hk
  · rw [(mFix_bad hj hx hk).1]
    exact Fixed_bad A n c b w hb hf hn (by rw [(mFix_bad hj hx hk).2]; exact hx)
end Go.Proofs.Ytamjknckgaffpaa
