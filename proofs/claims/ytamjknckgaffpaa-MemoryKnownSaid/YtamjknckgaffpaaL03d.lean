/- Contracts of layer 3: the reference's Apply. -/
import Derived.Test.YtamjknckgaffpaaL03c
import Derived.Test.YtamjknckgaffpaaCells
import Derived.Deep.RegionWith
set_option linter.unusedSimpArgs false
set_option linter.unusedVariables false
namespace Go.Proofs.Ytamjknckgaffpaa
open Go.ChangeShapes Go.WideShapes Go.ChangeAt Go.RowKit
set_option maxHeartbeats 4000000 in
theorem rApply_bad (A : Option Addr) (n c : Nat) (D : Addr) (m d : Nat) (f g h : Nat → Int) (w : World) (hc : Cells w (some D) m g h) (hg : ∀ i, -9223372036854775808 ≤ g i ∧ g i ≤ 9223372036854775807) (hn : n ≤ 1000000000) (hm : m ≤ 1000000000) (j : Nat) (hj : j < m) (hb : ¬ (0 ≤ g j ∧ g j < n)) (hk : cellsOk n g j) :
    Calls Try.prog 27 #[.slice A n c, .slice (some D) m d] w (RetOwnE .u16 58 [] 3 w) := by
  have HC := Lib.hid hc
  have HG := Lib.hid hg
  have HK := Lib.hid hk
  have HB := Lib.hid hb
  clear hc hg hk hb
  go_enter Try.func27, Try.ntmps27
  go_wp2
  go_loop [6] (fun i => ∃ k : Nat, k ≤ j ∧ i = .int .i64 k) (fun i => j - (intOf i).toNat)
  case atStart => exact ⟨0, Nat.zero_le _, rfl⟩
  case round =>
    obtain ⟨k, hk, rfl⟩ := hrel
    obtain ⟨c0, c1⟩ := HC.out.at_ (show k < m by omega)
    obtain ⟨g0, g1⟩ := HG.out k
    by_cases hlt : k < j
    · have ok := HK.out k hlt
      go_wp2_with (first | (go_at_call 37; refine (rwithin_yes _ _ (by omega) _).mono ?_; rintro e w1 ⟨rfl, rfl⟩))
      go_round
      case rel => exact ⟨k + 1, by omega, by go_num⟩
      case measure => simp [intOf]; omega
    · have e : k = j := by omega
      subst e
      have bad := HB.out
      have bad2 : ¬ (0 ≤ g k ∧ g k ≤ (n : Int) - 1) := by omega
      clear bad
      go_wp2_with (first | (go_at_call 37; refine (rwithin_no _ _ (by omega) _).mono ?_; rintro e w1 ⟨rfl, rfl⟩))
      go_ret2
      exact ⟨_, rfl, Own.nil _ _ _ _, Below.refl _ _⟩
set_option maxHeartbeats 4000000 in
theorem rApply_good (A : Option Addr) (n c : Nat) (D : Option Addr) (m d : Nat) (f g h : Nat → Int) (w : World) (hr : Row .u16 w A n f) (hna : A = none → c = 0) (hc : Cells w D m g h) (hh : ∀ i, 0 ≤ h i ∧ h i < 65536) (hn : n ≤ 1000000000) (hm : m ≤ 1000000000) (hk : cellsOk n g m) :
    Calls Try.prog 27 #[.slice A n c, .slice D m d] w (RetOwnE .u16 58 (lst n (applyF f g h m)) 0 w) := by
  have HR := Lib.hid hr
  have HH := Lib.hid hh
  have HK := Lib.hid hk
  have NA := Lib.hid hna
  obtain ⟨HC, hD⟩ := cellsCase hc
  clear hc hr hh hk hna
  rcases hD with H0 | ⟨D, rfl⟩
  · have h0 : m = 0 := H0.out
    subst h0
    go_enter Try.func27, Try.ntmps27
    go_wp2
    refine wp_loop_rounds 1 ?_
    rw [rounds_succ]
    go_wp2_with (at_builtin; refine app_row rfl _ _ 35 rfl .u16 58 2 Try.underlying35 info_stored w _ w.heap.size (.slice none 0 0) [] A _ _ f (Own.nil _ _ _ _) HR.out NA.out rfl rfl (by refine ⟨?_, ?_⟩ <;> simp only [List.length_nil] <;> omega) (Below.refl _ _) (Nat.le_refl _) ?_; intro v1 w1 o1 b1 g1; (simp only [List.nil_append] at o1); (have O1 := Lib.hid o1; have B1 := Lib.hid b1; clear o1 b1 g1))
    refine wp_loop_rounds 1 ?_
    rw [rounds_succ]
    go_wp2
    go_ret2
    exact ⟨_, rfl, O1.out, B1.out⟩
  · by_cases hm0 : m = 0
    · subst hm0
      go_enter Try.func27, Try.ntmps27
      go_wp2
      refine wp_loop_rounds 1 ?_
      rw [rounds_succ]
      go_wp2_with (at_builtin; refine app_row rfl _ _ 35 rfl .u16 58 2 Try.underlying35 info_stored w _ w.heap.size (.slice none 0 0) [] A _ _ f (Own.nil _ _ _ _) HR.out NA.out rfl rfl (by refine ⟨?_, ?_⟩ <;> simp only [List.length_nil] <;> omega) (Below.refl _ _) (Nat.le_refl _) ?_; intro v1 w1 o1 b1 g1; (simp only [List.nil_append] at o1); (have O1 := Lib.hid o1; have B1 := Lib.hid b1; clear o1 b1 g1))
      refine wp_loop_rounds 1 ?_
      rw [rounds_succ]
      go_wp2
      go_ret2
      exact ⟨_, rfl, O1.out, B1.out⟩
    · have hn0 : 0 < n := by have := HK.out 0 (by omega); omega
      clear hm0
      go_enter Try.func27, Try.ntmps27
      go_wp2
      go_loop [6] (fun i => ∃ k : Nat, k ≤ m ∧ i = .int .i64 k) (fun i => m - (intOf i).toNat)
      case atStart => exact ⟨0, Nat.zero_le _, rfl⟩
      case round =>
        obtain ⟨k, hk, rfl⟩ := hrel
        by_cases hlt : k < m
        · obtain ⟨c0, c1⟩ := HC.out.at_ hlt
          have ok := HK.out k hlt
          go_wp2_with (first | (go_at_call 37; refine (rwithin_yes _ _ (by omega) _).mono ?_; rintro e w1 ⟨rfl, rfl⟩))
          go_round
          case rel => exact ⟨k + 1, by omega, by go_num⟩
          case measure => simp [intOf]; omega
        · have e : k = m := by omega
          subst e
          go_wp2_with (at_builtin; refine app_row rfl _ _ 35 rfl .u16 58 2 Try.underlying35 info_stored w _ w.heap.size (.slice none 0 0) [] A _ _ f (Own.nil _ _ _ _) HR.out NA.out rfl rfl (by refine ⟨?_, ?_⟩ <;> simp only [List.length_nil] <;> omega) (Below.refl _ _) (Nat.le_refl _) ?_; intro v1 w1 o1 b1 g1; (simp only [List.nil_append] at o1); (obtain ⟨gb, c1, rfl, hbg, oa⟩ := Arr.mk_own o1 hn0); (have OA := Lib.hid oa; have B1 := Lib.hid b1; clear oa o1 b1 g1))
          go_loopw [8] (fun i wr => ∃ q : Nat, q ≤ k ∧ i = .int .i64 q ∧ Arr .u16 58 wr w.heap.size gb n c1 (applyF f g h q) ∧ Below w.heap.size w wr) (fun i _ => k - (intOf i).toNat)
          case atStart => exact ⟨0, Nat.zero_le _, rfl, OA.out, B1.out⟩
          case round =>
            obtain ⟨q, hq, rfl, oa, hb⟩ := hrel
            have XA := Lib.hid oa
            have XB := Lib.hid hb
            clear oa hb OA B1
            by_cases hql : q < k
            · obtain ⟨c0, c1⟩ := (HC.out.below XB.out (Nat.le_refl _)).at_ hql
              obtain ⟨ok0, ok1⟩ := HK.out q hql
              obtain ⟨h0, h1⟩ := HH.out q
              obtain ⟨x, hx⟩ := Int.eq_ofNat_of_zero_le ok0
              try simp only [Int.ofNat_eq_natCast] at hx
              rw [hx] at c0 ok1
              have hxn : x < n := by omega
              have cell := XA.out.cell hxn
              have free := XA.out.free x
              have HX := Lib.hid hx
              clear hx ok0
              go_wp2
              go_region_with ((go_at_call 46; refine (rPut_any _ (by omega) (by omega) _).mono ?_; rintro e w1 ⟨rfl, rfl⟩))
              all_goals
                go_wp2
                go_roundw
                case rel =>
                  refine ⟨q + 1, by omega, by go_num, ?_, (XB.out.setCell (p := ⟨gb, x, none⟩) (XA.out.lt.1) _).drew⟩
                  have s := XA.out.set x (pPut (h q))
                  have e : (fun i => if i = x then pPut (h q) else applyF f g h q i) = applyF f g h (q + 1) := by rw [applyF_succ, HX.out, Int.toNat_natCast]
                  rw [e] at s
                  exact s.drewN 1
                case measure => simp [intOf]; omega
            · have e : q = k := by omega
              subst e
              go_wp2
              go_ret2
              exact ⟨_, rfl, XA.out.to_own, XB.out⟩
theorem rApply_any (A : Option Addr) (n c : Nat) (D : Option Addr) (m d : Nat) (f g h : Nat → Int) (w : World) (hr : Row .u16 w A n f) (hna : A = none → c = 0) (hc : Cells w D m g h) (hg : ∀ i, -9223372036854775808 ≤ g i ∧ g i ≤ 9223372036854775807) (hh : ∀ i, 0 ≤ h i ∧ h i < 65536) (hn : n ≤ 1000000000) (hm : m ≤ 1000000000) :
    Calls Try.prog 27 #[.slice A n c, .slice D m d] w (RetOwnE .u16 58 (mApplyL n f g h m) (mApplyE n g m) w) := by
  rcases cellsOk_dec n g m with hk | ⟨j, hj, hb, hk⟩
  · rw [(mApply_ok f h hk).1, (mApply_ok f h hk).2]
    exact rApply_good A n c D m d f g h w hr hna hc hh hn hm hk
  · have no : ¬ cellsOk n g m := fun k => hb (k j hj)
    rw [(mApply_bad f h no).1, (mApply_bad f h no).2]
    obtain ⟨D, rfl, _⟩ := hc 0 (by omega)
    exact rApply_bad A n c D m d f g h w hc hg hn hm j hj hb hk
end Go.Proofs.Ytamjknckgaffpaa
