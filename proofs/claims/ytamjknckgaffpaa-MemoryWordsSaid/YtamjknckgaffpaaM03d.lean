/- Contracts of layer 3: the program's Apply and Write. -/
import Derived.Test.YtamjknckgaffpaaM03c
set_option linter.unusedSimpArgs false
set_option linter.unusedVariables false
namespace Go.Proofs.Ytamjknckgaffpaa
open Go.ChangeShapes Go.WideShapes Go.ChangeAt Go.RowKit
set_option maxHeartbeats 4000000 in
theorem Apply_bad (A : Option Addr) (n c : Nat) (D : Addr) (m d : Nat) (g h : Nat → Int) (w : World) (hc : Cells w (some D) m g h) (hg : ∀ i, -9223372036854775808 ≤ g i ∧ g i ≤ 9223372036854775807) (hn : n ≤ 1000000000) (hm : m ≤ 1000000000) (j : Nat) (hj : j < m) (hb : ¬ (0 ≤ g j ∧ g j < n)) (hk : cellsOk n g j) :
    Calls Try.prog 26 #[.slice A n c, .slice (some D) m d] w (RetOwnE .u16 58 [] 3 w) := by
  have HC := Lib.hid hc
  have HG := Lib.hid hg
  have HK := Lib.hid hk
  have HB := Lib.hid hb
  clear hc hg hk hb
  go_enter Try.func26, Try.ntmps26
  go_wp2
  go_loopw [13] (fun i wr => ∃ k : Nat, k ≤ j ∧ i = .int .i64 k ∧ Below w.heap.size w wr) (fun i _ => j - (intOf i).toNat)
  case atStart => exact ⟨0, Nat.zero_le _, rfl, Below.refl _ _⟩
  case round =>
    obtain ⟨k, hk, rfl, hw⟩ := hrel
    obtain ⟨c0, c1⟩ := (HC.out.below hw (Nat.le_refl _)).at_ (show k < m by omega)
    obtain ⟨g0, g1⟩ := HG.out k
    have HW := Lib.hid hw
    have hz := hw.size
    clear hw
    by_cases hlt : k < j
    · have ok := HK.out k hlt
      go_wp2_with (first | (go_at_call 36; refine (mwithin_yes _ _ (by omega) _).mono ?_; rintro e w1 ⟨rfl, rfl⟩))
      go_roundw
      case rel => exact ⟨k + 1, by omega, by go_num, HW.out.alloc hz _⟩
      case measure => simp [intOf]; omega
    · have e : k = j := by omega
      subst e
      have bad := HB.out
      go_wp2_with (first | (go_at_call 36; refine (mwithin_no _ _ (by omega) _).mono ?_; rintro e w1 ⟨rfl, rfl⟩))
      go_ret2
      exact ⟨_, rfl, Own.nil _ _ _ _, HW.out.alloc hz _⟩
theorem copyF (n : Nat) (f : Nat → Int) (i : Nat) (hi : i < n) : (fun i => if 0 ≤ i ∧ i < 0 + n then f (i - 0) else (fun _ => 0) i) i = f i := by
  dsimp only
  rw [if_pos (by omega)]
  rfl
set_option maxHeartbeats 4000000 in
theorem Apply_good (A : Option Addr) (n c : Nat) (D : Option Addr) (m d : Nat) (f g h : Nat → Int) (w : World) (hr : Row .u16 w A n f) (hc : Cells w D m g h) (hh : ∀ i, 0 ≤ h i ∧ h i < 65536) (hn : n ≤ 1000000000) (hm : m ≤ 1000000000) (hk : cellsOk n g m) :
    Calls Try.prog 26 #[.slice A n c, .slice D m d] w (RetOwnE .u16 58 (lst n (applyF f g h m)) 0 w) := by
  have HR := Lib.hid hr
  have HH := Lib.hid hh
  have HK := Lib.hid hk
  obtain ⟨HC, hD⟩ := cellsCase hc
  clear hc hr hh hk
  rcases hD with H0 | ⟨D, rfl⟩
  all_goals
    go_enter Try.func26, Try.ntmps26
    go_wp2
    go_loopw [13] (fun i wr => ∃ k : Nat, k ≤ m ∧ i = .int .i64 k ∧ Below w.heap.size w wr) (fun i _ => m - (intOf i).toNat)
    case atStart => exact ⟨0, Nat.zero_le _, rfl, Below.refl _ _⟩
    case round =>
      obtain ⟨k, hk, rfl, hw⟩ := hrel
      by_cases hlt : k < m
      · first
          | (exfalso; have := H0.out; omega)
          | (obtain ⟨c0, c1⟩ := (HC.out.below hw (Nat.le_refl _)).at_ hlt
             have ok := HK.out k hlt
             have HW := Lib.hid hw
             have hz := hw.size
             clear hw
             go_wp2_with (first | (go_at_call 36; refine (mwithin_yes _ _ (by omega) _).mono ?_; rintro e w1 ⟨rfl, rfl⟩))
             go_roundw
             case rel => exact ⟨k + 1, by omega, by go_num, HW.out.alloc hz _⟩
             case measure => simp [intOf]; omega)
      · have e : k = m := by omega
        subst e
        have hz := hw.size
        have HW := Lib.hid hw
        clear hw
        go_wp2_with (first | (at_make; refine make_full w wr rfl _ _ 35 rfl .u16 58 2 Try.underlying35 info_stored w.heap.size n rfl rfl (by omega) (by omega) HW.out hz ?_; intro w1 hown hb hlt; (have HO := Lib.hid (Arr.of_own hown (lst_replicate n 0)); have HB := Lib.hid hb; clear hown hb)) | (with_reducible refine at_slot 29 ?_; refine copy_arr rfl _ _ _ _ rfl .u16 58 2 Try.underlying35 info_stored w _ w.heap.size wr.heap.size n n 0 n n (fun _ => 0) A n c f HO.out (HR.out.below HB.out (Nat.le_refl _)) rfl rfl n (Nat.min_self n).symm (by omega) HB.out ?_; intro w2 ha hb; (have OA := Lib.hid (ha.congr (copyF n f)); have B1 := Lib.hid hb; clear ha hb HO HB)))
        obtain ⟨gb, hgb⟩ : ∃ gb, wr.heap.size = gb := ⟨_, rfl⟩
        rw [hgb] at OA ⊢
        clear hz HW
        go_loopw [32] (fun i wx => ∃ q : Nat, q ≤ k ∧ i = .int .i64 q ∧ Arr .u16 58 wx w.heap.size gb n n (applyF f g h q) ∧ Below w.heap.size w wx) (fun i _ => k - (intOf i).toNat)
        case atStart => exact ⟨0, Nat.zero_le _, rfl, OA.out, B1.out⟩
        case round =>
          obtain ⟨q, hq, rfl, oa, hb⟩ := hrel
          have XA := Lib.hid oa
          have XB := Lib.hid hb
          clear oa hb OA B1
          by_cases hql : q < k
          · first
              | (exfalso; have := H0.out; omega)
              | (obtain ⟨c0, c1⟩ := (HC.out.below XB.out (Nat.le_refl _)).at_ hql
                 obtain ⟨ok0, ok1⟩ := HK.out q hql
                 obtain ⟨h0, h1⟩ := HH.out q
                 obtain ⟨x, hx⟩ := Int.eq_ofNat_of_zero_le ok0
                 try simp only [Int.ofNat_eq_natCast] at hx
                 rw [hx] at c0 ok1
                 have hxn : x < n := by omega
                 have cell := XA.out.cell hxn
                 have free := XA.out.free x
                 have glt := XA.out.lt.2
                 have HX := Lib.hid hx
                 clear hx ok0
                 go_wp2
                 go_region_with ((go_at_call 34; refine (Put_any _ (by omega) (by omega) _).mono ?_; rintro e w1 ⟨rfl, rfl⟩))
                 all_goals
                   go_wp2
                   go_roundw
                   case rel =>
                     refine ⟨q + 1, by omega, by go_num, ?_, ((XB.out.setCell (p := ⟨gb, x, none⟩) XA.out.lt.1 _).alloc (by simpa using XB.out.size) _).drew⟩
                     have s := XA.out.set x (pPut (h q))
                     have e : (fun i => if i = x then pPut (h q) else applyF f g h q i) = applyF f g h (q + 1) := by rw [applyF_succ, HX.out, Int.toNat_natCast]
                     rw [e] at s
                     exact (s.below ((Below.refl _ _).alloc (Nat.le_refl _) _) (Nat.le_refl _)).drewN 1
                   case measure => simp [intOf]; omega)
          · have e : q = k := by omega
            subst e
            go_wp2
            go_ret2
            exact ⟨_, rfl, XA.out.to_own, XB.out⟩
theorem Apply_all (A : Option Addr) (n c : Nat) (D : Option Addr) (m d : Nat) (f g h : Nat → Int) (w : World) (hr : Row .u16 w A n f) (hc : Cells w D m g h) (hg : ∀ i, -9223372036854775808 ≤ g i ∧ g i ≤ 9223372036854775807) (hh : ∀ i, 0 ≤ h i ∧ h i < 65536) (hn : n ≤ 1000000000) (hm : m ≤ 1000000000) :
    Calls Try.prog 26 #[.slice A n c, .slice D m d] w (RetOwnE .u16 58 (mApplyL n f g h m) (mApplyE n g m) w) := by
  rcases cellsOk_dec n g m with hk | ⟨j, hj, hb, hk⟩
  · rw [(mApply_ok f h hk).1, (mApply_ok f h hk).2]
    exact Apply_good A n c D m d f g h w hr hc hh hn hm hk
  · have no : ¬ cellsOk n g m := fun k => hb (k j hj)
    rw [(mApply_bad f h no).1, (mApply_bad f h no).2]
    obtain ⟨D, rfl, _⟩ := hc 0 (by omega)
    exact Apply_bad A n c D m d g h w hc hg hn hm j hj hb hk
theorem Apply_any (A : Option Addr) (n c : Nat) (D : Option Addr) (m d : Nat) (f g h : Nat → Int) (w : World) (hr : Row .u16 w A n f) (hna : A = none → c = 0) (hc : Cells w D m g h) (hg : ∀ i, -9223372036854775808 ≤ g i ∧ g i ≤ 9223372036854775807) (hh : ∀ i, 0 ≤ h i ∧ h i < 65536) (hn : n ≤ 1000000000) (hm : m ≤ 1000000000) :
    Calls Try.prog 26 #[.slice A n c, .slice D m d] w (RetOwnE .u16 58 (mApplyL n f g h m) (mApplyE n g m) w) :=
  Apply_all A n c D m d f g h w hr hc hg hh hn hm
theorem one_write (n : Nat) (f : Nat → Int) (x y : Int) : mApplyL n f (fun _ => x) (fun _ => y) 1 = mWriteL n f x y ∧ mApplyE n (fun _ => x) 1 = mWriteE n x := by
  by_cases h : 0 ≤ x ∧ x < n
  · have k : cellsOk n (fun _ => x) 1 := fun _ _ => h
    rw [(mApply_ok _ _ k).1, (mApply_ok f (fun _ => y) k).2]
    unfold mWriteL mWriteE
    rw [if_pos h, if_pos h]
    exact ⟨rfl, rfl⟩
  · have k : ¬ cellsOk n (fun _ => x) 1 := fun c => h (c 0 (by omega))
    rw [(mApply_bad _ _ k).1, (mApply_bad f (fun _ => y) k).2]
    unfold mWriteL mWriteE
    rw [if_neg h, if_neg h]
    exact ⟨rfl, rfl⟩
theorem cells_lit1 {W : World} {g : Nat} {p q : Nat → Int} (c0 : W.cell? ⟨g, 0, none⟩ = some (.int .i64 (p 0))) (c1 : W.cell? ⟨g, 1, none⟩ = some (.int .u16 (q 0))) : Cells W (some ⟨g, 0, none⟩) 1 p q := by
  intro i hi
  have h : i = 0 := by omega
  subst h
  exact ⟨_, rfl, c0, c1⟩
set_option maxHeartbeats 2000000 in
theorem Write_any (A : Option Addr) (n c : Nat) (f : Nat → Int) (w : World) (hr : Row .u16 w A n f) (hn : n ≤ 1000000000) (x : Int) (x0 : -9223372036854775808 ≤ x) (x1 : x ≤ 9223372036854775807) (y : Int) (y0 : 0 ≤ y) (y1 : y < 65536) :
    Calls Try.prog 24 #[.slice A n c, .int .i64 x, .int .u16 y] w (RetOwnE .u16 58 (mWriteL n f x y) (mWriteE n x) w) := by
  rw [← (one_write n f x y).1, ← (one_write n f x y).2]
  have HR := Lib.hid hr
  clear hr
  go_enter Try.func24, Try.ntmps24
  go_wp2_with fail
  refine (Apply_all A n c _ 1 1 f (fun _ => x) (fun _ => y) _ (HR.out.below ((Below.refl _ _).alloc (Nat.le_refl _) _) (Nat.le_refl _)) (cells_lit1 (World.cell?_alloc_at _ _ _ _ rfl) (World.cell?_alloc_at _ _ _ _ rfl)) (fun _ => ⟨x0, x1⟩) (fun _ => ⟨y0, y1⟩) hn (by omega)).mono ?_
  rintro e w1 ⟨v, rfl, hown, hb⟩
  have HO := Lib.hid (hown.low (B' := w.heap.size) (by simp))
  have HB := Lib.hid (((Below.refl w.heap.size w).alloc (Nat.le_refl _) _).trans (hb.mono (by simp)))
  clear hown hb
  go_wp2
  go_ret2
  exact ⟨_, rfl, HO.out, HB.out⟩
end Go.Proofs.Ytamjknckgaffpaa
