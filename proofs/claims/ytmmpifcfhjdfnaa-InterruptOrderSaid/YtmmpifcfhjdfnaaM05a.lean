/- Contracts of layer 5: the program's small functions. -/
import Derived.Test.YtmmpifcfhjdfnaaL05b
import Derived.Test.YtmmpifcfhjdfnaaM03
import Derived.Test.YtmmpifcfhjdfnaaRes
set_option linter.unusedSimpArgs false
set_option linter.unusedVariables false
namespace Go.Proofs.Ytmmpifcfhjdfnaa
open Go.ChangeShapes Go.WideShapes Go.ChangeAt Go.RowKit
theorem isWord_yes (a : Int) (h : a ≤ 32767) (w : World) : Calls Try.prog 33 #[.int .u16 a] w fun e w' => e = .returned (.bool true) ∧ w = w' := by
  go_enter Try.func33, Try.ntmps33
  go_wp2
  go_ret
  exact ⟨ret_bool (by simp; try omega), rfl⟩
theorem isWord_no (a : Int) (h : ¬ a ≤ 32767) (w : World) : Calls Try.prog 33 #[.int .u16 a] w fun e w' => e = .returned (.bool false) ∧ w = w' := by
  go_enter Try.func33, Try.ntmps33
  go_wp2
  go_ret
  exact ⟨ret_bool (by simp; try omega), rfl⟩
theorem cwithin_yes (n m : Int) (h : 0 ≤ n ∧ n < m) (w : World) : Calls Try.prog 34 #[.int .i64 n, .int .i64 m] w fun e w' => e = .returned (.bool true) ∧ w = w' := by
  go_enter Try.func34, Try.ntmps34
  go_wp2
  go_ret
  exact ⟨ret_bool (by simp; try omega), rfl⟩
theorem cwithin_no (n m : Int) (h : ¬ (0 ≤ n ∧ n < m)) (w : World) : Calls Try.prog 34 #[.int .i64 n, .int .i64 m] w fun e w' => e = .returned (.bool false) ∧ w = w' := by
  by_cases c : 0 ≤ n
  · go_enter Try.func34, Try.ntmps34
    go_wp2
    go_ret
    exact ⟨ret_bool (by simp; try omega), rfl⟩
  · go_enter Try.func34, Try.ntmps34
    go_wp2
    go_ret
    exact ⟨ret_bool (by simp; try omega), rfl⟩
set_option maxHeartbeats 2000000 in
theorem May_any (r : Rg) (t : Bool) (ht : decide r.may = t) (w : World) :
    Calls Try.prog 19 #[.agg #[.int .u16 r.A, .int .u16 r.L, .int .u16 r.Q, .int .i64 r.Z, .int .i64 r.EB, .int .i64 r.FB, .int .i64 r.Su, .bool r.Ex, .int .u16 r.Ix, .bool r.Hd, .int .u16 r.B, .bool r.Ih, .bool r.Sv]] w fun e w' => e = .returned (.bool t) ∧ Below w.heap.size w w' := by
  have HT := Lib.hid ht
  clear ht
  by_cases hc0 : r.L ≤ 32767
  · by_cases hc1 : r.Q ≤ 32767
    · by_cases hc2 : r.Ix ≤ 32767
      · by_cases hc3 : r.B ≤ 32767
        · by_cases hc4 : 0 ≤ r.Z ∧ r.Z < 4096
          · by_cases hc5 : 0 ≤ r.EB ∧ r.EB < 8
            · by_cases hc6 : 0 ≤ r.FB ∧ r.FB < 32
              · by_cases hc7 : 0 ≤ r.Su ∧ r.Su < 8
                · go_enter Try.func19, Try.ntmps19
                  go_wp2_with (first
                    | (go_at_call 33; refine (isWord_yes _ (by omega) _).mono ?_; rintro e w1 ⟨rfl, rfl⟩)
                    | (go_at_call 33; refine (isWord_no _ (by omega) _).mono ?_; rintro e w1 ⟨rfl, rfl⟩)
                    | (go_at_call 34; refine (cwithin_yes _ _ (by omega) _).mono ?_; rintro e w1 ⟨rfl, rfl⟩)
                    | (go_at_call 34; refine (cwithin_no _ _ (by omega) _).mono ?_; rintro e w1 ⟨rfl, rfl⟩))
                  go_ret
                  refine ⟨ret_bool ?_, (Below.refl _ _).alloc (Nat.le_refl _) _⟩
                  rw [← HT.out]; symm
                  first
                    | (exact decide_eq_true (by unfold Rg.may; omega))
                    | (exact decide_eq_false (by unfold Rg.may; omega))
                · go_enter Try.func19, Try.ntmps19
                  go_wp2_with (first
                    | (go_at_call 33; refine (isWord_yes _ (by omega) _).mono ?_; rintro e w1 ⟨rfl, rfl⟩)
                    | (go_at_call 33; refine (isWord_no _ (by omega) _).mono ?_; rintro e w1 ⟨rfl, rfl⟩)
                    | (go_at_call 34; refine (cwithin_yes _ _ (by omega) _).mono ?_; rintro e w1 ⟨rfl, rfl⟩)
                    | (go_at_call 34; refine (cwithin_no _ _ (by omega) _).mono ?_; rintro e w1 ⟨rfl, rfl⟩))
                  go_ret
                  refine ⟨ret_bool ?_, (Below.refl _ _).alloc (Nat.le_refl _) _⟩
                  rw [← HT.out]; symm
                  first
                    | (exact decide_eq_true (by unfold Rg.may; omega))
                    | (exact decide_eq_false (by unfold Rg.may; omega))
              · go_enter Try.func19, Try.ntmps19
                go_wp2_with (first
                  | (go_at_call 33; refine (isWord_yes _ (by omega) _).mono ?_; rintro e w1 ⟨rfl, rfl⟩)
                  | (go_at_call 33; refine (isWord_no _ (by omega) _).mono ?_; rintro e w1 ⟨rfl, rfl⟩)
                  | (go_at_call 34; refine (cwithin_yes _ _ (by omega) _).mono ?_; rintro e w1 ⟨rfl, rfl⟩)
                  | (go_at_call 34; refine (cwithin_no _ _ (by omega) _).mono ?_; rintro e w1 ⟨rfl, rfl⟩))
                go_ret
                refine ⟨ret_bool ?_, (Below.refl _ _).alloc (Nat.le_refl _) _⟩
                rw [← HT.out]; symm
                first
                  | (exact decide_eq_true (by unfold Rg.may; omega))
                  | (exact decide_eq_false (by unfold Rg.may; omega))
            · go_enter Try.func19, Try.ntmps19
              go_wp2_with (first
                | (go_at_call 33; refine (isWord_yes _ (by omega) _).mono ?_; rintro e w1 ⟨rfl, rfl⟩)
                | (go_at_call 33; refine (isWord_no _ (by omega) _).mono ?_; rintro e w1 ⟨rfl, rfl⟩)
                | (go_at_call 34; refine (cwithin_yes _ _ (by omega) _).mono ?_; rintro e w1 ⟨rfl, rfl⟩)
                | (go_at_call 34; refine (cwithin_no _ _ (by omega) _).mono ?_; rintro e w1 ⟨rfl, rfl⟩))
              go_ret
              refine ⟨ret_bool ?_, (Below.refl _ _).alloc (Nat.le_refl _) _⟩
              rw [← HT.out]; symm
              first
                | (exact decide_eq_true (by unfold Rg.may; omega))
                | (exact decide_eq_false (by unfold Rg.may; omega))
          · go_enter Try.func19, Try.ntmps19
            go_wp2_with (first
              | (go_at_call 33; refine (isWord_yes _ (by omega) _).mono ?_; rintro e w1 ⟨rfl, rfl⟩)
              | (go_at_call 33; refine (isWord_no _ (by omega) _).mono ?_; rintro e w1 ⟨rfl, rfl⟩)
              | (go_at_call 34; refine (cwithin_yes _ _ (by omega) _).mono ?_; rintro e w1 ⟨rfl, rfl⟩)
              | (go_at_call 34; refine (cwithin_no _ _ (by omega) _).mono ?_; rintro e w1 ⟨rfl, rfl⟩))
            go_ret
            refine ⟨ret_bool ?_, (Below.refl _ _).alloc (Nat.le_refl _) _⟩
            rw [← HT.out]; symm
            first
              | (exact decide_eq_true (by unfold Rg.may; omega))
              | (exact decide_eq_false (by unfold Rg.may; omega))
        · go_enter Try.func19, Try.ntmps19
          go_wp2_with (first
            | (go_at_call 33; refine (isWord_yes _ (by omega) _).mono ?_; rintro e w1 ⟨rfl, rfl⟩)
            | (go_at_call 33; refine (isWord_no _ (by omega) _).mono ?_; rintro e w1 ⟨rfl, rfl⟩)
            | (go_at_call 34; refine (cwithin_yes _ _ (by omega) _).mono ?_; rintro e w1 ⟨rfl, rfl⟩)
            | (go_at_call 34; refine (cwithin_no _ _ (by omega) _).mono ?_; rintro e w1 ⟨rfl, rfl⟩))
          go_ret
          refine ⟨ret_bool ?_, (Below.refl _ _).alloc (Nat.le_refl _) _⟩
          rw [← HT.out]; symm
          first
            | (exact decide_eq_true (by unfold Rg.may; omega))
            | (exact decide_eq_false (by unfold Rg.may; omega))
      · go_enter Try.func19, Try.ntmps19
        go_wp2_with (first
          | (go_at_call 33; refine (isWord_yes _ (by omega) _).mono ?_; rintro e w1 ⟨rfl, rfl⟩)
          | (go_at_call 33; refine (isWord_no _ (by omega) _).mono ?_; rintro e w1 ⟨rfl, rfl⟩)
          | (go_at_call 34; refine (cwithin_yes _ _ (by omega) _).mono ?_; rintro e w1 ⟨rfl, rfl⟩)
          | (go_at_call 34; refine (cwithin_no _ _ (by omega) _).mono ?_; rintro e w1 ⟨rfl, rfl⟩))
        go_ret
        refine ⟨ret_bool ?_, (Below.refl _ _).alloc (Nat.le_refl _) _⟩
        rw [← HT.out]; symm
        first
          | (exact decide_eq_true (by unfold Rg.may; omega))
          | (exact decide_eq_false (by unfold Rg.may; omega))
    · go_enter Try.func19, Try.ntmps19
      go_wp2_with (first
        | (go_at_call 33; refine (isWord_yes _ (by omega) _).mono ?_; rintro e w1 ⟨rfl, rfl⟩)
        | (go_at_call 33; refine (isWord_no _ (by omega) _).mono ?_; rintro e w1 ⟨rfl, rfl⟩)
        | (go_at_call 34; refine (cwithin_yes _ _ (by omega) _).mono ?_; rintro e w1 ⟨rfl, rfl⟩)
        | (go_at_call 34; refine (cwithin_no _ _ (by omega) _).mono ?_; rintro e w1 ⟨rfl, rfl⟩))
      go_ret
      refine ⟨ret_bool ?_, (Below.refl _ _).alloc (Nat.le_refl _) _⟩
      rw [← HT.out]; symm
      first
        | (exact decide_eq_true (by unfold Rg.may; omega))
        | (exact decide_eq_false (by unfold Rg.may; omega))
  · go_enter Try.func19, Try.ntmps19
    go_wp2_with (first
      | (go_at_call 33; refine (isWord_yes _ (by omega) _).mono ?_; rintro e w1 ⟨rfl, rfl⟩)
      | (go_at_call 33; refine (isWord_no _ (by omega) _).mono ?_; rintro e w1 ⟨rfl, rfl⟩)
      | (go_at_call 34; refine (cwithin_yes _ _ (by omega) _).mono ?_; rintro e w1 ⟨rfl, rfl⟩)
      | (go_at_call 34; refine (cwithin_no _ _ (by omega) _).mono ?_; rintro e w1 ⟨rfl, rfl⟩))
    go_ret
    refine ⟨ret_bool ?_, (Below.refl _ _).alloc (Nat.le_refl _) _⟩
    rw [← HT.out]; symm
    first
      | (exact decide_eq_true (by unfold Rg.may; omega))
      | (exact decide_eq_false (by unfold Rg.may; omega))
end Go.Proofs.Ytmmpifcfhjdfnaa
