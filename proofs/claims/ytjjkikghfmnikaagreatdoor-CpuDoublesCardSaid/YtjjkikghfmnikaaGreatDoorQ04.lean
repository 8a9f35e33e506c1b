/- Layer 3: what operands and addresses have to do with each other. -/
import Derived.Test.YtjjkikghfmnikaaGreatDoorQ01
import Derived.Test.YtjjkikghfmnikaaGreatDoorQ03
import Derived.Test.YtjjkikghfmnikaaGreatDoorQ02
set_option linter.unusedSimpArgs false
set_option linter.unusedVariables false
namespace Go.Proofs.YtjjkikghfmnikaaGreatDoor
open Go.RowKit
/-- The operand k addresses the word a of the space s. -/
def mLead (k eb fb s a : Int) : Bool := decide (mAbsE k eb fb = 0 ∧ mAbsS k eb fb = s ∧ mAbsA k eb fb = a)
theorem mLead_mk {k eb fb s a : Int} (h : mAbsOk k eb fb) (hs : (if k ≤ 1023 then 1 else 2) = s) (ha : (if k ≤ 767 then k else if k ≤ 1023 then 256 * eb + k - 768 else if k ≤ 2047 then 1024 * fb + k - 1024 else k) = a) : mLead k eb fb s a = true := by
  unfold mLead mAbsE mAbsS mAbsA
  rw [if_pos h, if_pos h, if_pos h, hs, ha]; simp
theorem reach1_yes (x b c : Int) (x0 : 0 ≤ x) (x1 : x < 2048) (b0 : 0 ≤ b) (b1 : b < 8) (c0 : 0 ≤ c) (c1 : c < 36) (h : x ≤ 767 ∨ x / 256 = b) :
    ∃ k, mOpV 1 x b c = k ∧ mOpE 1 x b c = 0 ∧ mLead k b c 1 x = true ∧ 0 ≤ k ∧ k ≤ 1023 ∧ (x ≤ 767 → k = x) ∧ (767 < x → k = 768 + x % 256) := by
  have ok := (mOpOk1 x b c).2 (by omega)
  by_cases d : x ≤ 767
  · have e : mOp 1 x b c = x := by unfold mOp; rw [if_pos rfl, if_pos d]
    refine ⟨x, (mOpV_yes 1 x b c x ⟨.inl rfl, ok⟩ e x0).symm, (mOpE_yes 1 x b c (.inl rfl) ok (by rw [e]; exact x0)).symm, mLead_mk (by unfold mAbsOk; omega) (by rw [if_pos (by omega)]) (by rw [if_pos d]), x0, by omega, fun _ => rfl, fun h => by omega⟩
  · have d2 : x / 256 = b := by omega
    have e : mOp 1 x b c = 768 + x % 256 := by unfold mOp; rw [if_pos rfl, if_neg d, if_pos d2]
    refine ⟨768 + x % 256, (mOpV_yes 1 x b c _ ⟨.inl rfl, ok⟩ e (by omega)).symm, (mOpE_yes 1 x b c (.inl rfl) ok (by rw [e]; omega)).symm, mLead_mk (by unfold mAbsOk; omega) (by rw [if_pos (by omega)]) (by rw [if_neg (by omega), if_pos (by omega)]; omega), by omega, by omega, fun h => by omega, fun _ => rfl⟩
theorem reach1_no (x b c : Int) (x0 : 0 ≤ x) (x1 : x < 2048) (b0 : 0 ≤ b) (b1 : b < 8) (c0 : 0 ≤ c) (c1 : c < 36) (h : ¬ (x ≤ 767 ∨ x / 256 = b)) : mOpE 1 x b c = 3 :=
  (mOpE_none 1 x b c (.inl rfl) (by unfold mOp; rw [if_pos rfl, if_neg (by omega), if_neg (by omega)])).symm
theorem reach2_yes (y b c : Int) (y0 : 0 ≤ y) (y1 : y < 36864) (b0 : 0 ≤ b) (b1 : b < 8) (c0 : 0 ≤ c) (c1 : c < 36) (h : y / 1024 = 2 ∨ y / 1024 = 3 ∨ y / 1024 = c) :
    ∃ k, mOpV 2 y b c = k ∧ mOpE 2 y b c = 0 ∧ mLead k b c 2 y = true ∧ 1024 ≤ k ∧ k ≤ 4095 ∧ (2048 ≤ y ∧ y ≤ 4095 → k = y) ∧ (¬ (2048 ≤ y ∧ y ≤ 4095) → k = 1024 + y % 1024) := by
  have ok := (mOpOk2 y b c).2 (by omega)
  by_cases d : 2048 ≤ y ∧ y ≤ 4095
  · have e : mOp 2 y b c = y := by unfold mOp; rw [if_neg (by omega), if_pos d]
    refine ⟨y, (mOpV_yes 2 y b c y ⟨.inr rfl, ok⟩ e y0).symm, (mOpE_yes 2 y b c (.inr rfl) ok (by rw [e]; exact y0)).symm, mLead_mk (by unfold mAbsOk; omega) (by rw [if_neg (by omega)]) (by rw [if_neg (by omega), if_neg (by omega), if_neg (by omega)]), by omega, by omega, fun _ => rfl, fun h => absurd d h⟩
  · have d2 : y / 1024 = c := by omega
    have e : mOp 2 y b c = 1024 + y % 1024 := by unfold mOp; rw [if_neg (by omega), if_neg d, if_pos d2]
    refine ⟨1024 + y % 1024, (mOpV_yes 2 y b c _ ⟨.inr rfl, ok⟩ e (by omega)).symm, (mOpE_yes 2 y b c (.inr rfl) ok (by rw [e]; omega)).symm, mLead_mk (by unfold mAbsOk; omega) (by rw [if_neg (by omega)]) (by rw [if_neg (by omega), if_neg (by omega), if_pos (by omega)]; omega), by omega, by omega, fun h => absurd h d, fun _ => rfl⟩
theorem reach2_no (y b c : Int) (y0 : 0 ≤ y) (y1 : y < 36864) (b0 : 0 ≤ b) (b1 : b < 8) (c0 : 0 ≤ c) (c1 : c < 36) (h : ¬ (y / 1024 = 2 ∨ y / 1024 = 3 ∨ y / 1024 = c)) : mOpE 2 y b c = 3 :=
  (mOpE_none 2 y b c (.inr rfl) (by unfold mOp; rw [if_neg (by omega), if_neg (by omega), if_neg (by omega)])).symm
theorem kmem : mBankV 27 7 = 35 ∧ mBankE 27 7 = 0 ∧ mBankV 28 4 = 0 ∧ mBankE 28 4 = 3 := by decide
theorem klead : mLead 768 5 9 1 1280 = true ∧ mLead 1024 5 9 2 9216 = true ∧ mLead 767 5 9 1 767 = true ∧ mLead 2048 5 9 2 2048 = true ∧ mAbsE 4096 0 0 = 3 ∧ mAbsS 4096 0 0 = 0 ∧ mAbsA 4096 0 0 = 0 := by decide
theorem koper : mOpV 2 9217 5 9 = 1025 ∧ mOpE 2 9217 5 9 = 0 ∧ mOpV 1 1281 4 9 = 0 ∧ mOpE 1 1281 4 9 = 3 ∧ mOpV 1 300 5 9 = 300 ∧ mOpE 1 300 5 9 = 0 ∧ mOpV 1 1281 5 9 = 769 ∧ mOpE 1 1281 5 9 = 0 ∧ mOpV 2 3000 5 2 = 3000 ∧ mOpE 2 3000 5 2 = 0 ∧ mOpV 0 1 0 0 = 0 ∧ mOpE 0 1 0 0 = 2 ∧ mOpV 3 1 0 0 = 0 ∧ mOpE 3 1 0 0 = 2 := by decide
end Go.Proofs.YtjjkikghfmnikaaGreatDoor

/- Contracts of layer 3: the program's functions on addresses. -/
set_option linter.unusedSimpArgs false
set_option linter.unusedVariables false
namespace Go.Proofs.YtjjkikghfmnikaaGreatDoor
open Go.ChangeShapes Go.WideShapes Go.ChangeAt Go.RowKit
theorem mwithin_yes (n m : Int) (h : 0 ≤ n ∧ n < m) (w : World) : Calls Tryz.prog 139 #[.int .i64 n, .int .i64 m] w fun e w' => e = .returned (.bool true) ∧ w = w' := by
  obtain ⟨h0, h1⟩ := h
  go_enter Tryz.func139, Tryz.ntmps139
  go_wp2
  go_ret
  exact ⟨rfl, rfl⟩
theorem mwithin_no (n m : Int) (h : ¬ (0 ≤ n ∧ n < m)) (w : World) : Calls Tryz.prog 139 #[.int .i64 n, .int .i64 m] w fun e w' => e = .returned (.bool false) ∧ w = w' := by
  by_cases h0 : 0 ≤ n
  · have h1 : ¬ n < m := fun c => h ⟨h0, c⟩
    clear h
    go_enter Tryz.func139, Tryz.ntmps139
    go_wp2
    go_ret
    exact ⟨rfl, rfl⟩
  · clear h
    go_enter Tryz.func139, Tryz.ntmps139
    go_wp2
    go_ret
    exact ⟨rfl, rfl⟩
theorem selectable_yes (eb fb : Int) (h : 0 ≤ eb ∧ eb ≤ 7 ∧ 0 ≤ fb ∧ fb ≤ 35) (w : World) : Calls Tryz.prog 140 #[.int .i64 eb, .int .i64 fb] w fun e w' => e = .returned (.bool true) ∧ w = w' := by
  go_enter Tryz.func140, Tryz.ntmps140
  go_wp2_with (first | (go_at_call 139; refine (mwithin_yes _ _ (by omega) _).mono ?_; rintro e w1 ⟨rfl, rfl⟩))
  go_ret
  exact ⟨rfl, rfl⟩
theorem selectable_no (eb fb : Int) (h : ¬ (0 ≤ eb ∧ eb ≤ 7 ∧ 0 ≤ fb ∧ fb ≤ 35)) (w : World) : Calls Tryz.prog 140 #[.int .i64 eb, .int .i64 fb] w fun e w' => e = .returned (.bool false) ∧ w = w' := by
  by_cases h0 : 0 ≤ eb ∧ eb ≤ 7
  · go_enter Tryz.func140, Tryz.ntmps140
    go_wp2_with (first | (go_at_call 139; refine (mwithin_yes _ _ (by omega) _).mono ?_; rintro e w1 ⟨rfl, rfl⟩) | (go_at_call 139; refine (mwithin_no _ _ (by omega) _).mono ?_; rintro e w1 ⟨rfl, rfl⟩))
    go_ret
    exact ⟨rfl, rfl⟩
  · go_enter Tryz.func140, Tryz.ntmps140
    go_wp2_with (first | (go_at_call 139; refine (mwithin_no _ _ (by omega) _).mono ?_; rintro e w1 ⟨rfl, rfl⟩))
    go_ret
    exact ⟨rfl, rfl⟩
set_option maxHeartbeats 2000000 in
theorem Bank_any (fb su : Int) (f0 : -9223372036854775808 ≤ fb) (f1 : fb ≤ 9223372036854775807) (s0 : -9223372036854775808 ≤ su) (s1 : su ≤ 9223372036854775807) (w : World) :
    Calls Tryz.prog 72 #[.int .i64 fb, .int .i64 su] w fun e w' => e = .returned (.tuple #[.int .i64 (mBankV fb su), .int .i64 (mBankE fb su)]) ∧ w = w' := by
  by_cases hc0 : 0 ≤ fb
  · by_cases hc1 : fb ≤ 31
    · by_cases hc2 : 0 ≤ su
      · by_cases hc3 : su ≤ 7
        · by_cases hc4 : 24 ≤ fb
          · by_cases hc5 : 4 ≤ su
            · by_cases hc6 : fb ≤ 27
              · go_enter Tryz.func72, Tryz.ntmps72
                go_wp2_with (first | (go_at_call 139; refine (mwithin_yes _ _ (by omega) _).mono ?_; rintro e w1 ⟨rfl, rfl⟩) | (go_at_call 139; refine (mwithin_no _ _ (by omega) _).mono ?_; rintro e w1 ⟨rfl, rfl⟩))
                go_ret2
                exact ⟨ret_tup2 (by unfold mBankV; repeat (first | rfl | omega | rw [if_pos (by omega)] | rw [if_neg (by omega)])) (by unfold mBankE; repeat (first | rfl | omega | rw [if_pos (by omega)] | rw [if_neg (by omega)])), rfl⟩
              · go_enter Tryz.func72, Tryz.ntmps72
                go_wp2_with (first | (go_at_call 139; refine (mwithin_yes _ _ (by omega) _).mono ?_; rintro e w1 ⟨rfl, rfl⟩) | (go_at_call 139; refine (mwithin_no _ _ (by omega) _).mono ?_; rintro e w1 ⟨rfl, rfl⟩))
                go_ret2
                exact ⟨ret_tup2 (by unfold mBankV; repeat (first | rfl | omega | rw [if_pos (by omega)] | rw [if_neg (by omega)])) (by unfold mBankE; repeat (first | rfl | omega | rw [if_pos (by omega)] | rw [if_neg (by omega)])), rfl⟩
            · go_enter Tryz.func72, Tryz.ntmps72
              go_wp2_with (first | (go_at_call 139; refine (mwithin_yes _ _ (by omega) _).mono ?_; rintro e w1 ⟨rfl, rfl⟩) | (go_at_call 139; refine (mwithin_no _ _ (by omega) _).mono ?_; rintro e w1 ⟨rfl, rfl⟩))
              go_ret2
              exact ⟨ret_tup2 (by unfold mBankV; repeat (first | rfl | omega | rw [if_pos (by omega)] | rw [if_neg (by omega)])) (by unfold mBankE; repeat (first | rfl | omega | rw [if_pos (by omega)] | rw [if_neg (by omega)])), rfl⟩
          · go_enter Tryz.func72, Tryz.ntmps72
            go_wp2_with (first | (go_at_call 139; refine (mwithin_yes _ _ (by omega) _).mono ?_; rintro e w1 ⟨rfl, rfl⟩) | (go_at_call 139; refine (mwithin_no _ _ (by omega) _).mono ?_; rintro e w1 ⟨rfl, rfl⟩))
            go_ret2
            exact ⟨ret_tup2 (by unfold mBankV; repeat (first | rfl | omega | rw [if_pos (by omega)] | rw [if_neg (by omega)])) (by unfold mBankE; repeat (first | rfl | omega | rw [if_pos (by omega)] | rw [if_neg (by omega)])), rfl⟩
        · go_enter Tryz.func72, Tryz.ntmps72
          go_wp2_with (first | (go_at_call 139; refine (mwithin_yes _ _ (by omega) _).mono ?_; rintro e w1 ⟨rfl, rfl⟩) | (go_at_call 139; refine (mwithin_no _ _ (by omega) _).mono ?_; rintro e w1 ⟨rfl, rfl⟩))
          go_ret2
          exact ⟨ret_tup2 (by unfold mBankV; repeat (first | rfl | omega | rw [if_pos (by omega)] | rw [if_neg (by omega)])) (by unfold mBankE; repeat (first | rfl | omega | rw [if_pos (by omega)] | rw [if_neg (by omega)])), rfl⟩
      · go_enter Tryz.func72, Tryz.ntmps72
        go_wp2_with (first | (go_at_call 139; refine (mwithin_yes _ _ (by omega) _).mono ?_; rintro e w1 ⟨rfl, rfl⟩) | (go_at_call 139; refine (mwithin_no _ _ (by omega) _).mono ?_; rintro e w1 ⟨rfl, rfl⟩))
        go_ret2
        exact ⟨ret_tup2 (by unfold mBankV; repeat (first | rfl | omega | rw [if_pos (by omega)] | rw [if_neg (by omega)])) (by unfold mBankE; repeat (first | rfl | omega | rw [if_pos (by omega)] | rw [if_neg (by omega)])), rfl⟩
    · go_enter Tryz.func72, Tryz.ntmps72
      go_wp2_with (first | (go_at_call 139; refine (mwithin_yes _ _ (by omega) _).mono ?_; rintro e w1 ⟨rfl, rfl⟩) | (go_at_call 139; refine (mwithin_no _ _ (by omega) _).mono ?_; rintro e w1 ⟨rfl, rfl⟩))
      go_ret2
      exact ⟨ret_tup2 (by unfold mBankV; repeat (first | rfl | omega | rw [if_pos (by omega)] | rw [if_neg (by omega)])) (by unfold mBankE; repeat (first | rfl | omega | rw [if_pos (by omega)] | rw [if_neg (by omega)])), rfl⟩
  · go_enter Tryz.func72, Tryz.ntmps72
    go_wp2_with (first | (go_at_call 139; refine (mwithin_yes _ _ (by omega) _).mono ?_; rintro e w1 ⟨rfl, rfl⟩) | (go_at_call 139; refine (mwithin_no _ _ (by omega) _).mono ?_; rintro e w1 ⟨rfl, rfl⟩))
    go_ret2
    exact ⟨ret_tup2 (by unfold mBankV; repeat (first | rfl | omega | rw [if_pos (by omega)] | rw [if_neg (by omega)])) (by unfold mBankE; repeat (first | rfl | omega | rw [if_pos (by omega)] | rw [if_neg (by omega)])), rfl⟩
set_option maxHeartbeats 2000000 in
theorem Absolute_any (k eb fb : Int) (k0 : -9223372036854775808 ≤ k) (k1 : k ≤ 9223372036854775807) (e0 : -9223372036854775808 ≤ eb) (e1 : eb ≤ 9223372036854775807) (f0 : -9223372036854775808 ≤ fb) (f1 : fb ≤ 9223372036854775807) (w : World) :
    Calls Tryz.prog 73 #[.int .i64 k, .int .i64 eb, .int .i64 fb] w fun e w' => e = .returned (.tuple #[.int .u8 (mAbsS k eb fb), .int .i64 (mAbsA k eb fb), .int .i64 (mAbsE k eb fb)]) ∧ w = w' := by
  by_cases hc0 : 0 ≤ k
  · by_cases hc1 : k ≤ 4095
    · by_cases hc2 : 0 ≤ eb
      · by_cases hc3 : eb ≤ 7
        · by_cases hc4 : 0 ≤ fb
          · by_cases hc5 : fb ≤ 35
            · by_cases hc6 : k ≤ 767
              · go_enter Tryz.func73, Tryz.ntmps73
                go_wp2_with (first | (go_at_call 139; refine (mwithin_yes _ _ (by omega) _).mono ?_; rintro e w1 ⟨rfl, rfl⟩) | (go_at_call 139; refine (mwithin_no _ _ (by omega) _).mono ?_; rintro e w1 ⟨rfl, rfl⟩) | (go_at_call 140; refine (selectable_yes _ _ (by omega) _).mono ?_; rintro e w1 ⟨rfl, rfl⟩) | (go_at_call 140; refine (selectable_no _ _ (by omega) _).mono ?_; rintro e w1 ⟨rfl, rfl⟩))
                go_ret3
                exact ⟨ret_tup3 (by unfold mAbsS; repeat (first | rfl | omega | rw [if_pos (by unfold mAbsOk; omega)] | rw [if_neg (by unfold mAbsOk; omega)] | rw [if_pos (by omega)] | rw [if_neg (by omega)])) (by unfold mAbsA; repeat (first | rfl | omega | rw [if_pos (by unfold mAbsOk; omega)] | rw [if_neg (by unfold mAbsOk; omega)] | rw [if_pos (by omega)] | rw [if_neg (by omega)])) (by unfold mAbsE; repeat (first | rfl | omega | rw [if_pos (by unfold mAbsOk; omega)] | rw [if_neg (by unfold mAbsOk; omega)])), rfl⟩
              · by_cases hc7 : k ≤ 1023
                · go_enter Tryz.func73, Tryz.ntmps73
                  go_wp2_with (first | (go_at_call 139; refine (mwithin_yes _ _ (by omega) _).mono ?_; rintro e w1 ⟨rfl, rfl⟩) | (go_at_call 139; refine (mwithin_no _ _ (by omega) _).mono ?_; rintro e w1 ⟨rfl, rfl⟩) | (go_at_call 140; refine (selectable_yes _ _ (by omega) _).mono ?_; rintro e w1 ⟨rfl, rfl⟩) | (go_at_call 140; refine (selectable_no _ _ (by omega) _).mono ?_; rintro e w1 ⟨rfl, rfl⟩))
                  go_ret3
                  exact ⟨ret_tup3 (by unfold mAbsS; repeat (first | rfl | omega | rw [if_pos (by unfold mAbsOk; omega)] | rw [if_neg (by unfold mAbsOk; omega)] | rw [if_pos (by omega)] | rw [if_neg (by omega)])) (by unfold mAbsA; repeat (first | rfl | omega | rw [if_pos (by unfold mAbsOk; omega)] | rw [if_neg (by unfold mAbsOk; omega)] | rw [if_pos (by omega)] | rw [if_neg (by omega)])) (by unfold mAbsE; repeat (first | rfl | omega | rw [if_pos (by unfold mAbsOk; omega)] | rw [if_neg (by unfold mAbsOk; omega)])), rfl⟩
                · by_cases hc8 : k ≤ 2047
                  · go_enter Tryz.func73, Tryz.ntmps73
                    go_wp2_with (first | (go_at_call 139; refine (mwithin_yes _ _ (by omega) _).mono ?_; rintro e w1 ⟨rfl, rfl⟩) | (go_at_call 139; refine (mwithin_no _ _ (by omega) _).mono ?_; rintro e w1 ⟨rfl, rfl⟩) | (go_at_call 140; refine (selectable_yes _ _ (by omega) _).mono ?_; rintro e w1 ⟨rfl, rfl⟩) | (go_at_call 140; refine (selectable_no _ _ (by omega) _).mono ?_; rintro e w1 ⟨rfl, rfl⟩))
                    go_ret3
                    exact ⟨ret_tup3 (by unfold mAbsS; repeat (first | rfl | omega | rw [if_pos (by unfold mAbsOk; omega)] | rw [if_neg (by unfold mAbsOk; omega)] | rw [if_pos (by omega)] | rw [if_neg (by omega)])) (by unfold mAbsA; repeat (first | rfl | omega | rw [if_pos (by unfold mAbsOk; omega)] | rw [if_neg (by unfold mAbsOk; omega)] | rw [if_pos (by omega)] | rw [if_neg (by omega)])) (by unfold mAbsE; repeat (first | rfl | omega | rw [if_pos (by unfold mAbsOk; omega)] | rw [if_neg (by unfold mAbsOk; omega)])), rfl⟩
                  · go_enter Tryz.func73, Tryz.ntmps73
                    go_wp2_with (first | (go_at_call 139; refine (mwithin_yes _ _ (by omega) _).mono ?_; rintro e w1 ⟨rfl, rfl⟩) | (go_at_call 139; refine (mwithin_no _ _ (by omega) _).mono ?_; rintro e w1 ⟨rfl, rfl⟩) | (go_at_call 140; refine (selectable_yes _ _ (by omega) _).mono ?_; rintro e w1 ⟨rfl, rfl⟩) | (go_at_call 140; refine (selectable_no _ _ (by omega) _).mono ?_; rintro e w1 ⟨rfl, rfl⟩))
                    go_ret3
                    exact ⟨ret_tup3 (by unfold mAbsS; repeat (first | rfl | omega | rw [if_pos (by unfold mAbsOk; omega)] | rw [if_neg (by unfold mAbsOk; omega)] | rw [if_pos (by omega)] | rw [if_neg (by omega)])) (by unfold mAbsA; repeat (first | rfl | omega | rw [if_pos (by unfold mAbsOk; omega)] | rw [if_neg (by unfold mAbsOk; omega)] | rw [if_pos (by omega)] | rw [if_neg (by omega)])) (by unfold mAbsE; repeat (first | rfl | omega | rw [if_pos (by unfold mAbsOk; omega)] | rw [if_neg (by unfold mAbsOk; omega)])), rfl⟩
            · go_enter Tryz.func73, Tryz.ntmps73
              go_wp2_with (first | (go_at_call 139; refine (mwithin_yes _ _ (by omega) _).mono ?_; rintro e w1 ⟨rfl, rfl⟩) | (go_at_call 139; refine (mwithin_no _ _ (by omega) _).mono ?_; rintro e w1 ⟨rfl, rfl⟩) | (go_at_call 140; refine (selectable_yes _ _ (by omega) _).mono ?_; rintro e w1 ⟨rfl, rfl⟩) | (go_at_call 140; refine (selectable_no _ _ (by omega) _).mono ?_; rintro e w1 ⟨rfl, rfl⟩))
              go_ret3
              exact ⟨ret_tup3 (by unfold mAbsS; repeat (first | rfl | omega | rw [if_pos (by unfold mAbsOk; omega)] | rw [if_neg (by unfold mAbsOk; omega)] | rw [if_pos (by omega)] | rw [if_neg (by omega)])) (by unfold mAbsA; repeat (first | rfl | omega | rw [if_pos (by unfold mAbsOk; omega)] | rw [if_neg (by unfold mAbsOk; omega)] | rw [if_pos (by omega)] | rw [if_neg (by omega)])) (by unfold mAbsE; repeat (first | rfl | omega | rw [if_pos (by unfold mAbsOk; omega)] | rw [if_neg (by unfold mAbsOk; omega)])), rfl⟩
          · go_enter Tryz.func73, Tryz.ntmps73
            go_wp2_with (first | (go_at_call 139; refine (mwithin_yes _ _ (by omega) _).mono ?_; rintro e w1 ⟨rfl, rfl⟩) | (go_at_call 139; refine (mwithin_no _ _ (by omega) _).mono ?_; rintro e w1 ⟨rfl, rfl⟩) | (go_at_call 140; refine (selectable_yes _ _ (by omega) _).mono ?_; rintro e w1 ⟨rfl, rfl⟩) | (go_at_call 140; refine (selectable_no _ _ (by omega) _).mono ?_; rintro e w1 ⟨rfl, rfl⟩))
            go_ret3
            exact ⟨ret_tup3 (by unfold mAbsS; repeat (first | rfl | omega | rw [if_pos (by unfold mAbsOk; omega)] | rw [if_neg (by unfold mAbsOk; omega)] | rw [if_pos (by omega)] | rw [if_neg (by omega)])) (by unfold mAbsA; repeat (first | rfl | omega | rw [if_pos (by unfold mAbsOk; omega)] | rw [if_neg (by unfold mAbsOk; omega)] | rw [if_pos (by omega)] | rw [if_neg (by omega)])) (by unfold mAbsE; repeat (first | rfl | omega | rw [if_pos (by unfold mAbsOk; omega)] | rw [if_neg (by unfold mAbsOk; omega)])), rfl⟩
        · go_enter Tryz.func73, Tryz.ntmps73
          go_wp2_with (first | (go_at_call 139; refine (mwithin_yes _ _ (by omega) _).mono ?_; rintro e w1 ⟨rfl, rfl⟩) | (go_at_call 139; refine (mwithin_no _ _ (by omega) _).mono ?_; rintro e w1 ⟨rfl, rfl⟩) | (go_at_call 140; refine (selectable_yes _ _ (by omega) _).mono ?_; rintro e w1 ⟨rfl, rfl⟩) | (go_at_call 140; refine (selectable_no _ _ (by omega) _).mono ?_; rintro e w1 ⟨rfl, rfl⟩))
          go_ret3
          exact ⟨ret_tup3 (by unfold mAbsS; repeat (first | rfl | omega | rw [if_pos (by unfold mAbsOk; omega)] | rw [if_neg (by unfold mAbsOk; omega)] | rw [if_pos (by omega)] | rw [if_neg (by omega)])) (by unfold mAbsA; repeat (first | rfl | omega | rw [if_pos (by unfold mAbsOk; omega)] | rw [if_neg (by unfold mAbsOk; omega)] | rw [if_pos (by omega)] | rw [if_neg (by omega)])) (by unfold mAbsE; repeat (first | rfl | omega | rw [if_pos (by unfold mAbsOk; omega)] | rw [if_neg (by unfold mAbsOk; omega)])), rfl⟩
      · go_enter Tryz.func73, Tryz.ntmps73
        go_wp2_with (first | (go_at_call 139; refine (mwithin_yes _ _ (by omega) _).mono ?_; rintro e w1 ⟨rfl, rfl⟩) | (go_at_call 139; refine (mwithin_no _ _ (by omega) _).mono ?_; rintro e w1 ⟨rfl, rfl⟩) | (go_at_call 140; refine (selectable_yes _ _ (by omega) _).mono ?_; rintro e w1 ⟨rfl, rfl⟩) | (go_at_call 140; refine (selectable_no _ _ (by omega) _).mono ?_; rintro e w1 ⟨rfl, rfl⟩))
        go_ret3
        exact ⟨ret_tup3 (by unfold mAbsS; repeat (first | rfl | omega | rw [if_pos (by unfold mAbsOk; omega)] | rw [if_neg (by unfold mAbsOk; omega)] | rw [if_pos (by omega)] | rw [if_neg (by omega)])) (by unfold mAbsA; repeat (first | rfl | omega | rw [if_pos (by unfold mAbsOk; omega)] | rw [if_neg (by unfold mAbsOk; omega)] | rw [if_pos (by omega)] | rw [if_neg (by omega)])) (by unfold mAbsE; repeat (first | rfl | omega | rw [if_pos (by unfold mAbsOk; omega)] | rw [if_neg (by unfold mAbsOk; omega)])), rfl⟩
    · go_enter Tryz.func73, Tryz.ntmps73
      go_wp2_with (first | (go_at_call 139; refine (mwithin_yes _ _ (by omega) _).mono ?_; rintro e w1 ⟨rfl, rfl⟩) | (go_at_call 139; refine (mwithin_no _ _ (by omega) _).mono ?_; rintro e w1 ⟨rfl, rfl⟩) | (go_at_call 140; refine (selectable_yes _ _ (by omega) _).mono ?_; rintro e w1 ⟨rfl, rfl⟩) | (go_at_call 140; refine (selectable_no _ _ (by omega) _).mono ?_; rintro e w1 ⟨rfl, rfl⟩))
      go_ret3
      exact ⟨ret_tup3 (by unfold mAbsS; repeat (first | rfl | omega | rw [if_pos (by unfold mAbsOk; omega)] | rw [if_neg (by unfold mAbsOk; omega)] | rw [if_pos (by omega)] | rw [if_neg (by omega)])) (by unfold mAbsA; repeat (first | rfl | omega | rw [if_pos (by unfold mAbsOk; omega)] | rw [if_neg (by unfold mAbsOk; omega)] | rw [if_pos (by omega)] | rw [if_neg (by omega)])) (by unfold mAbsE; repeat (first | rfl | omega | rw [if_pos (by unfold mAbsOk; omega)] | rw [if_neg (by unfold mAbsOk; omega)])), rfl⟩
  · go_enter Tryz.func73, Tryz.ntmps73
    go_wp2_with (first | (go_at_call 139; refine (mwithin_yes _ _ (by omega) _).mono ?_; rintro e w1 ⟨rfl, rfl⟩) | (go_at_call 139; refine (mwithin_no _ _ (by omega) _).mono ?_; rintro e w1 ⟨rfl, rfl⟩) | (go_at_call 140; refine (selectable_yes _ _ (by omega) _).mono ?_; rintro e w1 ⟨rfl, rfl⟩) | (go_at_call 140; refine (selectable_no _ _ (by omega) _).mono ?_; rintro e w1 ⟨rfl, rfl⟩))
    go_ret3
    exact ⟨ret_tup3 (by unfold mAbsS; repeat (first | rfl | omega | rw [if_pos (by unfold mAbsOk; omega)] | rw [if_neg (by unfold mAbsOk; omega)] | rw [if_pos (by omega)] | rw [if_neg (by omega)])) (by unfold mAbsA; repeat (first | rfl | omega | rw [if_pos (by unfold mAbsOk; omega)] | rw [if_neg (by unfold mAbsOk; omega)] | rw [if_pos (by omega)] | rw [if_neg (by omega)])) (by unfold mAbsE; repeat (first | rfl | omega | rw [if_pos (by unfold mAbsOk; omega)] | rw [if_neg (by unfold mAbsOk; omega)])), rfl⟩
end Go.Proofs.YtjjkikghfmnikaaGreatDoor

/- Contracts of layer 5: the program's small functions. -/
set_option linter.unusedSimpArgs false
set_option linter.unusedVariables false
namespace Go.Proofs.YtjjkikghfmnikaaGreatDoor
open Go.ChangeShapes Go.WideShapes Go.ChangeAt Go.RowKit
theorem isWord_yes (a : Int) (h : a ≤ 32767) (w : World) : Calls Tryz.prog 37 #[.int .u16 a] w fun e w' => e = .returned (.bool true) ∧ w = w' := by
  go_enter Tryz.func37, Tryz.ntmps37
  go_wp2
  go_ret
  exact ⟨ret_bool (by simp; try omega), rfl⟩
theorem isWord_no (a : Int) (h : ¬ a ≤ 32767) (w : World) : Calls Tryz.prog 37 #[.int .u16 a] w fun e w' => e = .returned (.bool false) ∧ w = w' := by
  go_enter Tryz.func37, Tryz.ntmps37
  go_wp2
  go_ret
  exact ⟨ret_bool (by simp; try omega), rfl⟩
theorem cwithin_yes (n m : Int) (h : 0 ≤ n ∧ n < m) (w : World) : Calls Tryz.prog 38 #[.int .i64 n, .int .i64 m] w fun e w' => e = .returned (.bool true) ∧ w = w' := by
  go_enter Tryz.func38, Tryz.ntmps38
  go_wp2
  go_ret
  exact ⟨ret_bool (by simp; try omega), rfl⟩
theorem cwithin_no (n m : Int) (h : ¬ (0 ≤ n ∧ n < m)) (w : World) : Calls Tryz.prog 38 #[.int .i64 n, .int .i64 m] w fun e w' => e = .returned (.bool false) ∧ w = w' := by
  by_cases c : 0 ≤ n
  · go_enter Tryz.func38, Tryz.ntmps38
    go_wp2
    go_ret
    exact ⟨ret_bool (by simp; try omega), rfl⟩
  · go_enter Tryz.func38, Tryz.ntmps38
    go_wp2
    go_ret
    exact ⟨ret_bool (by simp; try omega), rfl⟩
set_option maxHeartbeats 2000000 in
theorem May_any (r : Rg) (t : Bool) (ht : decide r.may = t) (w : World) :
    Calls Tryz.prog 11 #[.agg #[.int .u16 r.A, .int .u16 r.L, .int .u16 r.Q, .int .i64 r.Z, .int .i64 r.EB, .int .i64 r.FB, .int .i64 r.Su, .bool r.Ex, .int .u16 r.Ix, .bool r.Hd, .int .u16 r.B, .bool r.Ih, .bool r.Sv]] w fun e w' => e = .returned (.bool t) ∧ Below w.heap.size w w' := by
  have HT := Lib.hid ht
  clear ht
  by_cases hc0 : r.L ≤ 32767
  · by_cases hc1 : r.Q ≤ 32767
    · by_cases hc2 : r.Ix ≤ 32767
      · by_cases hc3 : r.B ≤ 32767
        · by_cases hc4 : 0 ≤ r.Z ∧ r.Z < 4096
          · by_cases hc5 : 0 ≤ r.EB ∧ r.EB < 8
            · by_cases hc6 : 0 ≤ r.FB ∧ r.FB < 32
              · by_cases hc7 : 0 ≤ r.Su ∧ r.Su < 8
                · go_enter Tryz.func11, Tryz.ntmps11
                  go_wp2_with (first
                    | (go_at_call 37; refine (isWord_yes _ (by omega) _).mono ?_; rintro e w1 ⟨rfl, rfl⟩)
                    | (go_at_call 37; refine (isWord_no _ (by omega) _).mono ?_; rintro e w1 ⟨rfl, rfl⟩)
                    | (go_at_call 38; refine (cwithin_yes _ _ (by omega) _).mono ?_; rintro e w1 ⟨rfl, rfl⟩)
                    | (go_at_call 38; refine (cwithin_no _ _ (by omega) _).mono ?_; rintro e w1 ⟨rfl, rfl⟩))
                  go_ret
                  refine ⟨ret_bool ?_, (Below.refl _ _).alloc (Nat.le_refl _) _⟩
                  rw [← HT.out]; symm
                  first
                    | (exact decide_eq_true (by unfold Rg.may; omega))
                    | (exact decide_eq_false (by unfold Rg.may; omega))
                · go_enter Tryz.func11, Tryz.ntmps11
                  go_wp2_with (first
                    | (go_at_call 37; refine (isWord_yes _ (by omega) _).mono ?_; rintro e w1 ⟨rfl, rfl⟩)
                    | (go_at_call 37; refine (isWord_no _ (by omega) _).mono ?_; rintro e w1 ⟨rfl, rfl⟩)
                    | (go_at_call 38; refine (cwithin_yes _ _ (by omega) _).mono ?_; rintro e w1 ⟨rfl, rfl⟩)
                    | (go_at_call 38; refine (cwithin_no _ _ (by omega) _).mono ?_; rintro e w1 ⟨rfl, rfl⟩))
                  go_ret
                  refine ⟨ret_bool ?_, (Below.refl _ _).alloc (Nat.le_refl _) _⟩
                  rw [← HT.out]; symm
                  first
                    | (exact decide_eq_true (by unfold Rg.may; omega))
                    | (exact decide_eq_false (by unfold Rg.may; omega))
              · go_enter Tryz.func11, Tryz.ntmps11
                go_wp2_with (first
                  | (go_at_call 37; refine (isWord_yes _ (by omega) _).mono ?_; rintro e w1 ⟨rfl, rfl⟩)
                  | (go_at_call 37; refine (isWord_no _ (by omega) _).mono ?_; rintro e w1 ⟨rfl, rfl⟩)
                  | (go_at_call 38; refine (cwithin_yes _ _ (by omega) _).mono ?_; rintro e w1 ⟨rfl, rfl⟩)
                  | (go_at_call 38; refine (cwithin_no _ _ (by omega) _).mono ?_; rintro e w1 ⟨rfl, rfl⟩))
                go_ret
                refine ⟨ret_bool ?_, (Below.refl _ _).alloc (Nat.le_refl _) _⟩
                rw [← HT.out]; symm
                first
                  | (exact decide_eq_true (by unfold Rg.may; omega))
                  | (exact decide_eq_false (by unfold Rg.may; omega))
            · go_enter Tryz.func11, Tryz.ntmps11
              go_wp2_with (first
                | (go_at_call 37; refine (isWord_yes _ (by omega) _).mono ?_; rintro e w1 ⟨rfl, rfl⟩)
                | (go_at_call 37; refine (isWord_no _ (by omega) _).mono ?_; rintro e w1 ⟨rfl, rfl⟩)
                | (go_at_call 38; refine (cwithin_yes _ _ (by omega) _).mono ?_; rintro e w1 ⟨rfl, rfl⟩)
                | (go_at_call 38; refine (cwithin_no _ _ (by omega) _).mono ?_; rintro e w1 ⟨rfl, rfl⟩))
              go_ret
              refine ⟨ret_bool ?_, (Below.refl _ _).alloc (Nat.le_refl _) _⟩
              rw [← HT.out]; symm
              first
                | (exact decide_eq_true (by unfold Rg.may; omega))
                | (exact decide_eq_false (by unfold Rg.may; omega))
          · go_enter Tryz.func11, Tryz.ntmps11
            go_wp2_with (first
              | (go_at_call 37; refine (isWord_yes _ (by omega) _).mono ?_; rintro e w1 ⟨rfl, rfl⟩)
              | (go_at_call 37; refine (isWord_no _ (by omega) _).mono ?_; rintro e w1 ⟨rfl, rfl⟩)
              | (go_at_call 38; refine (cwithin_yes _ _ (by omega) _).mono ?_; rintro e w1 ⟨rfl, rfl⟩)
              | (go_at_call 38; refine (cwithin_no _ _ (by omega) _).mono ?_; rintro e w1 ⟨rfl, rfl⟩))
            go_ret
            refine ⟨ret_bool ?_, (Below.refl _ _).alloc (Nat.le_refl _) _⟩
            rw [← HT.out]; symm
            first
              | (exact decide_eq_true (by unfold Rg.may; omega))
              | (exact decide_eq_false (by unfold Rg.may; omega))
        · go_enter Tryz.func11, Tryz.ntmps11
          go_wp2_with (first
            | (go_at_call 37; refine (isWord_yes _ (by omega) _).mono ?_; rintro e w1 ⟨rfl, rfl⟩)
            | (go_at_call 37; refine (isWord_no _ (by omega) _).mono ?_; rintro e w1 ⟨rfl, rfl⟩)
            | (go_at_call 38; refine (cwithin_yes _ _ (by omega) _).mono ?_; rintro e w1 ⟨rfl, rfl⟩)
            | (go_at_call 38; refine (cwithin_no _ _ (by omega) _).mono ?_; rintro e w1 ⟨rfl, rfl⟩))
          go_ret
          refine ⟨ret_bool ?_, (Below.refl _ _).alloc (Nat.le_refl _) _⟩
          rw [← HT.out]; symm
          first
            | (exact decide_eq_true (by unfold Rg.may; omega))
            | (exact decide_eq_false (by unfold Rg.may; omega))
      · go_enter Tryz.func11, Tryz.ntmps11
        go_wp2_with (first
          | (go_at_call 37; refine (isWord_yes _ (by omega) _).mono ?_; rintro e w1 ⟨rfl, rfl⟩)
          | (go_at_call 37; refine (isWord_no _ (by omega) _).mono ?_; rintro e w1 ⟨rfl, rfl⟩)
          | (go_at_call 38; refine (cwithin_yes _ _ (by omega) _).mono ?_; rintro e w1 ⟨rfl, rfl⟩)
          | (go_at_call 38; refine (cwithin_no _ _ (by omega) _).mono ?_; rintro e w1 ⟨rfl, rfl⟩))
        go_ret
        refine ⟨ret_bool ?_, (Below.refl _ _).alloc (Nat.le_refl _) _⟩
        rw [← HT.out]; symm
        first
          | (exact decide_eq_true (by unfold Rg.may; omega))
          | (exact decide_eq_false (by unfold Rg.may; omega))
    · go_enter Tryz.func11, Tryz.ntmps11
      go_wp2_with (first
        | (go_at_call 37; refine (isWord_yes _ (by omega) _).mono ?_; rintro e w1 ⟨rfl, rfl⟩)
        | (go_at_call 37; refine (isWord_no _ (by omega) _).mono ?_; rintro e w1 ⟨rfl, rfl⟩)
        | (go_at_call 38; refine (cwithin_yes _ _ (by omega) _).mono ?_; rintro e w1 ⟨rfl, rfl⟩)
        | (go_at_call 38; refine (cwithin_no _ _ (by omega) _).mono ?_; rintro e w1 ⟨rfl, rfl⟩))
      go_ret
      refine ⟨ret_bool ?_, (Below.refl _ _).alloc (Nat.le_refl _) _⟩
      rw [← HT.out]; symm
      first
        | (exact decide_eq_true (by unfold Rg.may; omega))
        | (exact decide_eq_false (by unfold Rg.may; omega))
  · go_enter Tryz.func11, Tryz.ntmps11
    go_wp2_with (first
      | (go_at_call 37; refine (isWord_yes _ (by omega) _).mono ?_; rintro e w1 ⟨rfl, rfl⟩)
      | (go_at_call 37; refine (isWord_no _ (by omega) _).mono ?_; rintro e w1 ⟨rfl, rfl⟩)
      | (go_at_call 38; refine (cwithin_yes _ _ (by omega) _).mono ?_; rintro e w1 ⟨rfl, rfl⟩)
      | (go_at_call 38; refine (cwithin_no _ _ (by omega) _).mono ?_; rintro e w1 ⟨rfl, rfl⟩))
    go_ret
    refine ⟨ret_bool ?_, (Below.refl _ _).alloc (Nat.le_refl _) _⟩
    rw [← HT.out]; symm
    first
      | (exact decide_eq_true (by unfold Rg.may; omega))
      | (exact decide_eq_false (by unfold Rg.may; omega))
set_option maxHeartbeats 1000000 in
theorem after_any (s a x : Int) (hx : nxt s a = x) (hs : s = 1 ∨ s = 2) (a0 : 0 ≤ a) (a1 : a ≤ if s = 2 then 36863 else 2047) (w : World) :
    Calls Tryz.prog 184 #[.agg #[.int .u8 s, .int .i64 a]] w fun e w' => e = .returned (.agg #[.int .u8 s, .int .i64 x]) ∧ Below w.heap.size w w' := by
  unfold nxt at hx
  rcases hs with rfl | rfl
  · simp only [show ¬ ((1 : Int) = 2) by decide, if_false] at hx a1
    have e1 : (a + 1).tmod 2048 = x := by rw [Int.tmod_eq_emod_of_nonneg (by omega), ← hx]; split <;> omega
    clear hx
    go_enter Tryz.func184, Tryz.ntmps184
    go_wp2
    go_region
    go_wp2
    exact ret_struct1 Tryz.results184 Tryz.underlying59 [.int .u8 1, .int .i64 x] (by kernel_rfl) (w.heap.size + 1) rfl (at_allocN (by simp) [.int .u8 1, .int .i64 x]) rfl ⟨rfl, (below2 _ _ _).drew⟩
  · simp only [if_true] at hx a1
    have e1 : (a + 1).tmod 36864 = x := by rw [Int.tmod_eq_emod_of_nonneg (by omega), ← hx]; split <;> omega
    clear hx
    go_enter Tryz.func184, Tryz.ntmps184
    go_wp2
    go_region
    go_wp2
    exact ret_struct1 Tryz.results184 Tryz.underlying59 [.int .u8 2, .int .i64 x] (by kernel_rfl) (w.heap.size + 1) rfl (at_allocN (by simp) [.int .u8 2, .int .i64 x]) rfl ⟨rfl, (below2 _ _ _).drew⟩
theorem wordAt_any (A : Option Addr) (n c : Nat) (z : Nat → Int) (a x : Int) (hx : wd n z a = x) (a0 : 0 ≤ a) (hn : n ≤ 140737488355328) (w : World) (hr : Row .u16 w A n z) (hz : ∀ i, i < n → 0 ≤ z i ∧ z i ≤ 65535) :
    Calls Tryz.prog 76 #[.slice A n c, .int .i64 a] w fun e w' => e = .returned (.int .u16 x) ∧ w = w' := by
  obtain ⟨i, rfl⟩ := Int.eq_ofNat_of_zero_le a0
  try simp only [Int.ofNat_eq_natCast] at *
  by_cases h : i < n
  · obtain ⟨p, rfl, hc⟩ := hr i h
    have hb := hz i h
    have e : bits .and .u16 (z i) 32767 = x := by rw [and15 _ (by omega) (by omega), ← hx]; unfold wd; rw [if_neg (by omega)]; simp
    clear hr hz hx
    go_enter Tryz.func76, Tryz.ntmps76
    go_wp2
    go_ret
    exact ⟨rfl, rfl⟩
  · have e : 0 = x := by rw [← hx]; unfold wd; rw [if_pos (by omega)]
    have HX := Lib.hid e
    clear hr hz hx e
    go_enter Tryz.func76, Tryz.ntmps76
    go_wp2
    go_ret
    exact ⟨ret_int HX.out, rfl⟩
theorem isRegister_any (s a : Int) (t : Bool) (ht : decide (s = 1 ∧ a < 8) = t) (w : World) : Calls Tryz.prog 74 #[.agg #[.int .u8 s, .int .i64 a]] w fun e w' => e = .returned (.bool t) ∧ Below w.heap.size w w' := by
  subst ht
  by_cases c : s = 1
  · subst c
    go_enter Tryz.func74, Tryz.ntmps74
    go_wp2
    go_ret
    exact ⟨ret_bool (show decide (a < 8) = _ by simp), (Below.refl _ _).alloc (Nat.le_refl _) _⟩
  · have t : (s == 1) = false := by rw [beq_eq_false_iff_ne]; exact c
    go_enter Tryz.func74, Tryz.ntmps74
    go_wp2
    go_ret
    exact ⟨ret_bool (show false = decide (s = 1 ∧ a < 8) by simp [c]), (Below.refl _ _).alloc (Nat.le_refl _) _⟩
set_option maxHeartbeats 2000000 in
theorem register_any (r : Rg) (hm : r.may) (hf : r.Fit) (v : Vw) (a x : Int) (hx : val r v 1 a = x) (a0 : 0 ≤ a) (a1 : a < 8) (w : World) :
    Calls Tryz.prog 75 #[.agg #[.int .u16 r.A, .int .u16 r.L, .int .u16 r.Q, .int .i64 r.Z, .int .i64 r.EB, .int .i64 r.FB, .int .i64 r.Su, .bool r.Ex, .int .u16 r.Ix, .bool r.Hd, .int .u16 r.B, .bool r.Ih, .bool r.Sv], .int .i64 a] w fun e w' => e = .returned (.int .u16 x) ∧ Below w.heap.size w w' := by
  obtain ⟨hL, hQ, _, _, hz0, hz1, e0, e1, f0, f1, s0, s1⟩ := hm
  have fL := hf.L
  have fQ := hf.Q
  have HX := Lib.hid hx
  have hb := (Below.refl w.heap.size w).alloc (Nat.le_refl _)
  have w1 : IntKind.u16.wrap r.L = r.L := IntWalk.u16_in _ (by omega)
  have w2 : IntKind.u16.wrap r.Q = r.Q := IntWalk.u16_in _ (by omega)
  have w3 : IntKind.u16.wrap (256 * r.EB) = 256 * r.EB := IntWalk.u16_in _ (by omega)
  have w4 : IntKind.u16.wrap (1024 * r.FB) = 1024 * r.FB := IntWalk.u16_in _ (by omega)
  have w5 : IntKind.u16.wrap r.Z = r.Z := IntWalk.u16_in _ (by omega)
  have w6 : IntKind.u16.wrap (1024 * r.FB + r.EB) = 1024 * r.FB + r.EB := IntWalk.u16_in _ (by omega)
  have ca : a = 0 ∨ a = 1 ∨ a = 2 ∨ a = 3 ∨ a = 4 ∨ a = 5 ∨ a = 6 ∨ a = 7 := by omega
  clear hx
  rcases ca with rfl | rfl | rfl | rfl | rfl | rfl | rfl | rfl
  all_goals
    go_enter Tryz.func75, Tryz.ntmps75
    go_wp2_with (go_at_call 26; refine (Extend_any _ (by omega) (by omega) _).mono ?_; rintro e w1 ⟨rfl, rfl⟩)
    go_ret
    exact ⟨ret_int HX.out, by first | exact hb _ | exact (Below.refl _ _).alloc (Nat.le_refl _) _⟩
set_option maxHeartbeats 1000000 in
theorem valueAt_any (r : Rg) (hm : r.may) (hf : r.Fit) (v : Vw) (ea : Option Addr) (ec : Nat) (fa : Option Addr) (fc : Nat) (ca : Option Addr) (cc : Nat) (s a x : Int) (hx : val r v s a = x) (hs : s = 1 ∨ s = 2) (a0 : 0 ≤ a) (w : World) (hv : VwAt w v ea fa ca) :
    Calls Tryz.prog 40 #[.agg #[.int .u16 r.A, .int .u16 r.L, .int .u16 r.Q, .int .i64 r.Z, .int .i64 r.EB, .int .i64 r.FB, .int .i64 r.Su, .bool r.Ex, .int .u16 r.Ix, .bool r.Hd, .int .u16 r.B, .bool r.Ih, .bool r.Sv], .agg #[.slice ea v.ne ec, .slice fa v.nf fc, .slice ca v.nc cc], .agg #[.int .u8 s, .int .i64 a]] w fun e w' => e = .returned (.int .u16 x) ∧ Below w.heap.size w w' := by
  have HM := Lib.hid hm
  have HF := Lib.hid hf
  have HV := Lib.hid hv
  have HX := Lib.hid hx
  have be := wd_bd v.ne v.ze a
  have bf := wd_bd v.nf v.zf a
  have X0 := Lib.hid (below3 w (.cells #[.int .u16 r.A, .int .u16 r.L, .int .u16 r.Q, .int .i64 r.Z, .int .i64 r.EB, .int .i64 r.FB, .int .i64 r.Su, .bool r.Ex, .int .u16 r.Ix, .bool r.Hd, .int .u16 r.B, .bool r.Ih, .bool r.Sv] 26) (.cells #[.slice ea v.ne ec, .slice fa v.nf fc, .slice ca v.nc cc] 29) (.cells #[.int .u8 s, .int .i64 a] 59))
  clear hm hf hv
  rcases hs with rfl | rfl
  · by_cases c : a < 8
    · have HD : Hid (decide ((1 : Int) = 1 ∧ a < 8) = true) := decide_eq_true ⟨rfl, c⟩
      clear hx
      go_enter Tryz.func40, Tryz.ntmps40
      go_wp2_with (first
        | (go_at_call 74; refine (isRegister_any 1 a true HD.out _).mono ?_; rintro e w1 ⟨rfl, hb⟩; (obtain ⟨hk1, hl1⟩ := bcell hb); (have X1 := Lib.hid (X0.out.trans (hb.mono X0.out.size))); clear hb)
        | (go_at_call 75; refine (register_any r HM.out HF.out v a x HX.out a0 c _).mono ?_; rintro e w2 ⟨rfl, hb⟩; (have X2 := Lib.hid (X1.out.trans (hb.mono X1.out.size))); clear hb))
      go_ret
      exact ⟨rfl, X2.out⟩
    · have HD : Hid (decide ((1 : Int) = 1 ∧ a < 8) = false) := decide_eq_false (fun h => c h.2)
      have e : oExt (wd v.ne v.ze a) = x := by rw [← hx]; unfold val; rw [if_neg (by decide), if_neg (by omega), if_neg (by omega), if_neg (by omega), if_neg (by omega), if_neg (by omega), if_neg (by omega), if_neg (by omega), if_neg (by omega)]
      have HE := Lib.hid e
      clear hx e
      go_enter Tryz.func40, Tryz.ntmps40
      go_wp2_with (first
        | (go_at_call 74; refine (isRegister_any 1 a false HD.out _).mono ?_; rintro e w1 ⟨rfl, hb⟩; (obtain ⟨hk1, hl1⟩ := bcell hb); (have X1 := Lib.hid (X0.out.trans (hb.mono X0.out.size))); clear hb)
        | (go_at_call 76; refine (wordAt_any ea v.ne ec v.ze a _ rfl a0 HV.out.le _ (HV.out.e.below X1.out (Nat.le_refl _)) HV.out.be).mono ?_; rintro e w1 ⟨rfl, rfl⟩)
        | (go_at_call 26; refine (Extend_any _ (by omega) (by omega) _).mono ?_; rintro e w1 ⟨rfl, rfl⟩))
      go_ret
      exact ⟨ret_int HE.out, X1.out⟩
  · have HD : Hid (decide ((2 : Int) = 1 ∧ a < 8) = false) := decide_eq_false (fun h => absurd h.1 (by decide))
    have e : oExt (wd v.nf v.zf a) = x := by rw [← hx]; unfold val; rw [if_pos rfl]
    have HE := Lib.hid e
    clear hx e
    go_enter Tryz.func40, Tryz.ntmps40
    go_wp2_with (first
      | (go_at_call 74; refine (isRegister_any 2 a false HD.out _).mono ?_; rintro e w1 ⟨rfl, hb⟩; (obtain ⟨hk1, hl1⟩ := bcell hb); (have X1 := Lib.hid (X0.out.trans (hb.mono X0.out.size))); clear hb)
      | (go_at_call 76; refine (wordAt_any fa v.nf fc v.zf a _ rfl a0 HV.out.lf _ (HV.out.f.below X1.out (Nat.le_refl _)) HV.out.bf).mono ?_; rintro e w1 ⟨rfl, rfl⟩)
      | (go_at_call 26; refine (Extend_any _ (by omega) (by omega) _).mono ?_; rintro e w1 ⟨rfl, rfl⟩))
    go_ret
    exact ⟨ret_int HE.out, X1.out⟩
end Go.Proofs.YtjjkikghfmnikaaGreatDoor

/- Blocks of the call's own that are read and written cell by cell. -/
set_option linter.unusedSimpArgs false
set_option linter.unusedVariables false
namespace Go.Proofs.YtjjkikghfmnikaaGreatDoor
open Go.ChangeShapes Go.WideShapes Go.ChangeAt Go.RowKit
/-- The block g holds the values l, and may be written. -/
def Blk (w : World) (g : Nat) (l : List Value) : Prop := ∀ j v, l[j]? = some v → w.cell? ⟨g, j, none⟩ = some v ∧ w.frozen? ⟨g, j, none⟩ = false
theorem Blk.cell {w : World} {g : Nat} {l : List Value} (h : Blk w g l) (j : Nat) (v : Value) (e : l[j]? = some v) : w.cell? ⟨g, j, none⟩ = some v := (h j v e).1
theorem Blk.free {w : World} {g : Nat} {l : List Value} (h : Blk w g l) (j : Nat) (v : Value) (e : l[j]? = some v) : w.frozen? ⟨g, j, none⟩ = false := (h j v e).2
theorem Blk.cells {w : World} {g : Nat} {l : List Value} (h : Blk w g l) : ∀ j v, l[j]? = some v → w.cell? ⟨g, j, none⟩ = some v := fun j v e => (h j v e).1
theorem Blk.below {w w' : World} {g B : Nat} {l : List Value} (h : Blk w g l) (hb : Below B w w') (hg : g < B) : Blk w' g l := fun j v e =>
  ⟨(hb.cell (p := ⟨g, j, none⟩) hg).trans (h j v e).1, (hb.frozen (p := ⟨g, j, none⟩) hg).trans (h j v e).2⟩
theorem Blk.drew {w : World} {g : Nat} {l : List Value} (h : Blk w g l) : Blk w.drew g l := h
theorem Blk.drewN {w : World} {g : Nat} {l : List Value} (h : Blk w g l) (n : Nat) : Blk (w.drewN n) g l := h
theorem Blk.new (w : World) (T : TypeId) (l : List Value) (g : Nat) (hg : w.heap.size = g) : Blk (w.alloc (.cells l.toArray T)) g l := by
  subst hg
  intro j v e
  refine ⟨?_, by simp [go_sem]⟩
  rw [World.cell?_alloc_at _ _ _ _ rfl, List.getElem?_toArray]
  exact e
theorem Blk.alloc {w : World} {g : Nat} {l : List Value} (h : Blk w g l) (hg : g < w.heap.size) (o : Obj) : Blk (w.alloc o) g l := h.below ((Below.refl _ _).alloc (Nat.le_refl _) o) hg
/-- A store into the block. -/
theorem Blk.set {w : World} {g : Nat} {l : List Value} (h : Blk w g l) (i : Nat) (hi : i < l.length) (y : Value) : Blk (w.setCell ⟨g, i, none⟩ y) g (l.set i y) := by
  intro j v e
  rw [List.getElem?_set] at e
  have h0 : (w.cell? ⟨g, i, none⟩).isSome = true := by rw [(h i l[i] (by simp [hi])).1]; rfl
  by_cases c : i = j
  · subst c
    simp [hi] at e
    subst e
    exact ⟨by simp [go_sem, h0], by simp [go_sem, (h i l[i] (by simp [hi])).2]⟩
  · rw [if_neg c] at e
    have := h j v e
    exact ⟨by simp [go_sem, this.1, Ne.symm c], by simp [go_sem, this.2]⟩
/-- A store into another block. -/
theorem Blk.other {w : World} {g g' : Nat} {l : List Value} (h : Blk w g l) (hne : g' ≠ g) (i : Nat) (y : Value) : Blk (w.setCell ⟨g', i, none⟩ y) g l := by
  intro j v e
  have := h j v e
  have hn : g ≠ g' := fun c => hne c.symm
  exact ⟨by simp [go_sem, this.1, hn], by simp [go_sem, this.2]⟩
end Go.Proofs.YtjjkikghfmnikaaGreatDoor
