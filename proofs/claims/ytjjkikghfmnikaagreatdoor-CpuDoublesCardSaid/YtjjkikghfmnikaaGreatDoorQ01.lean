/- Plain functions of layer 3: addresses and operands. -/
import Derived.Test.YtjjkikghfmnikaaGreatDoorQ00
import Derived.Test.YtjjkikghfmnikaaGreatDoorRows
import Derived.WalkKit
import Derived.ProofKit
import Derived.OpenShut
import Derived.Test.YtjjkikghfmnikaaGreatDoorChecked
set_option linter.unusedSimpArgs false
set_option linter.unusedVariables false
namespace Go.Proofs.YtjjkikghfmnikaaGreatDoor
open Go.RowKit
/-- What Bank returns: the number, and the error. -/
def mBankV (fb su : Int) : Int := if 0 ≤ fb ∧ fb ≤ 31 ∧ 0 ≤ su ∧ su ≤ 7 then (if 24 ≤ fb ∧ 4 ≤ su then (if fb ≤ 27 then fb + 8 else 0) else fb) else 0
def mBankE (fb su : Int) : Int := if 0 ≤ fb ∧ fb ≤ 31 ∧ 0 ≤ su ∧ su ≤ 7 then (if 24 ≤ fb ∧ 4 ≤ su then (if fb ≤ 27 then 0 else 3) else 0) else 3
/-- The arguments of Absolute are in their ranges. -/
def mAbsOk (k eb fb : Int) : Prop := 0 ≤ k ∧ k ≤ 4095 ∧ 0 ≤ eb ∧ eb ≤ 7 ∧ 0 ≤ fb ∧ fb ≤ 35
instance (k eb fb : Int) : Decidable (mAbsOk k eb fb) := by unfold mAbsOk; infer_instance
def mAbsS (k eb fb : Int) : Int := if mAbsOk k eb fb then (if k ≤ 1023 then 1 else 2) else 0
def mAbsA (k eb fb : Int) : Int := if mAbsOk k eb fb then (if k ≤ 767 then k else if k ≤ 1023 then 256 * eb + k - 768 else if k ≤ 2047 then 1024 * fb + k - 1024 else k) else 0
def mAbsE (k eb fb : Int) : Int := if mAbsOk k eb fb then 0 else 3
/-- The arguments of Operand are in their ranges, for a space that exists. -/
def mOpOk (s a eb fb : Int) : Prop := 0 ≤ eb ∧ eb ≤ 7 ∧ 0 ≤ fb ∧ fb ≤ 35 ∧ 0 ≤ a ∧ a ≤ (if s = 2 then 36863 else 2047)
instance (s a eb fb : Int) : Decidable (mOpOk s a eb fb) := by unfold mOpOk; infer_instance
/-- The operand, or -1 if there is none. -/
def mOp (s a eb fb : Int) : Int := if s = 1 then (if a ≤ 767 then a else if a / 256 = eb then 768 + a % 256 else -1) else (if 2048 ≤ a ∧ a ≤ 4095 then a else if a / 1024 = fb then 1024 + a % 1024 else -1)
def mOpV (s a eb fb : Int) : Int := if (s = 1 ∨ s = 2) ∧ mOpOk s a eb fb then (if mOp s a eb fb < 0 then 0 else mOp s a eb fb) else 0
def mOpE (s a eb fb : Int) : Int := if s = 1 ∨ s = 2 then (if mOpOk s a eb fb then (if mOp s a eb fb < 0 then 3 else 0) else 3) else 2
end Go.Proofs.YtjjkikghfmnikaaGreatDoor

/- Contracts of layer 1 (onescomp) and of its reference: what each function returns, as a function on integers. -/
set_option linter.unusedSimpArgs false
set_option linter.unusedVariables false
namespace Go.Proofs.YtjjkikghfmnikaaGreatDoor
open Go.ChangeShapes Go.WideShapes Go.ChangeAt Go.RowKit

/-! ### plain functions -/
def oVal (a : Int) : Int := if 16383 < a % 32768 then a % 32768 - 32767 else a % 32768
def oAdd (a b : Int) : Int := if 32767 < a % 32768 + b % 32768 then a % 32768 + b % 32768 - 32767 else a % 32768 + b % 32768
def oExt (a : Int) : Int := if 16383 < a % 32768 then a % 32768 + 32768 else a % 32768
def oAddA (a b : Int) : Int := if 65535 < a + b then a + b - 65535 else a + b
def oOver (a : Int) : Int := a / 16384 % 2 - a / 32768
def oCorr (a : Int) : Int := a / 32768 * 16384 + a % 16384
def oClass (a : Int) : Int := if a = 0 then 1 else if a = 65535 then 3 else if a ≤ 32767 then 0 else 2
def oDim (a : Int) : Int := if a = 0 ∨ a = 65535 then 0 else if a ≤ 32767 then a - 1 else 65534 - a
def oCyR (a : Int) : Int := a % 2 * 16384 + a % 32768 / 2
def oCyL (a : Int) : Int := a % 16384 * 2 + a / 16384 % 2
def oShR (a : Int) : Int := a % 32768 / 16384 * 16384 + a % 32768 / 2
def oOp (a : Int) : Int := a / 128 % 128
def oEdit (at_ a : Int) : Int := if at_ = 16 then oCyR a else if at_ = 17 then oShR a else if at_ = 18 then oCyL a else if at_ = 19 then oOp a else a % 32768
def oTwos (a b : Int) : Int := if 16384 < (a - b) % 32768 then (a - b) % 32768 - 1 else (a - b) % 32768
def oOfW (n : Int) : Int := if n < -16383 ∨ 16383 < n then 0 else if n < 0 then n + 32767 else n
def oOfE (n : Int) : Int := if n < -16383 ∨ 16383 < n then 3 else 0


set_option maxHeartbeats 400000 in
theorem low_any (a : Int) (ha0 : 0 ≤ a) (ha1 : a < 65536) (w : World) :
    Calls Tryz.prog 63 #[.int .u16 a] w fun e w' => e = .returned (.int .u16 (a % 32768)) ∧ w = w' := by
  have hb := and15 a ha0 ha1
  go_enter Tryz.func63, Tryz.ntmps63
  go_wp2
  all_goals go_ret
  all_goals exact ⟨ret_int (by first | rfl | omega), rfl⟩

set_option maxHeartbeats 400000 in
theorem rLow_any (a : Int) (ha0 : 0 ≤ a) (ha1 : a < 65536) (w : World) :
    Calls Tryz.prog 87 #[.int .u16 a] w fun e w' => e = .returned (.int .i64 (a % 32768)) ∧ w = w' := by
  go_enter Tryz.func87, Tryz.ntmps87
  go_wp2
  all_goals go_ret
  all_goals exact ⟨ret_int (by first | rfl | omega), rfl⟩

set_option maxHeartbeats 400000 in
theorem Value_any (a : Int) (ha0 : 0 ≤ a) (ha1 : a < 65536) (w : World) :
    Calls Tryz.prog 27 #[.int .u16 a] w fun e w' => e = .returned (.int .i64 (oVal a)) ∧ w = w' := by
  go_enter Tryz.func27, Tryz.ntmps27
  go_wp2_with (first | (go_at_call 63; refine (low_any _ (by omega) (by omega) _).mono ?_; rintro e w' ⟨rfl, rfl⟩))
  all_goals go_ret
  all_goals exact ⟨ret_int (by (try simp only [beq_iff_eq, beq_eq_false_iff_ne, ne_eq, IntKind.wrap_u16] at *); unfold oVal; first | rfl | omega | ((repeat (first | rw [if_pos (by omega)] | rw [if_neg (by omega)])); done) | ((repeat (first | rw [if_pos (by omega)] | rw [if_neg (by omega)])); omega)), rfl⟩

set_option maxHeartbeats 400000 in
theorem rValue_any (a : Int) (ha0 : 0 ≤ a) (ha1 : a < 65536) (w : World) :
    Calls Tryz.prog 177 #[.int .u16 a] w fun e w' => e = .returned (.int .i64 (oVal a)) ∧ w = w' := by
  go_enter Tryz.func177, Tryz.ntmps177
  go_wp2_with (first | (go_at_call 87; refine (rLow_any _ (by omega) (by omega) _).mono ?_; rintro e w' ⟨rfl, rfl⟩))
  all_goals go_ret
  all_goals exact ⟨ret_int (by (try simp only [beq_iff_eq, beq_eq_false_iff_ne, ne_eq, IntKind.wrap_u16] at *); unfold oVal; first | rfl | omega | ((repeat (first | rw [if_pos (by omega)] | rw [if_neg (by omega)])); done) | ((repeat (first | rw [if_pos (by omega)] | rw [if_neg (by omega)])); omega)), rfl⟩

set_option maxHeartbeats 400000 in
theorem Neg_any (a : Int) (ha0 : 0 ≤ a) (ha1 : a < 65536) (w : World) :
    Calls Tryz.prog 30 #[.int .u16 a] w fun e w' => e = .returned (.int .u16 (32767 - a % 32768)) ∧ w = w' := by
  go_enter Tryz.func30, Tryz.ntmps30
  go_wp2_with (first | (go_at_call 63; refine (low_any _ (by omega) (by omega) _).mono ?_; rintro e w' ⟨rfl, rfl⟩))
  all_goals go_ret
  all_goals exact ⟨ret_int (by first | rfl | omega), rfl⟩

set_option maxHeartbeats 400000 in
theorem rNeg_any (a : Int) (ha0 : 0 ≤ a) (ha1 : a < 65536) (w : World) :
    Calls Tryz.prog 126 #[.int .u16 a] w fun e w' => e = .returned (.int .u16 (32767 - a % 32768)) ∧ w = w' := by
  go_enter Tryz.func126, Tryz.ntmps126
  go_wp2_with (first | (go_at_call 87; refine (rLow_any _ (by omega) (by omega) _).mono ?_; rintro e w' ⟨rfl, rfl⟩))
  all_goals go_ret
  all_goals exact ⟨ret_int (by first | rfl | omega), rfl⟩

set_option maxHeartbeats 400000 in
theorem sumW_any (a : Int) (ha0 : 0 ≤ a) (ha1 : a < 32768) (b : Int) (hb0 : 0 ≤ b) (hb1 : b < 32768) (w : World) :
    Calls Tryz.prog 83 #[.int .u16 a, .int .u16 b, .int .u16 32767] w fun e w' => e = .returned (.int .u16 (if 32767 < a + b then a + b - 32767 else a + b)) ∧ w = w' := by
  go_enter Tryz.func83, Tryz.ntmps83
  go_wp2
  all_goals go_ret
  all_goals exact ⟨ret_int (by (try simp only [beq_iff_eq, beq_eq_false_iff_ne, ne_eq, IntKind.wrap_u16] at *); first | rfl | omega | ((repeat (first | rw [if_pos (by omega)] | rw [if_neg (by omega)])); done) | ((repeat (first | rw [if_pos (by omega)] | rw [if_neg (by omega)])); omega)), rfl⟩

set_option maxHeartbeats 400000 in
theorem sumA_any (a : Int) (ha0 : 0 ≤ a) (ha1 : a < 65536) (b : Int) (hb0 : 0 ≤ b) (hb1 : b < 65536) (w : World) :
    Calls Tryz.prog 183 #[.int .u16 a, .int .u16 b, .int .u16 65535] w fun e w' => e = .returned (.int .u16 (oAddA a b)) ∧ w = w' := by
  go_enter Tryz.func183, Tryz.ntmps183
  go_wp2
  all_goals go_ret
  all_goals exact ⟨ret_int (by (try simp only [beq_iff_eq, beq_eq_false_iff_ne, ne_eq, IntKind.wrap_u16] at *); unfold oAddA; first | rfl | omega | ((repeat (first | rw [if_pos (by omega)] | rw [if_neg (by omega)])); done) | ((repeat (first | rw [if_pos (by omega)] | rw [if_neg (by omega)])); omega)), rfl⟩

set_option maxHeartbeats 400000 in
theorem Add_any (a : Int) (ha0 : 0 ≤ a) (ha1 : a < 65536) (b : Int) (hb0 : 0 ≤ b) (hb1 : b < 65536) (w : World) :
    Calls Tryz.prog 46 #[.int .u16 a, .int .u16 b] w fun e w' => e = .returned (.int .u16 (oAdd a b)) ∧ w = w' := by
  go_enter Tryz.func46, Tryz.ntmps46
  go_wp2_with (first | (go_at_call 63; refine (low_any _ (by omega) (by omega) _).mono ?_; rintro e w' ⟨rfl, rfl⟩) | (go_at_call 83; refine (sumW_any _ (by omega) (by omega) _ (by omega) (by omega) _).mono ?_; rintro e w' ⟨rfl, rfl⟩))
  all_goals go_ret
  all_goals exact ⟨ret_int (by (try simp only [beq_iff_eq, beq_eq_false_iff_ne, ne_eq, IntKind.wrap_u16] at *); unfold oAdd; first | rfl | omega | ((repeat (first | rw [if_pos (by omega)] | rw [if_neg (by omega)])); done) | ((repeat (first | rw [if_pos (by omega)] | rw [if_neg (by omega)])); omega)), rfl⟩

set_option maxHeartbeats 400000 in
theorem rAdd_any (a : Int) (ha0 : 0 ≤ a) (ha1 : a < 65536) (b : Int) (hb0 : 0 ≤ b) (hb1 : b < 65536) (w : World) :
    Calls Tryz.prog 49 #[.int .u16 a, .int .u16 b] w fun e w' => e = .returned (.int .u16 (oAdd a b)) ∧ w = w' := by
  go_enter Tryz.func49, Tryz.ntmps49
  go_wp2_with (first | (go_at_call 87; refine (rLow_any _ (by omega) (by omega) _).mono ?_; rintro e w' ⟨rfl, rfl⟩))
  all_goals go_ret
  all_goals exact ⟨ret_int (by (try simp only [beq_iff_eq, beq_eq_false_iff_ne, ne_eq, IntKind.wrap_u16] at *); unfold oAdd; first | rfl | omega | ((repeat (first | rw [if_pos (by omega)] | rw [if_neg (by omega)])); done) | ((repeat (first | rw [if_pos (by omega)] | rw [if_neg (by omega)])); omega)), rfl⟩

set_option maxHeartbeats 400000 in
theorem Extend_any (a : Int) (ha0 : 0 ≤ a) (ha1 : a < 65536) (w : World) :
    Calls Tryz.prog 26 #[.int .u16 a] w fun e w' => e = .returned (.int .u16 (oExt a)) ∧ w = w' := by
  have hb := andBit14 a ha0 ha1
  have hc := or_join' 15 (a / 16384 % 2 * 16384 * 2) (a % 32768) (by omega) (by omega) (by omega) (by omega) (by omega) (by omega)
  go_enter Tryz.func26, Tryz.ntmps26
  go_wp2_with (first | (go_at_call 63; refine (low_any _ (by omega) (by omega) _).mono ?_; rintro e w' ⟨rfl, rfl⟩))
  all_goals go_ret
  all_goals exact ⟨ret_int (by (try simp only [beq_iff_eq, beq_eq_false_iff_ne, ne_eq, IntKind.wrap_u16] at *); unfold oExt; first | rfl | omega | ((repeat (first | rw [if_pos (by omega)] | rw [if_neg (by omega)])); done) | ((repeat (first | rw [if_pos (by omega)] | rw [if_neg (by omega)])); omega)), rfl⟩

set_option maxHeartbeats 400000 in
theorem rExtend_any (a : Int) (ha0 : 0 ≤ a) (ha1 : a < 65536) (w : World) :
    Calls Tryz.prog 79 #[.int .u16 a] w fun e w' => e = .returned (.int .u16 (oExt a)) ∧ w = w' := by
  go_enter Tryz.func79, Tryz.ntmps79
  go_wp2_with (first | (go_at_call 87; refine (rLow_any _ (by omega) (by omega) _).mono ?_; rintro e w' ⟨rfl, rfl⟩))
  all_goals go_ret
  all_goals exact ⟨ret_int (by (try simp only [beq_iff_eq, beq_eq_false_iff_ne, ne_eq, IntKind.wrap_u16] at *); unfold oExt; first | rfl | omega | ((repeat (first | rw [if_pos (by omega)] | rw [if_neg (by omega)])); done) | ((repeat (first | rw [if_pos (by omega)] | rw [if_neg (by omega)])); omega)), rfl⟩

set_option maxHeartbeats 400000 in
theorem AddAcc_any (a : Int) (ha0 : 0 ≤ a) (ha1 : a < 65536) (b : Int) (hb0 : 0 ≤ b) (hb1 : b < 65536) (w : World) :
    Calls Tryz.prog 153 #[.int .u16 a, .int .u16 b] w fun e w' => e = .returned (.int .u16 (oAddA a b)) ∧ w = w' := by
  go_enter Tryz.func153, Tryz.ntmps153
  go_wp2_with (first | (go_at_call 183; refine (sumA_any _ (by omega) (by omega) _ (by omega) (by omega) _).mono ?_; rintro e w' ⟨rfl, rfl⟩))
  all_goals go_ret
  all_goals exact ⟨ret_int (by first | rfl | omega), rfl⟩

set_option maxHeartbeats 400000 in
theorem rAddAcc_any (a : Int) (ha0 : 0 ≤ a) (ha1 : a < 65536) (b : Int) (hb0 : 0 ≤ b) (hb1 : b < 65536) (w : World) :
    Calls Tryz.prog 174 #[.int .u16 a, .int .u16 b] w fun e w' => e = .returned (.int .u16 (oAddA a b)) ∧ w = w' := by
  go_enter Tryz.func174, Tryz.ntmps174
  go_wp2
  all_goals go_ret
  all_goals exact ⟨ret_int (by (try simp only [beq_iff_eq, beq_eq_false_iff_ne, ne_eq, IntKind.wrap_u16] at *); unfold oAddA; first | rfl | omega | ((repeat (first | rw [if_pos (by omega)] | rw [if_neg (by omega)])); done) | ((repeat (first | rw [if_pos (by omega)] | rw [if_neg (by omega)])); omega)), rfl⟩

set_option maxHeartbeats 400000 in
theorem NegAcc_any (a : Int) (ha0 : 0 ≤ a) (ha1 : a < 65536) (w : World) :
    Calls Tryz.prog 29 #[.int .u16 a] w fun e w' => e = .returned (.int .u16 (65535 - a)) ∧ w = w' := by
  go_enter Tryz.func29, Tryz.ntmps29
  go_wp2
  all_goals go_ret
  all_goals exact ⟨ret_int (by first | rfl | omega), rfl⟩

set_option maxHeartbeats 400000 in
theorem rNegAcc_any (a : Int) (ha0 : 0 ≤ a) (ha1 : a < 65536) (w : World) :
    Calls Tryz.prog 125 #[.int .u16 a] w fun e w' => e = .returned (.int .u16 (65535 - a)) ∧ w = w' := by
  go_enter Tryz.func125, Tryz.ntmps125
  go_wp2
  all_goals go_ret
  all_goals exact ⟨ret_int (by first | rfl | omega), rfl⟩

set_option maxHeartbeats 400000 in
theorem Overflow_any (a : Int) (ha0 : 0 ≤ a) (ha1 : a < 65536) (w : World) :
    Calls Tryz.prog 180 #[.int .u16 a] w fun e w' => e = .returned (.int .i64 (oOver a)) ∧ w = w' := by
  have hb := andSigns a ha0 ha1
  go_enter Tryz.func180, Tryz.ntmps180
  go_wp2
  all_goals go_ret
  all_goals exact ⟨ret_int (by (try simp only [beq_iff_eq, beq_eq_false_iff_ne, ne_eq, IntKind.wrap_u16] at *); unfold oOver; first | rfl | omega | ((repeat (first | rw [if_pos (by omega)] | rw [if_neg (by omega)])); done) | ((repeat (first | rw [if_pos (by omega)] | rw [if_neg (by omega)])); omega)), rfl⟩

set_option maxHeartbeats 400000 in
theorem rOverflow_any (a : Int) (ha0 : 0 ≤ a) (ha1 : a < 65536) (w : World) :
    Calls Tryz.prog 121 #[.int .u16 a] w fun e w' => e = .returned (.int .i64 (oOver a)) ∧ w = w' := by
  go_enter Tryz.func121, Tryz.ntmps121
  go_wp2
  all_goals go_ret
  all_goals exact ⟨ret_int (by (try simp only [beq_iff_eq, beq_eq_false_iff_ne, ne_eq, IntKind.wrap_u16] at *); unfold oOver; first | rfl | omega | ((repeat (first | rw [if_pos (by omega)] | rw [if_neg (by omega)])); done) | ((repeat (first | rw [if_pos (by omega)] | rw [if_neg (by omega)])); omega)), rfl⟩

set_option maxHeartbeats 400000 in
theorem Correct_any (a : Int) (ha0 : 0 ≤ a) (ha1 : a < 65536) (w : World) :
    Calls Tryz.prog 28 #[.int .u16 a] w fun e w' => e = .returned (.int .u16 (oCorr a)) ∧ w = w' := by
  have hb := andBit15 a ha0 ha1
  have hc := and14 a ha0 ha1
  have hd := or_join 14 (a / 32768 * 32768 / 2) (a % 16384) (by omega) (by omega) (by omega) (by omega) (by omega) (by omega)
  go_enter Tryz.func28, Tryz.ntmps28
  go_wp2
  all_goals go_ret
  all_goals exact ⟨ret_int (by (try simp only [beq_iff_eq, beq_eq_false_iff_ne, ne_eq, IntKind.wrap_u16] at *); unfold oCorr; first | rfl | omega | ((repeat (first | rw [if_pos (by omega)] | rw [if_neg (by omega)])); done) | ((repeat (first | rw [if_pos (by omega)] | rw [if_neg (by omega)])); omega)), rfl⟩

set_option maxHeartbeats 400000 in
theorem rCorrect_any (a : Int) (ha0 : 0 ≤ a) (ha1 : a < 65536) (w : World) :
    Calls Tryz.prog 47 #[.int .u16 a] w fun e w' => e = .returned (.int .u16 (oCorr a)) ∧ w = w' := by
  go_enter Tryz.func47, Tryz.ntmps47
  go_wp2
  all_goals go_ret
  all_goals exact ⟨ret_int (by (try simp only [beq_iff_eq, beq_eq_false_iff_ne, ne_eq, IntKind.wrap_u16] at *); unfold oCorr; first | rfl | omega | ((repeat (first | rw [if_pos (by omega)] | rw [if_neg (by omega)])); done) | ((repeat (first | rw [if_pos (by omega)] | rw [if_neg (by omega)])); omega)), rfl⟩

set_option maxHeartbeats 400000 in
theorem Class_any (a : Int) (ha0 : 0 ≤ a) (ha1 : a < 65536) (w : World) :
    Calls Tryz.prog 187 #[.int .u16 a] w fun e w' => e = .returned (.int .i64 (oClass a)) ∧ w = w' := by
  go_enter Tryz.func187, Tryz.ntmps187
  go_wp2
  all_goals go_ret
  all_goals exact ⟨ret_int (by (try simp only [beq_iff_eq, beq_eq_false_iff_ne, ne_eq, IntKind.wrap_u16] at *); unfold oClass; first | rfl | omega | ((repeat (first | rw [if_pos (by omega)] | rw [if_neg (by omega)])); done) | ((repeat (first | rw [if_pos (by omega)] | rw [if_neg (by omega)])); omega)), rfl⟩

set_option maxHeartbeats 400000 in
theorem rClass_any (a : Int) (ha0 : 0 ≤ a) (ha1 : a < 65536) (w : World) :
    Calls Tryz.prog 124 #[.int .u16 a] w fun e w' => e = .returned (.int .i64 (oClass a)) ∧ w = w' := by
  go_enter Tryz.func124, Tryz.ntmps124
  go_wp2
  all_goals go_ret
  all_goals exact ⟨ret_int (by (try simp only [beq_iff_eq, beq_eq_false_iff_ne, ne_eq, IntKind.wrap_u16] at *); unfold oClass; first | rfl | omega | ((repeat (first | rw [if_pos (by omega)] | rw [if_neg (by omega)])); done) | ((repeat (first | rw [if_pos (by omega)] | rw [if_neg (by omega)])); omega)), rfl⟩

set_option maxHeartbeats 400000 in
theorem Diminish_any (a : Int) (ha0 : 0 ≤ a) (ha1 : a < 65536) (w : World) :
    Calls Tryz.prog 185 #[.int .u16 a] w fun e w' => e = .returned (.int .u16 (oDim a)) ∧ w = w' := by
  go_enter Tryz.func185, Tryz.ntmps185
  go_wp2
  all_goals go_ret
  all_goals exact ⟨ret_int (by (try simp only [beq_iff_eq, beq_eq_false_iff_ne, ne_eq, IntKind.wrap_u16] at *); unfold oDim; first | rfl | omega | ((repeat (first | rw [if_pos (by omega)] | rw [if_neg (by omega)])); done) | ((repeat (first | rw [if_pos (by omega)] | rw [if_neg (by omega)])); omega)), rfl⟩

set_option maxHeartbeats 400000 in
theorem rDiminish_any (a : Int) (ha0 : 0 ≤ a) (ha1 : a < 65536) (w : World) :
    Calls Tryz.prog 127 #[.int .u16 a] w fun e w' => e = .returned (.int .u16 (oDim a)) ∧ w = w' := by
  go_enter Tryz.func127, Tryz.ntmps127
  go_wp2
  all_goals go_ret
  all_goals exact ⟨ret_int (by (try simp only [beq_iff_eq, beq_eq_false_iff_ne, ne_eq, IntKind.wrap_u16] at *); unfold oDim; first | rfl | omega | ((repeat (first | rw [if_pos (by omega)] | rw [if_neg (by omega)])); done) | ((repeat (first | rw [if_pos (by omega)] | rw [if_neg (by omega)])); omega)), rfl⟩

set_option maxHeartbeats 400000 in
theorem CycleRight_any (a : Int) (ha0 : 0 ≤ a) (ha1 : a < 65536) (w : World) :
    Calls Tryz.prog 199 #[.int .u16 a] w fun e w' => e = .returned (.int .u16 (oCyR a)) ∧ w = w' := by
  have hb := and1 a ha0 ha1
  have hd := or_join' 14 (a % 2 * 16384) (a % 32768 / 2) (by omega) (by omega) (by omega) (by omega) (by omega) (by omega)
  go_enter Tryz.func199, Tryz.ntmps199
  go_wp2_with (first | (go_at_call 63; refine (low_any _ (by omega) (by omega) _).mono ?_; rintro e w' ⟨rfl, rfl⟩))
  all_goals go_ret
  all_goals exact ⟨ret_int (by (try simp only [beq_iff_eq, beq_eq_false_iff_ne, ne_eq, IntKind.wrap_u16] at *); unfold oCyR; first | rfl | omega | ((repeat (first | rw [if_pos (by omega)] | rw [if_neg (by omega)])); done) | ((repeat (first | rw [if_pos (by omega)] | rw [if_neg (by omega)])); omega)), rfl⟩

set_option maxHeartbeats 400000 in
theorem rCycleRight_any (a : Int) (ha0 : 0 ≤ a) (ha1 : a < 65536) (w : World) :
    Calls Tryz.prog 192 #[.int .u16 a] w fun e w' => e = .returned (.int .u16 (oCyR a)) ∧ w = w' := by
  go_enter Tryz.func192, Tryz.ntmps192
  go_wp2_with (first | (go_at_call 87; refine (rLow_any _ (by omega) (by omega) _).mono ?_; rintro e w' ⟨rfl, rfl⟩))
  all_goals go_ret
  all_goals exact ⟨ret_int (by (try simp only [beq_iff_eq, beq_eq_false_iff_ne, ne_eq, IntKind.wrap_u16] at *); unfold oCyR; first | rfl | omega | ((repeat (first | rw [if_pos (by omega)] | rw [if_neg (by omega)])); done) | ((repeat (first | rw [if_pos (by omega)] | rw [if_neg (by omega)])); omega)), rfl⟩

set_option maxHeartbeats 400000 in
theorem CycleLeft_any (a : Int) (ha0 : 0 ≤ a) (ha1 : a < 65536) (w : World) :
    Calls Tryz.prog 201 #[.int .u16 a] w fun e w' => e = .returned (.int .u16 (oCyL a)) ∧ w = w' := by
  have hb := andBit14 a ha0 ha1
  have k1 : a * 2 % 32768 = a % 16384 * 2 := by omega
  have hd : bits .or .u16 (a % 16384 * 2) (a / 16384 % 2) = a % 16384 * 2 + a / 16384 % 2 := or_join 1 _ _ (by omega) (by omega) (by omega) (by omega) (by omega) (by omega)
  have hw : IntKind.u16.wrap (a * 2) = a * 2 % 65536 := IntKind.wrap_u16 _
  go_enter Tryz.func201, Tryz.ntmps201
  go_wp2_with (first | (go_at_call 63; refine (low_any _ (by omega) (by omega) _).mono ?_; rintro e w' ⟨rfl, rfl⟩))
  all_goals go_ret
  all_goals exact ⟨ret_int (by (try simp only [beq_iff_eq, beq_eq_false_iff_ne, ne_eq, IntKind.wrap_u16] at *); unfold oCyL; first | rfl | omega | ((repeat (first | rw [if_pos (by omega)] | rw [if_neg (by omega)])); done) | ((repeat (first | rw [if_pos (by omega)] | rw [if_neg (by omega)])); omega)), rfl⟩

set_option maxHeartbeats 400000 in
theorem rCycleLeft_any (a : Int) (ha0 : 0 ≤ a) (ha1 : a < 65536) (w : World) :
    Calls Tryz.prog 194 #[.int .u16 a] w fun e w' => e = .returned (.int .u16 (oCyL a)) ∧ w = w' := by
  go_enter Tryz.func194, Tryz.ntmps194
  go_wp2_with (first | (go_at_call 87; refine (rLow_any _ (by omega) (by omega) _).mono ?_; rintro e w' ⟨rfl, rfl⟩))
  all_goals go_ret
  all_goals exact ⟨ret_int (by (try simp only [beq_iff_eq, beq_eq_false_iff_ne, ne_eq, IntKind.wrap_u16] at *); unfold oCyL; first | rfl | omega | ((repeat (first | rw [if_pos (by omega)] | rw [if_neg (by omega)])); done) | ((repeat (first | rw [if_pos (by omega)] | rw [if_neg (by omega)])); omega)), rfl⟩

set_option maxHeartbeats 400000 in
theorem ShiftRight_any (a : Int) (ha0 : 0 ≤ a) (ha1 : a < 65536) (w : World) :
    Calls Tryz.prog 200 #[.int .u16 a] w fun e w' => e = .returned (.int .u16 (oShR a)) ∧ w = w' := by
  have hb := andBit14 a ha0 ha1
  have hd := or_join' 14 (a / 16384 % 2 * 16384) (a % 32768 / 2) (by omega) (by omega) (by omega) (by omega) (by omega) (by omega)
  go_enter Tryz.func200, Tryz.ntmps200
  go_wp2_with (first | (go_at_call 63; refine (low_any _ (by omega) (by omega) _).mono ?_; rintro e w' ⟨rfl, rfl⟩))
  all_goals go_ret
  all_goals exact ⟨ret_int (by (try simp only [beq_iff_eq, beq_eq_false_iff_ne, ne_eq, IntKind.wrap_u16] at *); unfold oShR; first | rfl | omega | ((repeat (first | rw [if_pos (by omega)] | rw [if_neg (by omega)])); done) | ((repeat (first | rw [if_pos (by omega)] | rw [if_neg (by omega)])); omega)), rfl⟩

set_option maxHeartbeats 400000 in
theorem rShiftRight_any (a : Int) (ha0 : 0 ≤ a) (ha1 : a < 65536) (w : World) :
    Calls Tryz.prog 193 #[.int .u16 a] w fun e w' => e = .returned (.int .u16 (oShR a)) ∧ w = w' := by
  go_enter Tryz.func193, Tryz.ntmps193
  go_wp2_with (first | (go_at_call 87; refine (rLow_any _ (by omega) (by omega) _).mono ?_; rintro e w' ⟨rfl, rfl⟩))
  all_goals go_ret
  all_goals exact ⟨ret_int (by (try simp only [beq_iff_eq, beq_eq_false_iff_ne, ne_eq, IntKind.wrap_u16] at *); unfold oShR; first | rfl | omega | ((repeat (first | rw [if_pos (by omega)] | rw [if_neg (by omega)])); done) | ((repeat (first | rw [if_pos (by omega)] | rw [if_neg (by omega)])); omega)), rfl⟩

set_option maxHeartbeats 400000 in
theorem Opcode_any (a : Int) (ha0 : 0 ≤ a) (ha1 : a < 65536) (w : World) :
    Calls Tryz.prog 202 #[.int .u16 a] w fun e w' => e = .returned (.int .u16 (oOp a)) ∧ w = w' := by
  have hb := and7 (a / 128) (by omega) (by omega)
  go_enter Tryz.func202, Tryz.ntmps202
  go_wp2
  all_goals go_ret
  all_goals exact ⟨ret_int (by (try simp only [beq_iff_eq, beq_eq_false_iff_ne, ne_eq, IntKind.wrap_u16] at *); unfold oOp; first | rfl | omega | ((repeat (first | rw [if_pos (by omega)] | rw [if_neg (by omega)])); done) | ((repeat (first | rw [if_pos (by omega)] | rw [if_neg (by omega)])); omega)), rfl⟩

set_option maxHeartbeats 400000 in
theorem rOpcode_any (a : Int) (ha0 : 0 ≤ a) (ha1 : a < 65536) (w : World) :
    Calls Tryz.prog 195 #[.int .u16 a] w fun e w' => e = .returned (.int .u16 (oOp a)) ∧ w = w' := by
  go_enter Tryz.func195, Tryz.ntmps195
  go_wp2_with (first | (go_at_call 87; refine (rLow_any _ (by omega) (by omega) _).mono ?_; rintro e w' ⟨rfl, rfl⟩))
  all_goals go_ret
  all_goals exact ⟨ret_int (by (try simp only [beq_iff_eq, beq_eq_false_iff_ne, ne_eq, IntKind.wrap_u16] at *); unfold oOp; first | rfl | omega | ((repeat (first | rw [if_pos (by omega)] | rw [if_neg (by omega)])); done) | ((repeat (first | rw [if_pos (by omega)] | rw [if_neg (by omega)])); omega)), rfl⟩

set_option maxHeartbeats 400000 in
theorem TwosDiff_any (a : Int) (ha0 : 0 ≤ a) (ha1 : a < 65536) (b : Int) (hb0 : 0 ≤ b) (hb1 : b < 65536) (w : World) :
    Calls Tryz.prog 191 #[.int .u16 a, .int .u16 b] w fun e w' => e = .returned (.int .u16 (oTwos a b)) ∧ w = w' := by
  have hw : IntKind.u16.wrap (a - b) = (a - b) % 65536 := IntKind.wrap_u16 _
  go_enter Tryz.func191, Tryz.ntmps191
  go_wp2_with (first | (go_at_call 63; refine (low_any _ (by omega) (by omega) _).mono ?_; rintro e w' ⟨rfl, rfl⟩))
  all_goals go_ret
  all_goals exact ⟨ret_int (by (try simp only [beq_iff_eq, beq_eq_false_iff_ne, ne_eq, IntKind.wrap_u16] at *); unfold oTwos; first | rfl | omega | ((repeat (first | rw [if_pos (by omega)] | rw [if_neg (by omega)])); done) | ((repeat (first | rw [if_pos (by omega)] | rw [if_neg (by omega)])); omega)), rfl⟩

set_option maxHeartbeats 400000 in
theorem rTwosDiff_any (a : Int) (ha0 : 0 ≤ a) (ha1 : a < 65536) (b : Int) (hb0 : 0 ≤ b) (hb1 : b < 65536) (w : World) :
    Calls Tryz.prog 128 #[.int .u16 a, .int .u16 b] w fun e w' => e = .returned (.int .u16 (oTwos a b)) ∧ w = w' := by
  go_enter Tryz.func128, Tryz.ntmps128
  go_wp2_with (first | (go_at_call 87; refine (rLow_any _ (by omega) (by omega) _).mono ?_; rintro e w' ⟨rfl, rfl⟩))
  all_goals go_ret
  all_goals exact ⟨ret_int (by (try simp only [beq_iff_eq, beq_eq_false_iff_ne, ne_eq, IntKind.wrap_u16] at *); unfold oTwos; first | rfl | omega | ((repeat (first | rw [if_pos (by omega)] | rw [if_neg (by omega)])); done) | ((repeat (first | rw [if_pos (by omega)] | rw [if_neg (by omega)])); omega)), rfl⟩

end Go.Proofs.YtjjkikghfmnikaaGreatDoor

/- Plain functions of layer 5: registers, views, and what an instruction does. -/
set_option linter.unusedSimpArgs false
set_option linter.unusedVariables false
namespace Go.Proofs.YtjjkikghfmnikaaGreatDoor
open Go.RowKit
/-- The registers. -/
structure Rg where
  A : Int
  L : Int
  Q : Int
  Z : Int
  EB : Int
  FB : Int
  Su : Int
  Ex : Bool
  Ix : Int
  Hd : Bool
  B : Int
  Ih : Bool
  Sv : Bool
/-- They are numbers of their kinds. -/
structure Rg.Fit (r : Rg) : Prop where
  A : 0 ≤ r.A ∧ r.A ≤ 65535
  L : 0 ≤ r.L ∧ r.L ≤ 65535
  Q : 0 ≤ r.Q ∧ r.Q ≤ 65535
  Z : -9223372036854775808 ≤ r.Z ∧ r.Z ≤ 9223372036854775807
  EB : -9223372036854775808 ≤ r.EB ∧ r.EB ≤ 9223372036854775807
  FB : -9223372036854775808 ≤ r.FB ∧ r.FB ≤ 9223372036854775807
  Su : -9223372036854775808 ≤ r.Su ∧ r.Su ≤ 9223372036854775807
  Ix : 0 ≤ r.Ix ∧ r.Ix ≤ 65535
  B : 0 ≤ r.B ∧ r.B ≤ 65535
def Rg.may (r : Rg) : Prop := r.L ≤ 32767 ∧ r.Q ≤ 32767 ∧ r.Ix ≤ 32767 ∧ r.B ≤ 32767 ∧ 0 ≤ r.Z ∧ r.Z ≤ 4095 ∧ 0 ≤ r.EB ∧ r.EB ≤ 7 ∧ 0 ≤ r.FB ∧ r.FB ≤ 31 ∧ 0 ≤ r.Su ∧ r.Su ≤ 7
instance (r : Rg) : Decidable r.may := by unfold Rg.may; infer_instance
def Rg.V (r : Rg) : Value := .agg #[.int .u16 r.A, .int .u16 r.L, .int .u16 r.Q, .int .i64 r.Z, .int .i64 r.EB, .int .i64 r.FB, .int .i64 r.Su, .bool r.Ex, .int .u16 r.Ix, .bool r.Hd, .int .u16 r.B, .bool r.Ih, .bool r.Sv]
def rg0 : Rg := ⟨0, 0, 0, 0, 0, 0, 0, false, 0, false, 0, false, false⟩
/-- A view: erasable words, fixed words, channels. -/
structure Vw where
  ne : Nat
  ze : Nat → Int
  nf : Nat
  zf : Nat → Int
  nc : Nat
  zc : Nat → Int
/-- The word at an index of a view's slice. -/
def wd (n : Nat) (z : Nat → Int) (a : Int) : Int := if (n : Int) ≤ a then 0 else z a.toNat % 32768
/-- The word of memory that an operand addresses. -/
def spc (k : Int) : Int := if k ≤ 1023 then 1 else 2
def adr (r : Rg) (k : Int) : Int := if k ≤ 767 then k else if k ≤ 1023 then 256 * r.EB + k - 768 else if k ≤ 2047 then 1024 * mBankV r.FB r.Su + k - 1024 else k
def has (r : Rg) (k : Int) : Prop := ¬ (mBankE r.FB r.Su ≠ 0 ∧ 1024 ≤ k ∧ k ≤ 2047)
instance (r : Rg) (k : Int) : Decidable (has r k) := by unfold has; infer_instance
def nxt (s a : Int) : Int := if (if s = 2 then 36863 else 2047) < a + 1 then 0 else a + 1
/-- The value at a word of memory; whether it is memory that is read. -/
def val (r : Rg) (v : Vw) (s a : Int) : Int :=
  if s = 2 then oExt (wd v.nf v.zf a) else if a = 0 then r.A else if a = 1 then oExt r.L else if a = 2 then oExt r.Q else if a = 3 then oExt (256 * r.EB) else if a = 4 then oExt (1024 * r.FB)
  else if a = 5 then oExt r.Z else if a = 6 then oExt (1024 * r.FB + r.EB) else if a = 7 then 0 else oExt (wd v.ne v.ze a)
def isW (s a : Int) : Prop := s = 2 ∨ a < 0 ∨ 7 < a
instance (s a : Int) : Decidable (isW s a) := by unfold isW; infer_instance
def rds (s a : Int) : List (Int × Int) := if isW s a then [(s, a)] else []
theorem spc_or (k : Int) : spc k = 1 ∨ spc k = 2 := by unfold spc; split <;> omega
theorem adr_bd {r : Rg} (h : r.may) {k : Int} (k0 : 0 ≤ k) (k1 : k ≤ 4095) : 0 ≤ adr r k ∧ adr r k ≤ (if spc k = 2 then 36863 else 2047) := by
  obtain ⟨_, _, _, _, _, _, e0, e1, f0, f1, s0, s1⟩ := h
  have hb : 0 ≤ mBankV r.FB r.Su ∧ mBankV r.FB r.Su ≤ 35 := by unfold mBankV; repeat (first | omega | split)
  unfold adr spc
  by_cases c1 : k ≤ 767
  · rw [if_pos c1, if_pos (show k ≤ 1023 by omega), if_neg (by omega)]; omega
  · by_cases c2 : k ≤ 1023
    · rw [if_neg c1, if_pos c2, if_pos c2, if_neg (by omega)]; omega
    · by_cases c3 : k ≤ 2047
      · rw [if_neg c1, if_neg c2, if_pos c3, if_neg c2, if_pos rfl]; omega
      · rw [if_neg c1, if_neg c2, if_neg c3, if_neg c2, if_pos rfl]; omega
/-- Products and quotients. -/
def oNg (a : Int) : Int := 32767 - a % 32768
def mag (a : Int) : Int := if oVal a < 0 then -oVal a else oVal a
def sgn (a : Int) : Bool := decide (16383 < a % 32768)
def mulHi (a b : Int) : Int := if sgn a = sgn b then mag a * mag b / 16384 else oNg (mag a * mag b / 16384)
def mulLo (a b : Int) : Int := if sgn a = sgn b then mag a * mag b % 16384 else oNg (mag a * mag b % 16384)
def dvN (hi lo : Int) : Int := let n := 16384 * oVal hi + oVal lo; if n < 0 then -n else n
def dvS (hi lo : Int) : Bool := if oVal hi = 0 then sgn lo else sgn hi
def dvOk (hi lo d : Int) : Prop := dvN hi lo < 16384 * mag d
instance (hi lo d : Int) : Decidable (dvOk hi lo d) := by unfold dvOk; infer_instance
def dvQ (hi lo d : Int) : Int := let q := if dvOk hi lo d then dvN hi lo / mag d else 16383; if dvS hi lo = sgn d then q else oNg q
def dvR (hi lo d : Int) : Int := if dvOk hi lo d then (if dvS hi lo then oNg (dvN hi lo % mag d) else dvN hi lo % mag d) else lo % 32768
theorem mag_bd (a : Int) : 0 ≤ mag a ∧ mag a ≤ 16383 := by unfold mag; have : -16383 ≤ oVal a ∧ oVal a ≤ 16383 := by { unfold oVal; split <;> omega }; split <;> omega
/-- Fetching. -/
def fW (r : Rg) (v : Vw) : Int := if r.Hd then r.B else oCorr (val r v (spc r.Z) (adr r r.Z))
def fI (r : Rg) (v : Vw) : Int := oAdd (fW r v) r.Ix
def fRds (r : Rg) : List (Int × Int) := if r.Hd then [] else rds (spc r.Z) (adr r r.Z)
def fRg (r : Rg) : Rg := { r with Z := (r.Z + 1) % 4096, Hd := false, Ex := false, B := 0, Ix := 0 }
def fOk (r : Rg) : Prop := r.Hd = true ∨ has r r.Z
instance (r : Rg) : Decidable (fOk r) := by unfold fOk; infer_instance
end Go.Proofs.YtjjkikghfmnikaaGreatDoor

/- Contracts of layer 3: the reference's functions on addresses. -/
set_option linter.unusedSimpArgs false
set_option linter.unusedVariables false
namespace Go.Proofs.YtjjkikghfmnikaaGreatDoor
open Go.ChangeShapes Go.WideShapes Go.ChangeAt Go.RowKit
theorem rwithin_yes (n m : Int) (h : 0 ≤ n ∧ n ≤ m) (w : World) : Calls Tryz.prog 141 #[.int .i64 n, .int .i64 m] w fun e w' => e = .returned (.bool true) ∧ w = w' := by
  obtain ⟨h0, h1⟩ := h
  go_enter Tryz.func141, Tryz.ntmps141
  go_wp2
  go_ret
  exact ⟨rfl, rfl⟩
theorem rwithin_no (n m : Int) (h : ¬ (0 ≤ n ∧ n ≤ m)) (w : World) : Calls Tryz.prog 141 #[.int .i64 n, .int .i64 m] w fun e w' => e = .returned (.bool false) ∧ w = w' := by
  by_cases h0 : 0 ≤ n
  · have h1 : ¬ n ≤ m := fun c => h ⟨h0, c⟩
    clear h
    go_enter Tryz.func141, Tryz.ntmps141
    go_wp2
    go_ret
    exact ⟨rfl, rfl⟩
  · clear h
    go_enter Tryz.func141, Tryz.ntmps141
    go_wp2
    go_ret
    exact ⟨rfl, rfl⟩
set_option maxHeartbeats 2000000 in
theorem rBank_any (fb su : Int) (f0 : -9223372036854775808 ≤ fb) (f1 : fb ≤ 9223372036854775807) (s0 : -9223372036854775808 ≤ su) (s1 : su ≤ 9223372036854775807) (w : World) :
    Calls Tryz.prog 77 #[.int .i64 fb, .int .i64 su] w fun e w' => e = .returned (.tuple #[.int .i64 (mBankV fb su), .int .i64 (mBankE fb su)]) ∧ w = w' := by
  by_cases hc0 : 0 ≤ fb
  · by_cases hc1 : fb ≤ 31
    · by_cases hc2 : 0 ≤ su
      · by_cases hc3 : su ≤ 7
        · by_cases hc4 : 24 ≤ fb
          · by_cases hc5 : 4 ≤ su
            · by_cases hc6 : fb ≤ 27
              · go_enter Tryz.func77, Tryz.ntmps77
                go_wp2
                go_ret2
                exact ⟨ret_tup2 (by unfold mBankV; repeat (first | rfl | omega | rw [if_pos (by omega)] | rw [if_neg (by omega)])) (by unfold mBankE; repeat (first | rfl | omega | rw [if_pos (by omega)] | rw [if_neg (by omega)])), rfl⟩
              · go_enter Tryz.func77, Tryz.ntmps77
                go_wp2
                go_ret2
                exact ⟨ret_tup2 (by unfold mBankV; repeat (first | rfl | omega | rw [if_pos (by omega)] | rw [if_neg (by omega)])) (by unfold mBankE; repeat (first | rfl | omega | rw [if_pos (by omega)] | rw [if_neg (by omega)])), rfl⟩
            · go_enter Tryz.func77, Tryz.ntmps77
              go_wp2
              go_ret2
              exact ⟨ret_tup2 (by unfold mBankV; repeat (first | rfl | omega | rw [if_pos (by omega)] | rw [if_neg (by omega)])) (by unfold mBankE; repeat (first | rfl | omega | rw [if_pos (by omega)] | rw [if_neg (by omega)])), rfl⟩
          · go_enter Tryz.func77, Tryz.ntmps77
            go_wp2
            go_ret2
            exact ⟨ret_tup2 (by unfold mBankV; repeat (first | rfl | omega | rw [if_pos (by omega)] | rw [if_neg (by omega)])) (by unfold mBankE; repeat (first | rfl | omega | rw [if_pos (by omega)] | rw [if_neg (by omega)])), rfl⟩
        · go_enter Tryz.func77, Tryz.ntmps77
          go_wp2
          go_ret2
          exact ⟨ret_tup2 (by unfold mBankV; repeat (first | rfl | omega | rw [if_pos (by omega)] | rw [if_neg (by omega)])) (by unfold mBankE; repeat (first | rfl | omega | rw [if_pos (by omega)] | rw [if_neg (by omega)])), rfl⟩
      · go_enter Tryz.func77, Tryz.ntmps77
        go_wp2
        go_ret2
        exact ⟨ret_tup2 (by unfold mBankV; repeat (first | rfl | omega | rw [if_pos (by omega)] | rw [if_neg (by omega)])) (by unfold mBankE; repeat (first | rfl | omega | rw [if_pos (by omega)] | rw [if_neg (by omega)])), rfl⟩
    · go_enter Tryz.func77, Tryz.ntmps77
      go_wp2
      go_ret2
      exact ⟨ret_tup2 (by unfold mBankV; repeat (first | rfl | omega | rw [if_pos (by omega)] | rw [if_neg (by omega)])) (by unfold mBankE; repeat (first | rfl | omega | rw [if_pos (by omega)] | rw [if_neg (by omega)])), rfl⟩
  · go_enter Tryz.func77, Tryz.ntmps77
    go_wp2
    go_ret2
    exact ⟨ret_tup2 (by unfold mBankV; repeat (first | rfl | omega | rw [if_pos (by omega)] | rw [if_neg (by omega)])) (by unfold mBankE; repeat (first | rfl | omega | rw [if_pos (by omega)] | rw [if_neg (by omega)])), rfl⟩
theorem ret_tup3 {k k' k'' : IntKind} {a b c d e f : Int} (h : a = b) (h' : c = d) (h'' : e = f) : Ending.returned (.tuple #[.int k a, .int k' c, .int k'' e]) = .returned (.tuple #[.int k b, .int k' d, .int k'' f]) := by rw [h, h', h'']
set_option maxHeartbeats 2000000 in
theorem rAbsolute_any (k eb fb : Int) (k0 : -9223372036854775808 ≤ k) (k1 : k ≤ 9223372036854775807) (e0 : -9223372036854775808 ≤ eb) (e1 : eb ≤ 9223372036854775807) (f0 : -9223372036854775808 ≤ fb) (f1 : fb ≤ 9223372036854775807) (w : World) :
    Calls Tryz.prog 78 #[.int .i64 k, .int .i64 eb, .int .i64 fb] w fun e w' => e = .returned (.tuple #[.int .u8 (mAbsS k eb fb), .int .i64 (mAbsA k eb fb), .int .i64 (mAbsE k eb fb)]) ∧ w = w' := by
  by_cases hc0 : 0 ≤ k
  · by_cases hc1 : k ≤ 4095
    · by_cases hc2 : 0 ≤ eb
      · by_cases hc3 : eb ≤ 7
        · by_cases hc4 : 0 ≤ fb
          · by_cases hc5 : fb ≤ 35
            · by_cases hc6 : k ≤ 767
              · go_enter Tryz.func78, Tryz.ntmps78
                go_wp2
                go_ret3
                exact ⟨ret_tup3 (by unfold mAbsS; repeat (first | rfl | omega | rw [if_pos (by unfold mAbsOk; omega)] | rw [if_neg (by unfold mAbsOk; omega)] | rw [if_pos (by omega)] | rw [if_neg (by omega)])) (by unfold mAbsA; repeat (first | rfl | omega | rw [if_pos (by unfold mAbsOk; omega)] | rw [if_neg (by unfold mAbsOk; omega)] | rw [if_pos (by omega)] | rw [if_neg (by omega)])) (by unfold mAbsE; repeat (first | rfl | omega | rw [if_pos (by unfold mAbsOk; omega)] | rw [if_neg (by unfold mAbsOk; omega)])), rfl⟩
              · by_cases hc7 : k ≤ 1023
                · go_enter Tryz.func78, Tryz.ntmps78
                  go_wp2
                  go_ret3
                  exact ⟨ret_tup3 (by unfold mAbsS; repeat (first | rfl | omega | rw [if_pos (by unfold mAbsOk; omega)] | rw [if_neg (by unfold mAbsOk; omega)] | rw [if_pos (by omega)] | rw [if_neg (by omega)])) (by unfold mAbsA; repeat (first | rfl | omega | rw [if_pos (by unfold mAbsOk; omega)] | rw [if_neg (by unfold mAbsOk; omega)] | rw [if_pos (by omega)] | rw [if_neg (by omega)])) (by unfold mAbsE; repeat (first | rfl | omega | rw [if_pos (by unfold mAbsOk; omega)] | rw [if_neg (by unfold mAbsOk; omega)])), rfl⟩
                · by_cases hc8 : k ≤ 2047
                  · go_enter Tryz.func78, Tryz.ntmps78
                    go_wp2
                    go_ret3
                    exact ⟨ret_tup3 (by unfold mAbsS; repeat (first | rfl | omega | rw [if_pos (by unfold mAbsOk; omega)] | rw [if_neg (by unfold mAbsOk; omega)] | rw [if_pos (by omega)] | rw [if_neg (by omega)])) (by unfold mAbsA; repeat (first | rfl | omega | rw [if_pos (by unfold mAbsOk; omega)] | rw [if_neg (by unfold mAbsOk; omega)] | rw [if_pos (by omega)] | rw [if_neg (by omega)])) (by unfold mAbsE; repeat (first | rfl | omega | rw [if_pos (by unfold mAbsOk; omega)] | rw [if_neg (by unfold mAbsOk; omega)])), rfl⟩
                  · go_enter Tryz.func78, Tryz.ntmps78
                    go_wp2
                    go_ret3
                    exact ⟨ret_tup3 (by unfold mAbsS; repeat (first | rfl | omega | rw [if_pos (by unfold mAbsOk; omega)] | rw [if_neg (by unfold mAbsOk; omega)] | rw [if_pos (by omega)] | rw [if_neg (by omega)])) (by unfold mAbsA; repeat (first | rfl | omega | rw [if_pos (by unfold mAbsOk; omega)] | rw [if_neg (by unfold mAbsOk; omega)] | rw [if_pos (by omega)] | rw [if_neg (by omega)])) (by unfold mAbsE; repeat (first | rfl | omega | rw [if_pos (by unfold mAbsOk; omega)] | rw [if_neg (by unfold mAbsOk; omega)])), rfl⟩
            · go_enter Tryz.func78, Tryz.ntmps78
              go_wp2
              go_ret3
              exact ⟨ret_tup3 (by unfold mAbsS; repeat (first | rfl | omega | rw [if_pos (by unfold mAbsOk; omega)] | rw [if_neg (by unfold mAbsOk; omega)] | rw [if_pos (by omega)] | rw [if_neg (by omega)])) (by unfold mAbsA; repeat (first | rfl | omega | rw [if_pos (by unfold mAbsOk; omega)] | rw [if_neg (by unfold mAbsOk; omega)] | rw [if_pos (by omega)] | rw [if_neg (by omega)])) (by unfold mAbsE; repeat (first | rfl | omega | rw [if_pos (by unfold mAbsOk; omega)] | rw [if_neg (by unfold mAbsOk; omega)])), rfl⟩
          · go_enter Tryz.func78, Tryz.ntmps78
            go_wp2
            go_ret3
            exact ⟨ret_tup3 (by unfold mAbsS; repeat (first | rfl | omega | rw [if_pos (by unfold mAbsOk; omega)] | rw [if_neg (by unfold mAbsOk; omega)] | rw [if_pos (by omega)] | rw [if_neg (by omega)])) (by unfold mAbsA; repeat (first | rfl | omega | rw [if_pos (by unfold mAbsOk; omega)] | rw [if_neg (by unfold mAbsOk; omega)] | rw [if_pos (by omega)] | rw [if_neg (by omega)])) (by unfold mAbsE; repeat (first | rfl | omega | rw [if_pos (by unfold mAbsOk; omega)] | rw [if_neg (by unfold mAbsOk; omega)])), rfl⟩
        · go_enter Tryz.func78, Tryz.ntmps78
          go_wp2
          go_ret3
          exact ⟨ret_tup3 (by unfold mAbsS; repeat (first | rfl | omega | rw [if_pos (by unfold mAbsOk; omega)] | rw [if_neg (by unfold mAbsOk; omega)] | rw [if_pos (by omega)] | rw [if_neg (by omega)])) (by unfold mAbsA; repeat (first | rfl | omega | rw [if_pos (by unfold mAbsOk; omega)] | rw [if_neg (by unfold mAbsOk; omega)] | rw [if_pos (by omega)] | rw [if_neg (by omega)])) (by unfold mAbsE; repeat (first | rfl | omega | rw [if_pos (by unfold mAbsOk; omega)] | rw [if_neg (by unfold mAbsOk; omega)])), rfl⟩
      · go_enter Tryz.func78, Tryz.ntmps78
        go_wp2
        go_ret3
        exact ⟨ret_tup3 (by unfold mAbsS; repeat (first | rfl | omega | rw [if_pos (by unfold mAbsOk; omega)] | rw [if_neg (by unfold mAbsOk; omega)] | rw [if_pos (by omega)] | rw [if_neg (by omega)])) (by unfold mAbsA; repeat (first | rfl | omega | rw [if_pos (by unfold mAbsOk; omega)] | rw [if_neg (by unfold mAbsOk; omega)] | rw [if_pos (by omega)] | rw [if_neg (by omega)])) (by unfold mAbsE; repeat (first | rfl | omega | rw [if_pos (by unfold mAbsOk; omega)] | rw [if_neg (by unfold mAbsOk; omega)])), rfl⟩
    · go_enter Tryz.func78, Tryz.ntmps78
      go_wp2
      go_ret3
      exact ⟨ret_tup3 (by unfold mAbsS; repeat (first | rfl | omega | rw [if_pos (by unfold mAbsOk; omega)] | rw [if_neg (by unfold mAbsOk; omega)] | rw [if_pos (by omega)] | rw [if_neg (by omega)])) (by unfold mAbsA; repeat (first | rfl | omega | rw [if_pos (by unfold mAbsOk; omega)] | rw [if_neg (by unfold mAbsOk; omega)] | rw [if_pos (by omega)] | rw [if_neg (by omega)])) (by unfold mAbsE; repeat (first | rfl | omega | rw [if_pos (by unfold mAbsOk; omega)] | rw [if_neg (by unfold mAbsOk; omega)])), rfl⟩
  · go_enter Tryz.func78, Tryz.ntmps78
    go_wp2
    go_ret3
    exact ⟨ret_tup3 (by unfold mAbsS; repeat (first | rfl | omega | rw [if_pos (by unfold mAbsOk; omega)] | rw [if_neg (by unfold mAbsOk; omega)] | rw [if_pos (by omega)] | rw [if_neg (by omega)])) (by unfold mAbsA; repeat (first | rfl | omega | rw [if_pos (by unfold mAbsOk; omega)] | rw [if_neg (by unfold mAbsOk; omega)] | rw [if_pos (by omega)] | rw [if_neg (by omega)])) (by unfold mAbsE; repeat (first | rfl | omega | rw [if_pos (by unfold mAbsOk; omega)] | rw [if_neg (by unfold mAbsOk; omega)])), rfl⟩
theorem mOpV_no (s a eb fb : Int) (h : ¬ ((s = 1 ∨ s = 2) ∧ mOpOk s a eb fb)) : 0 = mOpV s a eb fb := by unfold mOpV; rw [if_neg h]
theorem mOpV_yes (s a eb fb x : Int) (h : (s = 1 ∨ s = 2) ∧ mOpOk s a eb fb) (hx : mOp s a eb fb = x) (h0 : 0 ≤ x) : x = mOpV s a eb fb := by unfold mOpV; rw [if_pos h, hx, if_neg (by omega)]
theorem mOpV_none (s a eb fb : Int) (hx : mOp s a eb fb = -1) : 0 = mOpV s a eb fb := by
  unfold mOpV; rw [hx]; split <;> rfl
theorem mOpE_arg (s a eb fb : Int) (h : ¬ (s = 1 ∨ s = 2)) : 2 = mOpE s a eb fb := by unfold mOpE; rw [if_neg h]
theorem mOpE_no (s a eb fb : Int) (h : s = 1 ∨ s = 2) (h' : ¬ mOpOk s a eb fb) : 3 = mOpE s a eb fb := by unfold mOpE; rw [if_pos h, if_neg h']
theorem mOpE_yes (s a eb fb : Int) (h : s = 1 ∨ s = 2) (h' : mOpOk s a eb fb) (h0 : 0 ≤ mOp s a eb fb) : 0 = mOpE s a eb fb := by unfold mOpE; rw [if_pos h, if_pos h', if_neg (by omega)]
theorem mOpE_none (s a eb fb : Int) (h : s = 1 ∨ s = 2) (hx : mOp s a eb fb = -1) : 3 = mOpE s a eb fb := by
  unfold mOpE; rw [if_pos h, hx]; split <;> rfl
theorem mOpOk1 (a eb fb : Int) : mOpOk 1 a eb fb ↔ (0 ≤ eb ∧ eb ≤ 7 ∧ 0 ≤ fb ∧ fb ≤ 35 ∧ 0 ≤ a ∧ a ≤ 2047) := by unfold mOpOk; rw [if_neg (by omega)]
theorem mOpOk2 (a eb fb : Int) : mOpOk 2 a eb fb ↔ (0 ≤ eb ∧ eb ≤ 7 ∧ 0 ≤ fb ∧ fb ≤ 35 ∧ 0 ≤ a ∧ a ≤ 36863) := by unfold mOpOk; rw [if_pos rfl]
end Go.Proofs.YtjjkikghfmnikaaGreatDoor
