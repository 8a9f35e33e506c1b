/- Contracts of layer 1 (onescomp) and of its reference: what each function returns, as a function on integers. -/
import Derived.Test.YtdinjohalkllpaaRows
import Derived.WalkKit
import Derived.ProofKit
import Derived.OpenShut
import Derived.Test.YtdinjohalkllpaaBits
set_option linter.unusedSimpArgs false
set_option linter.unusedVariables false
namespace Go.Proofs.Ytdinjohalkllpaa
open Go.ChangeShapes Go.WideShapes Go.ChangeAt Go.RowKit

/-! ### plain functions -/
def oVal (a : Int) : Int := if 16383 < a % 32768 then a % 32768 - 32767 else a % 32768
def oAdd (a b : Int) : Int := if 32767 < a % 32768 + b % 32768 then a % 32768 + b % 32768 - 32767 else a % 32768 + b % 32768
def oExt (a : Int) : Int := if 16383 < a % 32768 then a % 32768 + 32768 else a % 32768
def oAddA (a b : Int) : Int := if 65535 < a + b then a + b - 65535 else a + b
def oOver (a : Int) : Int := a / 16384 % 2 - a / 32768
def oCorr (a : Int) : Int := a / 32768 * 16384 + a % 16384
def oClass (a : Int) : Int := if a = 0 then 1 else if a = 65535 then 3 else if a ≤ 32767 then 0 else 2
def oDim (a : Int) : Int := if a = 0 ∨ a = 65535 then 0 else if a ≤ 32767 then a - 1 else 65534 - a
def oCyR (a : Int) : Int := a % 2 * 16384 + a % 32768 / 2
def oCyL (a : Int) : Int := a % 16384 * 2 + a / 16384 % 2
def oShR (a : Int) : Int := a % 32768 / 16384 * 16384 + a % 32768 / 2
def oOp (a : Int) : Int := a / 128 % 128
def oEdit (at_ a : Int) : Int := if at_ = 16 then oCyR a else if at_ = 17 then oShR a else if at_ = 18 then oCyL a else if at_ = 19 then oOp a else a % 32768
def oTwos (a b : Int) : Int := if 16384 < (a - b) % 32768 then (a - b) % 32768 - 1 else (a - b) % 32768
def oOfW (n : Int) : Int := if n < -16383 ∨ 16383 < n then 0 else if n < 0 then n + 32767 else n
def oOfE (n : Int) : Int := if n < -16383 ∨ 16383 < n then 3 else 0


set_option maxHeartbeats 400000 in
theorem low_any (a : Int) (ha0 : 0 ≤ a) (ha1 : a < 65536) (w : World) :
    Calls Try.prog 48 #[.int .u16 a] w fun e w' => e = .returned (.int .u16 (a % 32768)) ∧ w = w' := by
  have hb := and15 a ha0 ha1
  go_enter Try.func48, Try.ntmps48
  go_wp2
  all_goals go_ret
  all_goals exact ⟨ret_int (by first | rfl | omega), rfl⟩

set_option maxHeartbeats 400000 in
theorem rLow_any (a : Int) (ha0 : 0 ≤ a) (ha1 : a < 65536) (w : World) :
    Calls Try.prog 49 #[.int .u16 a] w fun e w' => e = .returned (.int .i64 (a % 32768)) ∧ w = w' := by
  go_enter Try.func49, Try.ntmps49
  go_wp2
  all_goals go_ret
  all_goals exact ⟨ret_int (by first | rfl | omega), rfl⟩

set_option maxHeartbeats 400000 in
theorem Value_any (a : Int) (ha0 : 0 ≤ a) (ha1 : a < 65536) (w : World) :
    Calls Try.prog 13 #[.int .u16 a] w fun e w' => e = .returned (.int .i64 (oVal a)) ∧ w = w' := by
  go_enter Try.func13, Try.ntmps13
  go_wp2_with (first | (go_at_call 48; refine (low_any _ (by omega) (by omega) _).mono ?_; rintro e w' ⟨rfl, rfl⟩))
  all_goals go_ret
  all_goals exact ⟨ret_int (by (try simp only [beq_iff_eq, beq_eq_false_iff_ne, ne_eq, IntKind.wrap_u16] at *); unfold oVal; first | rfl | omega | ((repeat (first | rw [if_pos (by omega)] | rw [if_neg (by omega)])); done) | ((repeat (first | rw [if_pos (by omega)] | rw [if_neg (by omega)])); omega)), rfl⟩

set_option maxHeartbeats 400000 in
theorem rValue_any (a : Int) (ha0 : 0 ≤ a) (ha1 : a < 65536) (w : World) :
    Calls Try.prog 14 #[.int .u16 a] w fun e w' => e = .returned (.int .i64 (oVal a)) ∧ w = w' := by
  go_enter Try.func14, Try.ntmps14
  go_wp2_with (first | (go_at_call 49; refine (rLow_any _ (by omega) (by omega) _).mono ?_; rintro e w' ⟨rfl, rfl⟩))
  all_goals go_ret
  all_goals exact ⟨ret_int (by (try simp only [beq_iff_eq, beq_eq_false_iff_ne, ne_eq, IntKind.wrap_u16] at *); unfold oVal; first | rfl | omega | ((repeat (first | rw [if_pos (by omega)] | rw [if_neg (by omega)])); done) | ((repeat (first | rw [if_pos (by omega)] | rw [if_neg (by omega)])); omega)), rfl⟩

set_option maxHeartbeats 400000 in
theorem Neg_any (a : Int) (ha0 : 0 ≤ a) (ha1 : a < 65536) (w : World) :
    Calls Try.prog 15 #[.int .u16 a] w fun e w' => e = .returned (.int .u16 (32767 - a % 32768)) ∧ w = w' := by
  go_enter Try.func15, Try.ntmps15
  go_wp2_with (first | (go_at_call 48; refine (low_any _ (by omega) (by omega) _).mono ?_; rintro e w' ⟨rfl, rfl⟩))
  all_goals go_ret
  all_goals exact ⟨ret_int (by first | rfl | omega), rfl⟩

set_option maxHeartbeats 400000 in
theorem rNeg_any (a : Int) (ha0 : 0 ≤ a) (ha1 : a < 65536) (w : World) :
    Calls Try.prog 16 #[.int .u16 a] w fun e w' => e = .returned (.int .u16 (32767 - a % 32768)) ∧ w = w' := by
  go_enter Try.func16, Try.ntmps16
  go_wp2_with (first | (go_at_call 49; refine (rLow_any _ (by omega) (by omega) _).mono ?_; rintro e w' ⟨rfl, rfl⟩))
  all_goals go_ret
  all_goals exact ⟨ret_int (by first | rfl | omega), rfl⟩

set_option maxHeartbeats 400000 in
theorem sumW_any (a : Int) (ha0 : 0 ≤ a) (ha1 : a < 32768) (b : Int) (hb0 : 0 ≤ b) (hb1 : b < 32768) (w : World) :
    Calls Try.prog 50 #[.int .u16 a, .int .u16 b, .int .u16 32767] w fun e w' => e = .returned (.int .u16 (if 32767 < a + b then a + b - 32767 else a + b)) ∧ w = w' := by
  go_enter Try.func50, Try.ntmps50
  go_wp2
  all_goals go_ret
  all_goals exact ⟨ret_int (by (try simp only [beq_iff_eq, beq_eq_false_iff_ne, ne_eq, IntKind.wrap_u16] at *); first | rfl | omega | ((repeat (first | rw [if_pos (by omega)] | rw [if_neg (by omega)])); done) | ((repeat (first | rw [if_pos (by omega)] | rw [if_neg (by omega)])); omega)), rfl⟩

set_option maxHeartbeats 400000 in
theorem sumA_any (a : Int) (ha0 : 0 ≤ a) (ha1 : a < 65536) (b : Int) (hb0 : 0 ≤ b) (hb1 : b < 65536) (w : World) :
    Calls Try.prog 51 #[.int .u16 a, .int .u16 b, .int .u16 65535] w fun e w' => e = .returned (.int .u16 (oAddA a b)) ∧ w = w' := by
  go_enter Try.func51, Try.ntmps51
  go_wp2
  all_goals go_ret
  all_goals exact ⟨ret_int (by (try simp only [beq_iff_eq, beq_eq_false_iff_ne, ne_eq, IntKind.wrap_u16] at *); unfold oAddA; first | rfl | omega | ((repeat (first | rw [if_pos (by omega)] | rw [if_neg (by omega)])); done) | ((repeat (first | rw [if_pos (by omega)] | rw [if_neg (by omega)])); omega)), rfl⟩

set_option maxHeartbeats 400000 in
theorem Add_any (a : Int) (ha0 : 0 ≤ a) (ha1 : a < 65536) (b : Int) (hb0 : 0 ≤ b) (hb1 : b < 65536) (w : World) :
    Calls Try.prog 17 #[.int .u16 a, .int .u16 b] w fun e w' => e = .returned (.int .u16 (oAdd a b)) ∧ w = w' := by
  go_enter Try.func17, Try.ntmps17
  go_wp2_with (first | (go_at_call 48; refine (low_any _ (by omega) (by omega) _).mono ?_; rintro e w' ⟨rfl, rfl⟩) | (go_at_call 50; refine (sumW_any _ (by omega) (by omega) _ (by omega) (by omega) _).mono ?_; rintro e w' ⟨rfl, rfl⟩))
  all_goals go_ret
  all_goals exact ⟨ret_int (by (try simp only [beq_iff_eq, beq_eq_false_iff_ne, ne_eq, IntKind.wrap_u16] at *); unfold oAdd; first | rfl | omega | ((repeat (first | rw [if_pos (by omega)] | rw [if_neg (by omega)])); done) | ((repeat (first | rw [if_pos (by omega)] | rw [if_neg (by omega)])); omega)), rfl⟩

set_option maxHeartbeats 400000 in
theorem rAdd_any (a : Int) (ha0 : 0 ≤ a) (ha1 : a < 65536) (b : Int) (hb0 : 0 ≤ b) (hb1 : b < 65536) (w : World) :
    Calls Try.prog 18 #[.int .u16 a, .int .u16 b] w fun e w' => e = .returned (.int .u16 (oAdd a b)) ∧ w = w' := by
  go_enter Try.func18, Try.ntmps18
  go_wp2_with (first | (go_at_call 49; refine (rLow_any _ (by omega) (by omega) _).mono ?_; rintro e w' ⟨rfl, rfl⟩))
  all_goals go_ret
  all_goals exact ⟨ret_int (by (try simp only [beq_iff_eq, beq_eq_false_iff_ne, ne_eq, IntKind.wrap_u16] at *); unfold oAdd; first | rfl | omega | ((repeat (first | rw [if_pos (by omega)] | rw [if_neg (by omega)])); done) | ((repeat (first | rw [if_pos (by omega)] | rw [if_neg (by omega)])); omega)), rfl⟩

set_option maxHeartbeats 400000 in
theorem Extend_any (a : Int) (ha0 : 0 ≤ a) (ha1 : a < 65536) (w : World) :
    Calls Try.prog 20 #[.int .u16 a] w fun e w' => e = .returned (.int .u16 (oExt a)) ∧ w = w' := by
  have hb := andBit14 a ha0 ha1
  have hc := or_join' 15 (a / 16384 % 2 * 16384 * 2) (a % 32768) (by omega) (by omega) (by omega) (by omega) (by omega) (by omega)
  go_enter Try.func20, Try.ntmps20
  go_wp2_with (first | (go_at_call 48; refine (low_any _ (by omega) (by omega) _).mono ?_; rintro e w' ⟨rfl, rfl⟩))
  all_goals go_ret
  all_goals exact ⟨ret_int (by (try simp only [beq_iff_eq, beq_eq_false_iff_ne, ne_eq, IntKind.wrap_u16] at *); unfold oExt; first | rfl | omega | ((repeat (first | rw [if_pos (by omega)] | rw [if_neg (by omega)])); done) | ((repeat (first | rw [if_pos (by omega)] | rw [if_neg (by omega)])); omega)), rfl⟩

set_option maxHeartbeats 400000 in
theorem rExtend_any (a : Int) (ha0 : 0 ≤ a) (ha1 : a < 65536) (w : World) :
    Calls Try.prog 21 #[.int .u16 a] w fun e w' => e = .returned (.int .u16 (oExt a)) ∧ w = w' := by
  go_enter Try.func21, Try.ntmps21
  go_wp2_with (first | (go_at_call 49; refine (rLow_any _ (by omega) (by omega) _).mono ?_; rintro e w' ⟨rfl, rfl⟩))
  all_goals go_ret
  all_goals exact ⟨ret_int (by (try simp only [beq_iff_eq, beq_eq_false_iff_ne, ne_eq, IntKind.wrap_u16] at *); unfold oExt; first | rfl | omega | ((repeat (first | rw [if_pos (by omega)] | rw [if_neg (by omega)])); done) | ((repeat (first | rw [if_pos (by omega)] | rw [if_neg (by omega)])); omega)), rfl⟩

set_option maxHeartbeats 400000 in
theorem AddAcc_any (a : Int) (ha0 : 0 ≤ a) (ha1 : a < 65536) (b : Int) (hb0 : 0 ≤ b) (hb1 : b < 65536) (w : World) :
    Calls Try.prog 22 #[.int .u16 a, .int .u16 b] w fun e w' => e = .returned (.int .u16 (oAddA a b)) ∧ w = w' := by
  go_enter Try.func22, Try.ntmps22
  go_wp2_with (first | (go_at_call 51; refine (sumA_any _ (by omega) (by omega) _ (by omega) (by omega) _).mono ?_; rintro e w' ⟨rfl, rfl⟩))
  all_goals go_ret
  all_goals exact ⟨ret_int (by first | rfl | omega), rfl⟩

set_option maxHeartbeats 400000 in
theorem rAddAcc_any (a : Int) (ha0 : 0 ≤ a) (ha1 : a < 65536) (b : Int) (hb0 : 0 ≤ b) (hb1 : b < 65536) (w : World) :
    Calls Try.prog 23 #[.int .u16 a, .int .u16 b] w fun e w' => e = .returned (.int .u16 (oAddA a b)) ∧ w = w' := by
  go_enter Try.func23, Try.ntmps23
  go_wp2
  all_goals go_ret
  all_goals exact ⟨ret_int (by (try simp only [beq_iff_eq, beq_eq_false_iff_ne, ne_eq, IntKind.wrap_u16] at *); unfold oAddA; first | rfl | omega | ((repeat (first | rw [if_pos (by omega)] | rw [if_neg (by omega)])); done) | ((repeat (first | rw [if_pos (by omega)] | rw [if_neg (by omega)])); omega)), rfl⟩

set_option maxHeartbeats 400000 in
theorem NegAcc_any (a : Int) (ha0 : 0 ≤ a) (ha1 : a < 65536) (w : World) :
    Calls Try.prog 24 #[.int .u16 a] w fun e w' => e = .returned (.int .u16 (65535 - a)) ∧ w = w' := by
  go_enter Try.func24, Try.ntmps24
  go_wp2
  all_goals go_ret
  all_goals exact ⟨ret_int (by first | rfl | omega), rfl⟩

set_option maxHeartbeats 400000 in
theorem rNegAcc_any (a : Int) (ha0 : 0 ≤ a) (ha1 : a < 65536) (w : World) :
    Calls Try.prog 25 #[.int .u16 a] w fun e w' => e = .returned (.int .u16 (65535 - a)) ∧ w = w' := by
  go_enter Try.func25, Try.ntmps25
  go_wp2
  all_goals go_ret
  all_goals exact ⟨ret_int (by first | rfl | omega), rfl⟩

set_option maxHeartbeats 400000 in
theorem Overflow_any (a : Int) (ha0 : 0 ≤ a) (ha1 : a < 65536) (w : World) :
    Calls Try.prog 26 #[.int .u16 a] w fun e w' => e = .returned (.int .i64 (oOver a)) ∧ w = w' := by
  have hb := andSigns a ha0 ha1
  go_enter Try.func26, Try.ntmps26
  go_wp2
  all_goals go_ret
  all_goals exact ⟨ret_int (by (try simp only [beq_iff_eq, beq_eq_false_iff_ne, ne_eq, IntKind.wrap_u16] at *); unfold oOver; first | rfl | omega | ((repeat (first | rw [if_pos (by omega)] | rw [if_neg (by omega)])); done) | ((repeat (first | rw [if_pos (by omega)] | rw [if_neg (by omega)])); omega)), rfl⟩

set_option maxHeartbeats 400000 in
theorem rOverflow_any (a : Int) (ha0 : 0 ≤ a) (ha1 : a < 65536) (w : World) :
    Calls Try.prog 27 #[.int .u16 a] w fun e w' => e = .returned (.int .i64 (oOver a)) ∧ w = w' := by
  go_enter Try.func27, Try.ntmps27
  go_wp2
  all_goals go_ret
  all_goals exact ⟨ret_int (by (try simp only [beq_iff_eq, beq_eq_false_iff_ne, ne_eq, IntKind.wrap_u16] at *); unfold oOver; first | rfl | omega | ((repeat (first | rw [if_pos (by omega)] | rw [if_neg (by omega)])); done) | ((repeat (first | rw [if_pos (by omega)] | rw [if_neg (by omega)])); omega)), rfl⟩

set_option maxHeartbeats 400000 in
theorem Correct_any (a : Int) (ha0 : 0 ≤ a) (ha1 : a < 65536) (w : World) :
    Calls Try.prog 28 #[.int .u16 a] w fun e w' => e = .returned (.int .u16 (oCorr a)) ∧ w = w' := by
  have hb := andBit15 a ha0 ha1
  have hc := and14 a ha0 ha1
  have hd := or_join 14 (a / 32768 * 32768 / 2) (a % 16384) (by omega) (by omega) (by omega) (by omega) (by omega) (by omega)
  go_enter Try.func28, Try.ntmps28
  go_wp2
  all_goals go_ret
  all_goals exact ⟨ret_int (by (try simp only [beq_iff_eq, beq_eq_false_iff_ne, ne_eq, IntKind.wrap_u16] at *); unfold oCorr; first | rfl | omega | ((repeat (first | rw [if_pos (by omega)] | rw [if_neg (by omega)])); done) | ((repeat (first | rw [if_pos (by omega)] | rw [if_neg (by omega)])); omega)), rfl⟩

set_option maxHeartbeats 400000 in
theorem rCorrect_any (a : Int) (ha0 : 0 ≤ a) (ha1 : a < 65536) (w : World) :
    Calls Try.prog 29 #[.int .u16 a] w fun e w' => e = .returned (.int .u16 (oCorr a)) ∧ w = w' := by
  go_enter Try.func29, Try.ntmps29
  go_wp2
  all_goals go_ret
  all_goals exact ⟨ret_int (by (try simp only [beq_iff_eq, beq_eq_false_iff_ne, ne_eq, IntKind.wrap_u16] at *); unfold oCorr; first | rfl | omega | ((repeat (first | rw [if_pos (by omega)] | rw [if_neg (by omega)])); done) | ((repeat (first | rw [if_pos (by omega)] | rw [if_neg (by omega)])); omega)), rfl⟩

set_option maxHeartbeats 400000 in
theorem Class_any (a : Int) (ha0 : 0 ≤ a) (ha1 : a < 65536) (w : World) :
    Calls Try.prog 30 #[.int .u16 a] w fun e w' => e = .returned (.int .i64 (oClass a)) ∧ w = w' := by
  go_enter Try.func30, Try.ntmps30
  go_wp2
  all_goals go_ret
  all_goals exact ⟨ret_int (by (try simp only [beq_iff_eq, beq_eq_false_iff_ne, ne_eq, IntKind.wrap_u16] at *); unfold oClass; first | rfl | omega | ((repeat (first | rw [if_pos (by omega)] | rw [if_neg (by omega)])); done) | ((repeat (first | rw [if_pos (by omega)] | rw [if_neg (by omega)])); omega)), rfl⟩

set_option maxHeartbeats 400000 in
theorem rClass_any (a : Int) (ha0 : 0 ≤ a) (ha1 : a < 65536) (w : World) :
    Calls Try.prog 31 #[.int .u16 a] w fun e w' => e = .returned (.int .i64 (oClass a)) ∧ w = w' := by
  go_enter Try.func31, Try.ntmps31
  go_wp2
  all_goals go_ret
  all_goals exact ⟨ret_int (by (try simp only [beq_iff_eq, beq_eq_false_iff_ne, ne_eq, IntKind.wrap_u16] at *); unfold oClass; first | rfl | omega | ((repeat (first | rw [if_pos (by omega)] | rw [if_neg (by omega)])); done) | ((repeat (first | rw [if_pos (by omega)] | rw [if_neg (by omega)])); omega)), rfl⟩

set_option maxHeartbeats 400000 in
theorem Diminish_any (a : Int) (ha0 : 0 ≤ a) (ha1 : a < 65536) (w : World) :
    Calls Try.prog 32 #[.int .u16 a] w fun e w' => e = .returned (.int .u16 (oDim a)) ∧ w = w' := by
  go_enter Try.func32, Try.ntmps32
  go_wp2
  all_goals go_ret
  all_goals exact ⟨ret_int (by (try simp only [beq_iff_eq, beq_eq_false_iff_ne, ne_eq, IntKind.wrap_u16] at *); unfold oDim; first | rfl | omega | ((repeat (first | rw [if_pos (by omega)] | rw [if_neg (by omega)])); done) | ((repeat (first | rw [if_pos (by omega)] | rw [if_neg (by omega)])); omega)), rfl⟩

set_option maxHeartbeats 400000 in
theorem rDiminish_any (a : Int) (ha0 : 0 ≤ a) (ha1 : a < 65536) (w : World) :
    Calls Try.prog 33 #[.int .u16 a] w fun e w' => e = .returned (.int .u16 (oDim a)) ∧ w = w' := by
  go_enter Try.func33, Try.ntmps33
  go_wp2
  all_goals go_ret
  all_goals exact ⟨ret_int (by (try simp only [beq_iff_eq, beq_eq_false_iff_ne, ne_eq, IntKind.wrap_u16] at *); unfold oDim; first | rfl | omega | ((repeat (first | rw [if_pos (by omega)] | rw [if_neg (by omega)])); done) | ((repeat (first | rw [if_pos (by omega)] | rw [if_neg (by omega)])); omega)), rfl⟩

set_option maxHeartbeats 400000 in
theorem CycleRight_any (a : Int) (ha0 : 0 ≤ a) (ha1 : a < 65536) (w : World) :
    Calls Try.prog 34 #[.int .u16 a] w fun e w' => e = .returned (.int .u16 (oCyR a)) ∧ w = w' := by
  have hb := and1 a ha0 ha1
  have hd := or_join' 14 (a % 2 * 16384) (a % 32768 / 2) (by omega) (by omega) (by omega) (by omega) (by omega) (by omega)
  go_enter Try.func34, Try.ntmps34
  go_wp2_with (first | (go_at_call 48; refine (low_any _ (by omega) (by omega) _).mono ?_; rintro e w' ⟨rfl, rfl⟩))
  all_goals go_ret
  all_goals exact ⟨ret_int (by (try simp only [beq_iff_eq, beq_eq_false_iff_ne, ne_eq, IntKind.wrap_u16] at *); unfold oCyR; first | rfl | omega | ((repeat (first | rw [if_pos (by omega)] | rw [if_neg (by omega)])); done) | ((repeat (first | rw [if_pos (by omega)] | rw [if_neg (by omega)])); omega)), rfl⟩

set_option maxHeartbeats 400000 in
theorem rCycleRight_any (a : Int) (ha0 : 0 ≤ a) (ha1 : a < 65536) (w : World) :
    Calls Try.prog 35 #[.int .u16 a] w fun e w' => e = .returned (.int .u16 (oCyR a)) ∧ w = w' := by
  go_enter Try.func35, Try.ntmps35
  go_wp2_with (first | (go_at_call 49; refine (rLow_any _ (by omega) (by omega) _).mono ?_; rintro e w' ⟨rfl, rfl⟩))
  all_goals go_ret
  all_goals exact ⟨ret_int (by (try simp only [beq_iff_eq, beq_eq_false_iff_ne, ne_eq, IntKind.wrap_u16] at *); unfold oCyR; first | rfl | omega | ((repeat (first | rw [if_pos (by omega)] | rw [if_neg (by omega)])); done) | ((repeat (first | rw [if_pos (by omega)] | rw [if_neg (by omega)])); omega)), rfl⟩

set_option maxHeartbeats 400000 in
theorem CycleLeft_any (a : Int) (ha0 : 0 ≤ a) (ha1 : a < 65536) (w : World) :
    Calls Try.prog 36 #[.int .u16 a] w fun e w' => e = .returned (.int .u16 (oCyL a)) ∧ w = w' := by
  have hb := andBit14 a ha0 ha1
  have k1 : a * 2 % 32768 = a % 16384 * 2 := by omega
  have hd : bits .or .u16 (a % 16384 * 2) (a / 16384 % 2) = a % 16384 * 2 + a / 16384 % 2 := or_join 1 _ _ (by omega) (by omega) (by omega) (by omega) (by omega) (by omega)
  have hw : IntKind.u16.wrap (a * 2) = a * 2 % 65536 := IntKind.wrap_u16 _
  go_enter Try.func36, Try.ntmps36
  go_wp2_with (first | (go_at_call 48; refine (low_any _ (by omega) (by omega) _).mono ?_; rintro e w' ⟨rfl, rfl⟩))
  all_goals go_ret
  all_goals exact ⟨ret_int (by (try simp only [beq_iff_eq, beq_eq_false_iff_ne, ne_eq, IntKind.wrap_u16] at *); unfold oCyL; first | rfl | omega | ((repeat (first | rw [if_pos (by omega)] | rw [if_neg (by omega)])); done) | ((repeat (first | rw [if_pos (by omega)] | rw [if_neg (by omega)])); omega)), rfl⟩

set_option maxHeartbeats 400000 in
theorem rCycleLeft_any (a : Int) (ha0 : 0 ≤ a) (ha1 : a < 65536) (w : World) :
    Calls Try.prog 37 #[.int .u16 a] w fun e w' => e = .returned (.int .u16 (oCyL a)) ∧ w = w' := by
  go_enter Try.func37, Try.ntmps37
  go_wp2_with (first | (go_at_call 49; refine (rLow_any _ (by omega) (by omega) _).mono ?_; rintro e w' ⟨rfl, rfl⟩))
  all_goals go_ret
  all_goals exact ⟨ret_int (by (try simp only [beq_iff_eq, beq_eq_false_iff_ne, ne_eq, IntKind.wrap_u16] at *); unfold oCyL; first | rfl | omega | ((repeat (first | rw [if_pos (by omega)] | rw [if_neg (by omega)])); done) | ((repeat (first | rw [if_pos (by omega)] | rw [if_neg (by omega)])); omega)), rfl⟩

set_option maxHeartbeats 400000 in
theorem ShiftRight_any (a : Int) (ha0 : 0 ≤ a) (ha1 : a < 65536) (w : World) :
    Calls Try.prog 38 #[.int .u16 a] w fun e w' => e = .returned (.int .u16 (oShR a)) ∧ w = w' := by
  have hb := andBit14 a ha0 ha1
  have hd := or_join' 14 (a / 16384 % 2 * 16384) (a % 32768 / 2) (by omega) (by omega) (by omega) (by omega) (by omega) (by omega)
  go_enter Try.func38, Try.ntmps38
  go_wp2_with (first | (go_at_call 48; refine (low_any _ (by omega) (by omega) _).mono ?_; rintro e w' ⟨rfl, rfl⟩))
  all_goals go_ret
  all_goals exact ⟨ret_int (by (try simp only [beq_iff_eq, beq_eq_false_iff_ne, ne_eq, IntKind.wrap_u16] at *); unfold oShR; first | rfl | omega | ((repeat (first | rw [if_pos (by omega)] | rw [if_neg (by omega)])); done) | ((repeat (first | rw [if_pos (by omega)] | rw [if_neg (by omega)])); omega)), rfl⟩

set_option maxHeartbeats 400000 in
theorem rShiftRight_any (a : Int) (ha0 : 0 ≤ a) (ha1 : a < 65536) (w : World) :
    Calls Try.prog 39 #[.int .u16 a] w fun e w' => e = .returned (.int .u16 (oShR a)) ∧ w = w' := by
  go_enter Try.func39, Try.ntmps39
  go_wp2_with (first | (go_at_call 49; refine (rLow_any _ (by omega) (by omega) _).mono ?_; rintro e w' ⟨rfl, rfl⟩))
  all_goals go_ret
  all_goals exact ⟨ret_int (by (try simp only [beq_iff_eq, beq_eq_false_iff_ne, ne_eq, IntKind.wrap_u16] at *); unfold oShR; first | rfl | omega | ((repeat (first | rw [if_pos (by omega)] | rw [if_neg (by omega)])); done) | ((repeat (first | rw [if_pos (by omega)] | rw [if_neg (by omega)])); omega)), rfl⟩

set_option maxHeartbeats 400000 in
theorem Opcode_any (a : Int) (ha0 : 0 ≤ a) (ha1 : a < 65536) (w : World) :
    Calls Try.prog 40 #[.int .u16 a] w fun e w' => e = .returned (.int .u16 (oOp a)) ∧ w = w' := by
  have hb := and7 (a / 128) (by omega) (by omega)
  go_enter Try.func40, Try.ntmps40
  go_wp2
  all_goals go_ret
  all_goals exact ⟨ret_int (by (try simp only [beq_iff_eq, beq_eq_false_iff_ne, ne_eq, IntKind.wrap_u16] at *); unfold oOp; first | rfl | omega | ((repeat (first | rw [if_pos (by omega)] | rw [if_neg (by omega)])); done) | ((repeat (first | rw [if_pos (by omega)] | rw [if_neg (by omega)])); omega)), rfl⟩

set_option maxHeartbeats 400000 in
theorem rOpcode_any (a : Int) (ha0 : 0 ≤ a) (ha1 : a < 65536) (w : World) :
    Calls Try.prog 41 #[.int .u16 a] w fun e w' => e = .returned (.int .u16 (oOp a)) ∧ w = w' := by
  go_enter Try.func41, Try.ntmps41
  go_wp2_with (first | (go_at_call 49; refine (rLow_any _ (by omega) (by omega) _).mono ?_; rintro e w' ⟨rfl, rfl⟩))
  all_goals go_ret
  all_goals exact ⟨ret_int (by (try simp only [beq_iff_eq, beq_eq_false_iff_ne, ne_eq, IntKind.wrap_u16] at *); unfold oOp; first | rfl | omega | ((repeat (first | rw [if_pos (by omega)] | rw [if_neg (by omega)])); done) | ((repeat (first | rw [if_pos (by omega)] | rw [if_neg (by omega)])); omega)), rfl⟩

set_option maxHeartbeats 400000 in
theorem TwosDiff_any (a : Int) (ha0 : 0 ≤ a) (ha1 : a < 65536) (b : Int) (hb0 : 0 ≤ b) (hb1 : b < 65536) (w : World) :
    Calls Try.prog 44 #[.int .u16 a, .int .u16 b] w fun e w' => e = .returned (.int .u16 (oTwos a b)) ∧ w = w' := by
  have hw : IntKind.u16.wrap (a - b) = (a - b) % 65536 := IntKind.wrap_u16 _
  go_enter Try.func44, Try.ntmps44
  go_wp2_with (first | (go_at_call 48; refine (low_any _ (by omega) (by omega) _).mono ?_; rintro e w' ⟨rfl, rfl⟩))
  all_goals go_ret
  all_goals exact ⟨ret_int (by (try simp only [beq_iff_eq, beq_eq_false_iff_ne, ne_eq, IntKind.wrap_u16] at *); unfold oTwos; first | rfl | omega | ((repeat (first | rw [if_pos (by omega)] | rw [if_neg (by omega)])); done) | ((repeat (first | rw [if_pos (by omega)] | rw [if_neg (by omega)])); omega)), rfl⟩

set_option maxHeartbeats 400000 in
theorem rTwosDiff_any (a : Int) (ha0 : 0 ≤ a) (ha1 : a < 65536) (b : Int) (hb0 : 0 ≤ b) (hb1 : b < 65536) (w : World) :
    Calls Try.prog 45 #[.int .u16 a, .int .u16 b] w fun e w' => e = .returned (.int .u16 (oTwos a b)) ∧ w = w' := by
  go_enter Try.func45, Try.ntmps45
  go_wp2_with (first | (go_at_call 49; refine (rLow_any _ (by omega) (by omega) _).mono ?_; rintro e w' ⟨rfl, rfl⟩))
  all_goals go_ret
  all_goals exact ⟨ret_int (by (try simp only [beq_iff_eq, beq_eq_false_iff_ne, ne_eq, IntKind.wrap_u16] at *); unfold oTwos; first | rfl | omega | ((repeat (first | rw [if_pos (by omega)] | rw [if_neg (by omega)])); done) | ((repeat (first | rw [if_pos (by omega)] | rw [if_neg (by omega)])); omega)), rfl⟩

set_option maxHeartbeats 400000 in
theorem Of_any (n : Int) (hn0 : -9223372036854775808 ≤ n) (hn1 : n ≤ 9223372036854775807) (w : World) :
    Calls Try.prog 11 #[.int .i64 n] w fun e w' => e = .returned (.tuple #[.int .u16 (oOfW n), .int .i64 (oOfE n)]) ∧ w = w' := by
  by_cases c1 : n < -16383
  · go_enter Try.func11, Try.ntmps11
    go_wp2
    go_ret2
    exact ⟨ret_tup2 (by unfold oOfW; rw [if_pos (by omega)]) (by unfold oOfE; rw [if_pos (by omega)]), rfl⟩
  · by_cases c2 : 16383 < n
    · go_enter Try.func11, Try.ntmps11
      go_wp2
      go_ret2
      exact ⟨ret_tup2 (by unfold oOfW; rw [if_pos (by omega)]) (by unfold oOfE; rw [if_pos (by omega)]), rfl⟩
    · by_cases c3 : n < 0
      · go_enter Try.func11, Try.ntmps11
        go_wp2
        go_ret2
        exact ⟨ret_tup2 (by unfold oOfW; rw [if_neg (by omega), if_pos (by omega)]) (by unfold oOfE; rw [if_neg (by omega)]), rfl⟩
      · go_enter Try.func11, Try.ntmps11
        go_wp2
        go_ret2
        exact ⟨ret_tup2 (by unfold oOfW; rw [if_neg (by omega), if_neg (by omega)]) (by unfold oOfE; rw [if_neg (by omega)]), rfl⟩

set_option maxHeartbeats 400000 in
theorem rOf_any (n : Int) (hn0 : -9223372036854775808 ≤ n) (hn1 : n ≤ 9223372036854775807) (w : World) :
    Calls Try.prog 12 #[.int .i64 n] w fun e w' => e = .returned (.tuple #[.int .u16 (oOfW n), .int .i64 (oOfE n)]) ∧ w = w' := by
  by_cases c1 : n < -16383
  · go_enter Try.func12, Try.ntmps12
    go_wp2
    go_ret2
    exact ⟨ret_tup2 (by unfold oOfW; rw [if_pos (by omega)]) (by unfold oOfE; rw [if_pos (by omega)]), rfl⟩
  · by_cases c2 : 16383 < n
    · go_enter Try.func12, Try.ntmps12
      go_wp2
      go_ret2
      exact ⟨ret_tup2 (by unfold oOfW; rw [if_pos (by omega)]) (by unfold oOfE; rw [if_pos (by omega)]), rfl⟩
    · by_cases c3 : n < 0
      · go_enter Try.func12, Try.ntmps12
        go_wp2
        go_ret2
        exact ⟨ret_tup2 (by unfold oOfW; rw [if_neg (by omega), if_pos (by omega)]) (by unfold oOfE; rw [if_neg (by omega)]), rfl⟩
      · go_enter Try.func12, Try.ntmps12
        go_wp2
        go_ret2
        exact ⟨ret_tup2 (by unfold oOfW; rw [if_neg (by omega), if_neg (by omega)]) (by unfold oOfE; rw [if_neg (by omega)]), rfl⟩

end Go.Proofs.Ytdinjohalkllpaa
