/- Contracts of layer 1 (onescomp) and of its reference: what each function returns, as a function on integers. -/
import Derived.Test.YteongalbljdjlaaRows
import Derived.WalkKit
import Derived.ProofKit
import Derived.OpenShut
import Derived.Test.YteongalbljdjlaaBits
set_option linter.unusedSimpArgs false
set_option linter.unusedVariables false
namespace Go.Proofs.Yteongalbljdjlaa
open Go.ChangeShapes Go.WideShapes Go.ChangeAt Go.RowKit

/-! ### plain functions -/
def oVal (a : Int) : Int := if 16383 < a % 32768 then a % 32768 - 32767 else a % 32768
def oAdd (a b : Int) : Int := if 32767 < a % 32768 + b % 32768 then a % 32768 + b % 32768 - 32767 else a % 32768 + b % 32768
def oExt (a : Int) : Int := if 16383 < a % 32768 then a % 32768 + 32768 else a % 32768
def oAddA (a b : Int) : Int := if 65535 < a + b then a + b - 65535 else a + b
def oOver (a : Int) : Int := a / 16384 % 2 - a / 32768
def oCorr (a : Int) : Int := a / 32768 * 16384 + a % 16384
def oClass (a : Int) : Int := if a = 0 then 1 else if a = 65535 then 3 else if a ≤ 32767 then 0 else 2
def oDim (a : Int) : Int := if a = 0 ∨ a = 65535 then 0 else if a ≤ 32767 then a - 1 else 65534 - a
def oCyR (a : Int) : Int := a % 2 * 16384 + a % 32768 / 2
def oCyL (a : Int) : Int := a % 16384 * 2 + a / 16384 % 2
def oShR (a : Int) : Int := a % 32768 / 16384 * 16384 + a % 32768 / 2
def oOp (a : Int) : Int := a / 128 % 128
def oEdit (at_ a : Int) : Int := if at_ = 16 then oCyR a else if at_ = 17 then oShR a else if at_ = 18 then oCyL a else if at_ = 19 then oOp a else a % 32768
def oTwos (a b : Int) : Int := if 16384 < (a - b) % 32768 then (a - b) % 32768 - 1 else (a - b) % 32768
def oOfW (n : Int) : Int := if n < -16383 ∨ 16383 < n then 0 else if n < 0 then n + 32767 else n
def oOfE (n : Int) : Int := if n < -16383 ∨ 16383 < n then 3 else 0


set_option maxHeartbeats 400000 in
theorem low_any (a : Int) (ha0 : 0 ≤ a) (ha1 : a < 65536) (w : World) :
    Calls Try.prog 24 #[.int .u16 a] w fun e w' => e = .returned (.int .u16 (a % 32768)) ∧ w = w' := by
  have hb := and15 a ha0 ha1
  go_enter Try.func24, Try.ntmps24
  go_wp2
  all_goals go_ret
  all_goals exact ⟨ret_int (by first | rfl | omega), rfl⟩

set_option maxHeartbeats 400000 in
theorem rLow_any (a : Int) (ha0 : 0 ≤ a) (ha1 : a < 65536) (w : World) :
    Calls Try.prog 27 #[.int .u16 a] w fun e w' => e = .returned (.int .i64 (a % 32768)) ∧ w = w' := by
  go_enter Try.func27, Try.ntmps27
  go_wp2
  all_goals go_ret
  all_goals exact ⟨ret_int (by first | rfl | omega), rfl⟩

set_option maxHeartbeats 400000 in
theorem Value_any (a : Int) (ha0 : 0 ≤ a) (ha1 : a < 65536) (w : World) :
    Calls Try.prog 15 #[.int .u16 a] w fun e w' => e = .returned (.int .i64 (oVal a)) ∧ w = w' := by
  go_enter Try.func15, Try.ntmps15
  go_wp2_with (first | (go_at_call 24; refine (low_any _ (by omega) (by omega) _).mono ?_; rintro e w' ⟨rfl, rfl⟩))
  all_goals go_ret
  all_goals exact ⟨ret_int (by (try simp only [beq_iff_eq, beq_eq_false_iff_ne, ne_eq, IntKind.wrap_u16] at *); unfold oVal; first | rfl | omega | ((repeat (first | rw [if_pos (by omega)] | rw [if_neg (by omega)])); done) | ((repeat (first | rw [if_pos (by omega)] | rw [if_neg (by omega)])); omega)), rfl⟩

set_option maxHeartbeats 400000 in
theorem sumW_any (a : Int) (ha0 : 0 ≤ a) (ha1 : a < 32768) (b : Int) (hb0 : 0 ≤ b) (hb1 : b < 32768) (w : World) :
    Calls Try.prog 40 #[.int .u16 a, .int .u16 b, .int .u16 32767] w fun e w' => e = .returned (.int .u16 (if 32767 < a + b then a + b - 32767 else a + b)) ∧ w = w' := by
  go_enter Try.func40, Try.ntmps40
  go_wp2
  all_goals go_ret
  all_goals exact ⟨ret_int (by (try simp only [beq_iff_eq, beq_eq_false_iff_ne, ne_eq, IntKind.wrap_u16] at *); first | rfl | omega | ((repeat (first | rw [if_pos (by omega)] | rw [if_neg (by omega)])); done) | ((repeat (first | rw [if_pos (by omega)] | rw [if_neg (by omega)])); omega)), rfl⟩

set_option maxHeartbeats 400000 in
theorem Add_any (a : Int) (ha0 : 0 ≤ a) (ha1 : a < 65536) (b : Int) (hb0 : 0 ≤ b) (hb1 : b < 65536) (w : World) :
    Calls Try.prog 37 #[.int .u16 a, .int .u16 b] w fun e w' => e = .returned (.int .u16 (oAdd a b)) ∧ w = w' := by
  go_enter Try.func37, Try.ntmps37
  go_wp2_with (first | (go_at_call 24; refine (low_any _ (by omega) (by omega) _).mono ?_; rintro e w' ⟨rfl, rfl⟩) | (go_at_call 40; refine (sumW_any _ (by omega) (by omega) _ (by omega) (by omega) _).mono ?_; rintro e w' ⟨rfl, rfl⟩))
  all_goals go_ret
  all_goals exact ⟨ret_int (by (try simp only [beq_iff_eq, beq_eq_false_iff_ne, ne_eq, IntKind.wrap_u16] at *); unfold oAdd; first | rfl | omega | ((repeat (first | rw [if_pos (by omega)] | rw [if_neg (by omega)])); done) | ((repeat (first | rw [if_pos (by omega)] | rw [if_neg (by omega)])); omega)), rfl⟩

set_option maxHeartbeats 400000 in
theorem rAdd_any (a : Int) (ha0 : 0 ≤ a) (ha1 : a < 65536) (b : Int) (hb0 : 0 ≤ b) (hb1 : b < 65536) (w : World) :
    Calls Try.prog 28 #[.int .u16 a, .int .u16 b] w fun e w' => e = .returned (.int .u16 (oAdd a b)) ∧ w = w' := by
  go_enter Try.func28, Try.ntmps28
  go_wp2_with (first | (go_at_call 27; refine (rLow_any _ (by omega) (by omega) _).mono ?_; rintro e w' ⟨rfl, rfl⟩))
  all_goals go_ret
  all_goals exact ⟨ret_int (by (try simp only [beq_iff_eq, beq_eq_false_iff_ne, ne_eq, IntKind.wrap_u16] at *); unfold oAdd; first | rfl | omega | ((repeat (first | rw [if_pos (by omega)] | rw [if_neg (by omega)])); done) | ((repeat (first | rw [if_pos (by omega)] | rw [if_neg (by omega)])); omega)), rfl⟩

end Go.Proofs.Yteongalbljdjlaa
