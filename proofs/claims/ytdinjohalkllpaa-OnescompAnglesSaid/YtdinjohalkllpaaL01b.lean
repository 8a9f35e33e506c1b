/- Contracts of layer 1, the rest: Edit, and the helpers of its statements. -/
import Derived.Test.YtdinjohalkllpaaL01
import Derived.Test.YtdinjohalkllpaaBase
set_option linter.unusedSimpArgs false
set_option linter.unusedVariables false
namespace Go.Proofs.Ytdinjohalkllpaa
open Go.ChangeShapes Go.WideShapes Go.ChangeAt Go.RowKit

set_option maxHeartbeats 1000000 in
theorem editors_any (w : World) :
    Calls Try.prog 53 #[] w fun e w' => e = .returned (.agg #[Value.int IntKind.i64 16, Value.func (Fn.func 34) #[] #[], Value.int IntKind.i64 17, Value.func (Fn.func 38) #[] #[], Value.int IntKind.i64 18, Value.func (Fn.func 36) #[] #[], Value.int IntKind.i64 19, Value.func (Fn.func 40) #[] #[]]) ∧ Below w.heap.size w w' := by
  go_enter Try.func53, Try.ntmps53
  go_wp2
  go_returns
  exact ⟨rfl, by go_grown⟩
set_option maxHeartbeats 1000000 in
theorem Edit_16 (a : Int) (ha0 : 0 ≤ a) (ha1 : a < 65536) (w : World) :
    Calls Try.prog 42 #[.int .i64 16, .int .u16 a] w fun e w' => e = .returned (.int .u16 (oCyR a)) ∧ Below w.heap.size w w' := by
  have i0 : ∀ w, (Instr.index 54 (.agg #[Value.int IntKind.i64 16, Value.func (Fn.func 34) #[] #[], Value.int IntKind.i64 17, Value.func (Fn.func 38) #[] #[], Value.int IntKind.i64 18, Value.func (Fn.func 36) #[] #[], Value.int IntKind.i64 19, Value.func (Fn.func 40) #[] #[]]) (.int .i64 0)).run Try.prog w = .ok (.agg #[.int .i64 16, Value.func (Fn.func 34) #[] #[]]) w := fun _ => by kernel_rfl
  have i1 : ∀ w, (Instr.index 54 (.agg #[Value.int IntKind.i64 16, Value.func (Fn.func 34) #[] #[], Value.int IntKind.i64 17, Value.func (Fn.func 38) #[] #[], Value.int IntKind.i64 18, Value.func (Fn.func 36) #[] #[], Value.int IntKind.i64 19, Value.func (Fn.func 40) #[] #[]]) (.int .i64 1)).run Try.prog w = .ok (.agg #[.int .i64 17, Value.func (Fn.func 38) #[] #[]]) w := fun _ => by kernel_rfl
  have i2 : ∀ w, (Instr.index 54 (.agg #[Value.int IntKind.i64 16, Value.func (Fn.func 34) #[] #[], Value.int IntKind.i64 17, Value.func (Fn.func 38) #[] #[], Value.int IntKind.i64 18, Value.func (Fn.func 36) #[] #[], Value.int IntKind.i64 19, Value.func (Fn.func 40) #[] #[]]) (.int .i64 2)).run Try.prog w = .ok (.agg #[.int .i64 18, Value.func (Fn.func 36) #[] #[]]) w := fun _ => by kernel_rfl
  have i3 : ∀ w, (Instr.index 54 (.agg #[Value.int IntKind.i64 16, Value.func (Fn.func 34) #[] #[], Value.int IntKind.i64 17, Value.func (Fn.func 38) #[] #[], Value.int IntKind.i64 18, Value.func (Fn.func 36) #[] #[], Value.int IntKind.i64 19, Value.func (Fn.func 40) #[] #[]]) (.int .i64 3)).run Try.prog w = .ok (.agg #[.int .i64 19, Value.func (Fn.func 40) #[] #[]]) w := fun _ => by kernel_rfl
  go_enter Try.func42, Try.ntmps42
  go_wp2_with (first | (go_at_call 53; refine (editors_any _).mono ?_; rintro e w' ⟨rfl, hB⟩; have hz := hB.size; have HB := Lib.hid hB; clear hB))
  refine wp_loop_rounds 5 ?_
  rw [rounds_succ]; go_wp2_with (first | (go_at_call 34; refine (CycleRight_any _ (by omega) (by omega) _).mono ?_; rintro e w1 ⟨rfl, rfl⟩) | (go_at_call 38; refine (ShiftRight_any _ (by omega) (by omega) _).mono ?_; rintro e w1 ⟨rfl, rfl⟩) | (go_at_call 36; refine (CycleLeft_any _ (by omega) (by omega) _).mono ?_; rintro e w1 ⟨rfl, rfl⟩) | (go_at_call 40; refine (Opcode_any _ (by omega) (by omega) _).mono ?_; rintro e w1 ⟨rfl, rfl⟩) | (go_at_call 48; refine (low_any _ (by omega) (by omega) _).mono ?_; rintro e w1 ⟨rfl, rfl⟩))
  go_ret
  exact ⟨rfl, HB.out.trans (by repeat (first | exact Below.refl _ _ | (refine Below.alloc ?_ (by first | omega | (simp only [World.size_alloc]; omega)) _)))⟩
set_option maxHeartbeats 1000000 in
theorem Edit_17 (a : Int) (ha0 : 0 ≤ a) (ha1 : a < 65536) (w : World) :
    Calls Try.prog 42 #[.int .i64 17, .int .u16 a] w fun e w' => e = .returned (.int .u16 (oShR a)) ∧ Below w.heap.size w w' := by
  have i0 : ∀ w, (Instr.index 54 (.agg #[Value.int IntKind.i64 16, Value.func (Fn.func 34) #[] #[], Value.int IntKind.i64 17, Value.func (Fn.func 38) #[] #[], Value.int IntKind.i64 18, Value.func (Fn.func 36) #[] #[], Value.int IntKind.i64 19, Value.func (Fn.func 40) #[] #[]]) (.int .i64 0)).run Try.prog w = .ok (.agg #[.int .i64 16, Value.func (Fn.func 34) #[] #[]]) w := fun _ => by kernel_rfl
  have i1 : ∀ w, (Instr.index 54 (.agg #[Value.int IntKind.i64 16, Value.func (Fn.func 34) #[] #[], Value.int IntKind.i64 17, Value.func (Fn.func 38) #[] #[], Value.int IntKind.i64 18, Value.func (Fn.func 36) #[] #[], Value.int IntKind.i64 19, Value.func (Fn.func 40) #[] #[]]) (.int .i64 1)).run Try.prog w = .ok (.agg #[.int .i64 17, Value.func (Fn.func 38) #[] #[]]) w := fun _ => by kernel_rfl
  have i2 : ∀ w, (Instr.index 54 (.agg #[Value.int IntKind.i64 16, Value.func (Fn.func 34) #[] #[], Value.int IntKind.i64 17, Value.func (Fn.func 38) #[] #[], Value.int IntKind.i64 18, Value.func (Fn.func 36) #[] #[], Value.int IntKind.i64 19, Value.func (Fn.func 40) #[] #[]]) (.int .i64 2)).run Try.prog w = .ok (.agg #[.int .i64 18, Value.func (Fn.func 36) #[] #[]]) w := fun _ => by kernel_rfl
  have i3 : ∀ w, (Instr.index 54 (.agg #[Value.int IntKind.i64 16, Value.func (Fn.func 34) #[] #[], Value.int IntKind.i64 17, Value.func (Fn.func 38) #[] #[], Value.int IntKind.i64 18, Value.func (Fn.func 36) #[] #[], Value.int IntKind.i64 19, Value.func (Fn.func 40) #[] #[]]) (.int .i64 3)).run Try.prog w = .ok (.agg #[.int .i64 19, Value.func (Fn.func 40) #[] #[]]) w := fun _ => by kernel_rfl
  go_enter Try.func42, Try.ntmps42
  go_wp2_with (first | (go_at_call 53; refine (editors_any _).mono ?_; rintro e w' ⟨rfl, hB⟩; have hz := hB.size; have HB := Lib.hid hB; clear hB))
  refine wp_loop_rounds 5 ?_
  rw [rounds_succ]; go_wp2_with (first | (go_at_call 34; refine (CycleRight_any _ (by omega) (by omega) _).mono ?_; rintro e w1 ⟨rfl, rfl⟩) | (go_at_call 38; refine (ShiftRight_any _ (by omega) (by omega) _).mono ?_; rintro e w1 ⟨rfl, rfl⟩) | (go_at_call 36; refine (CycleLeft_any _ (by omega) (by omega) _).mono ?_; rintro e w1 ⟨rfl, rfl⟩) | (go_at_call 40; refine (Opcode_any _ (by omega) (by omega) _).mono ?_; rintro e w1 ⟨rfl, rfl⟩) | (go_at_call 48; refine (low_any _ (by omega) (by omega) _).mono ?_; rintro e w1 ⟨rfl, rfl⟩))
  rw [rounds_succ]; go_wp2_with (first | (go_at_call 34; refine (CycleRight_any _ (by omega) (by omega) _).mono ?_; rintro e w1 ⟨rfl, rfl⟩) | (go_at_call 38; refine (ShiftRight_any _ (by omega) (by omega) _).mono ?_; rintro e w1 ⟨rfl, rfl⟩) | (go_at_call 36; refine (CycleLeft_any _ (by omega) (by omega) _).mono ?_; rintro e w1 ⟨rfl, rfl⟩) | (go_at_call 40; refine (Opcode_any _ (by omega) (by omega) _).mono ?_; rintro e w1 ⟨rfl, rfl⟩) | (go_at_call 48; refine (low_any _ (by omega) (by omega) _).mono ?_; rintro e w1 ⟨rfl, rfl⟩))
  go_ret
  exact ⟨rfl, HB.out.trans (by repeat (first | exact Below.refl _ _ | (refine Below.alloc ?_ (by first | omega | (simp only [World.size_alloc]; omega)) _)))⟩
set_option maxHeartbeats 1000000 in
theorem Edit_18 (a : Int) (ha0 : 0 ≤ a) (ha1 : a < 65536) (w : World) :
    Calls Try.prog 42 #[.int .i64 18, .int .u16 a] w fun e w' => e = .returned (.int .u16 (oCyL a)) ∧ Below w.heap.size w w' := by
  have i0 : ∀ w, (Instr.index 54 (.agg #[Value.int IntKind.i64 16, Value.func (Fn.func 34) #[] #[], Value.int IntKind.i64 17, Value.func (Fn.func 38) #[] #[], Value.int IntKind.i64 18, Value.func (Fn.func 36) #[] #[], Value.int IntKind.i64 19, Value.func (Fn.func 40) #[] #[]]) (.int .i64 0)).run Try.prog w = .ok (.agg #[.int .i64 16, Value.func (Fn.func 34) #[] #[]]) w := fun _ => by kernel_rfl
  have i1 : ∀ w, (Instr.index 54 (.agg #[Value.int IntKind.i64 16, Value.func (Fn.func 34) #[] #[], Value.int IntKind.i64 17, Value.func (Fn.func 38) #[] #[], Value.int IntKind.i64 18, Value.func (Fn.func 36) #[] #[], Value.int IntKind.i64 19, Value.func (Fn.func 40) #[] #[]]) (.int .i64 1)).run Try.prog w = .ok (.agg #[.int .i64 17, Value.func (Fn.func 38) #[] #[]]) w := fun _ => by kernel_rfl
  have i2 : ∀ w, (Instr.index 54 (.agg #[Value.int IntKind.i64 16, Value.func (Fn.func 34) #[] #[], Value.int IntKind.i64 17, Value.func (Fn.func 38) #[] #[], Value.int IntKind.i64 18, Value.func (Fn.func 36) #[] #[], Value.int IntKind.i64 19, Value.func (Fn.func 40) #[] #[]]) (.int .i64 2)).run Try.prog w = .ok (.agg #[.int .i64 18, Value.func (Fn.func 36) #[] #[]]) w := fun _ => by kernel_rfl
  have i3 : ∀ w, (Instr.index 54 (.agg #[Value.int IntKind.i64 16, Value.func (Fn.func 34) #[] #[], Value.int IntKind.i64 17, Value.func (Fn.func 38) #[] #[], Value.int IntKind.i64 18, Value.func (Fn.func 36) #[] #[], Value.int IntKind.i64 19, Value.func (Fn.func 40) #[] #[]]) (.int .i64 3)).run Try.prog w = .ok (.agg #[.int .i64 19, Value.func (Fn.func 40) #[] #[]]) w := fun _ => by kernel_rfl
  go_enter Try.func42, Try.ntmps42
  go_wp2_with (first | (go_at_call 53; refine (editors_any _).mono ?_; rintro e w' ⟨rfl, hB⟩; have hz := hB.size; have HB := Lib.hid hB; clear hB))
  refine wp_loop_rounds 5 ?_
  rw [rounds_succ]; go_wp2_with (first | (go_at_call 34; refine (CycleRight_any _ (by omega) (by omega) _).mono ?_; rintro e w1 ⟨rfl, rfl⟩) | (go_at_call 38; refine (ShiftRight_any _ (by omega) (by omega) _).mono ?_; rintro e w1 ⟨rfl, rfl⟩) | (go_at_call 36; refine (CycleLeft_any _ (by omega) (by omega) _).mono ?_; rintro e w1 ⟨rfl, rfl⟩) | (go_at_call 40; refine (Opcode_any _ (by omega) (by omega) _).mono ?_; rintro e w1 ⟨rfl, rfl⟩) | (go_at_call 48; refine (low_any _ (by omega) (by omega) _).mono ?_; rintro e w1 ⟨rfl, rfl⟩))
  rw [rounds_succ]; go_wp2_with (first | (go_at_call 34; refine (CycleRight_any _ (by omega) (by omega) _).mono ?_; rintro e w1 ⟨rfl, rfl⟩) | (go_at_call 38; refine (ShiftRight_any _ (by omega) (by omega) _).mono ?_; rintro e w1 ⟨rfl, rfl⟩) | (go_at_call 36; refine (CycleLeft_any _ (by omega) (by omega) _).mono ?_; rintro e w1 ⟨rfl, rfl⟩) | (go_at_call 40; refine (Opcode_any _ (by omega) (by omega) _).mono ?_; rintro e w1 ⟨rfl, rfl⟩) | (go_at_call 48; refine (low_any _ (by omega) (by omega) _).mono ?_; rintro e w1 ⟨rfl, rfl⟩))
  rw [rounds_succ]; go_wp2_with (first | (go_at_call 34; refine (CycleRight_any _ (by omega) (by omega) _).mono ?_; rintro e w1 ⟨rfl, rfl⟩) | (go_at_call 38; refine (ShiftRight_any _ (by omega) (by omega) _).mono ?_; rintro e w1 ⟨rfl, rfl⟩) | (go_at_call 36; refine (CycleLeft_any _ (by omega) (by omega) _).mono ?_; rintro e w1 ⟨rfl, rfl⟩) | (go_at_call 40; refine (Opcode_any _ (by omega) (by omega) _).mono ?_; rintro e w1 ⟨rfl, rfl⟩) | (go_at_call 48; refine (low_any _ (by omega) (by omega) _).mono ?_; rintro e w1 ⟨rfl, rfl⟩))
  go_ret
  exact ⟨rfl, HB.out.trans (by repeat (first | exact Below.refl _ _ | (refine Below.alloc ?_ (by first | omega | (simp only [World.size_alloc]; omega)) _)))⟩
set_option maxHeartbeats 1000000 in
theorem Edit_19 (a : Int) (ha0 : 0 ≤ a) (ha1 : a < 65536) (w : World) :
    Calls Try.prog 42 #[.int .i64 19, .int .u16 a] w fun e w' => e = .returned (.int .u16 (oOp a)) ∧ Below w.heap.size w w' := by
  have i0 : ∀ w, (Instr.index 54 (.agg #[Value.int IntKind.i64 16, Value.func (Fn.func 34) #[] #[], Value.int IntKind.i64 17, Value.func (Fn.func 38) #[] #[], Value.int IntKind.i64 18, Value.func (Fn.func 36) #[] #[], Value.int IntKind.i64 19, Value.func (Fn.func 40) #[] #[]]) (.int .i64 0)).run Try.prog w = .ok (.agg #[.int .i64 16, Value.func (Fn.func 34) #[] #[]]) w := fun _ => by kernel_rfl
  have i1 : ∀ w, (Instr.index 54 (.agg #[Value.int IntKind.i64 16, Value.func (Fn.func 34) #[] #[], Value.int IntKind.i64 17, Value.func (Fn.func 38) #[] #[], Value.int IntKind.i64 18, Value.func (Fn.func 36) #[] #[], Value.int IntKind.i64 19, Value.func (Fn.func 40) #[] #[]]) (.int .i64 1)).run Try.prog w = .ok (.agg #[.int .i64 17, Value.func (Fn.func 38) #[] #[]]) w := fun _ => by kernel_rfl
  have i2 : ∀ w, (Instr.index 54 (.agg #[Value.int IntKind.i64 16, Value.func (Fn.func 34) #[] #[], Value.int IntKind.i64 17, Value.func (Fn.func 38) #[] #[], Value.int IntKind.i64 18, Value.func (Fn.func 36) #[] #[], Value.int IntKind.i64 19, Value.func (Fn.func 40) #[] #[]]) (.int .i64 2)).run Try.prog w = .ok (.agg #[.int .i64 18, Value.func (Fn.func 36) #[] #[]]) w := fun _ => by kernel_rfl
  have i3 : ∀ w, (Instr.index 54 (.agg #[Value.int IntKind.i64 16, Value.func (Fn.func 34) #[] #[], Value.int IntKind.i64 17, Value.func (Fn.func 38) #[] #[], Value.int IntKind.i64 18, Value.func (Fn.func 36) #[] #[], Value.int IntKind.i64 19, Value.func (Fn.func 40) #[] #[]]) (.int .i64 3)).run Try.prog w = .ok (.agg #[.int .i64 19, Value.func (Fn.func 40) #[] #[]]) w := fun _ => by kernel_rfl
  go_enter Try.func42, Try.ntmps42
  go_wp2_with (first | (go_at_call 53; refine (editors_any _).mono ?_; rintro e w' ⟨rfl, hB⟩; have hz := hB.size; have HB := Lib.hid hB; clear hB))
  refine wp_loop_rounds 5 ?_
  rw [rounds_succ]; go_wp2_with (first | (go_at_call 34; refine (CycleRight_any _ (by omega) (by omega) _).mono ?_; rintro e w1 ⟨rfl, rfl⟩) | (go_at_call 38; refine (ShiftRight_any _ (by omega) (by omega) _).mono ?_; rintro e w1 ⟨rfl, rfl⟩) | (go_at_call 36; refine (CycleLeft_any _ (by omega) (by omega) _).mono ?_; rintro e w1 ⟨rfl, rfl⟩) | (go_at_call 40; refine (Opcode_any _ (by omega) (by omega) _).mono ?_; rintro e w1 ⟨rfl, rfl⟩) | (go_at_call 48; refine (low_any _ (by omega) (by omega) _).mono ?_; rintro e w1 ⟨rfl, rfl⟩))
  rw [rounds_succ]; go_wp2_with (first | (go_at_call 34; refine (CycleRight_any _ (by omega) (by omega) _).mono ?_; rintro e w1 ⟨rfl, rfl⟩) | (go_at_call 38; refine (ShiftRight_any _ (by omega) (by omega) _).mono ?_; rintro e w1 ⟨rfl, rfl⟩) | (go_at_call 36; refine (CycleLeft_any _ (by omega) (by omega) _).mono ?_; rintro e w1 ⟨rfl, rfl⟩) | (go_at_call 40; refine (Opcode_any _ (by omega) (by omega) _).mono ?_; rintro e w1 ⟨rfl, rfl⟩) | (go_at_call 48; refine (low_any _ (by omega) (by omega) _).mono ?_; rintro e w1 ⟨rfl, rfl⟩))
  rw [rounds_succ]; go_wp2_with (first | (go_at_call 34; refine (CycleRight_any _ (by omega) (by omega) _).mono ?_; rintro e w1 ⟨rfl, rfl⟩) | (go_at_call 38; refine (ShiftRight_any _ (by omega) (by omega) _).mono ?_; rintro e w1 ⟨rfl, rfl⟩) | (go_at_call 36; refine (CycleLeft_any _ (by omega) (by omega) _).mono ?_; rintro e w1 ⟨rfl, rfl⟩) | (go_at_call 40; refine (Opcode_any _ (by omega) (by omega) _).mono ?_; rintro e w1 ⟨rfl, rfl⟩) | (go_at_call 48; refine (low_any _ (by omega) (by omega) _).mono ?_; rintro e w1 ⟨rfl, rfl⟩))
  rw [rounds_succ]; go_wp2_with (first | (go_at_call 34; refine (CycleRight_any _ (by omega) (by omega) _).mono ?_; rintro e w1 ⟨rfl, rfl⟩) | (go_at_call 38; refine (ShiftRight_any _ (by omega) (by omega) _).mono ?_; rintro e w1 ⟨rfl, rfl⟩) | (go_at_call 36; refine (CycleLeft_any _ (by omega) (by omega) _).mono ?_; rintro e w1 ⟨rfl, rfl⟩) | (go_at_call 40; refine (Opcode_any _ (by omega) (by omega) _).mono ?_; rintro e w1 ⟨rfl, rfl⟩) | (go_at_call 48; refine (low_any _ (by omega) (by omega) _).mono ?_; rintro e w1 ⟨rfl, rfl⟩))
  go_ret
  exact ⟨rfl, HB.out.trans (by repeat (first | exact Below.refl _ _ | (refine Below.alloc ?_ (by first | omega | (simp only [World.size_alloc]; omega)) _)))⟩
set_option maxHeartbeats 1000000 in
theorem Edit_else (n : Int) (hn0 : -9223372036854775808 ≤ n) (hn1 : n ≤ 9223372036854775807) (h : n ≠ 16 ∧ n ≠ 17 ∧ n ≠ 18 ∧ n ≠ 19) (a : Int) (ha0 : 0 ≤ a) (ha1 : a < 65536) (w : World) :
    Calls Try.prog 42 #[.int .i64 n, .int .u16 a] w fun e w' => e = .returned (.int .u16 (a % 32768)) ∧ Below w.heap.size w w' := by
  have i0 : ∀ w, (Instr.index 54 (.agg #[Value.int IntKind.i64 16, Value.func (Fn.func 34) #[] #[], Value.int IntKind.i64 17, Value.func (Fn.func 38) #[] #[], Value.int IntKind.i64 18, Value.func (Fn.func 36) #[] #[], Value.int IntKind.i64 19, Value.func (Fn.func 40) #[] #[]]) (.int .i64 0)).run Try.prog w = .ok (.agg #[.int .i64 16, Value.func (Fn.func 34) #[] #[]]) w := fun _ => by kernel_rfl
  have i1 : ∀ w, (Instr.index 54 (.agg #[Value.int IntKind.i64 16, Value.func (Fn.func 34) #[] #[], Value.int IntKind.i64 17, Value.func (Fn.func 38) #[] #[], Value.int IntKind.i64 18, Value.func (Fn.func 36) #[] #[], Value.int IntKind.i64 19, Value.func (Fn.func 40) #[] #[]]) (.int .i64 1)).run Try.prog w = .ok (.agg #[.int .i64 17, Value.func (Fn.func 38) #[] #[]]) w := fun _ => by kernel_rfl
  have i2 : ∀ w, (Instr.index 54 (.agg #[Value.int IntKind.i64 16, Value.func (Fn.func 34) #[] #[], Value.int IntKind.i64 17, Value.func (Fn.func 38) #[] #[], Value.int IntKind.i64 18, Value.func (Fn.func 36) #[] #[], Value.int IntKind.i64 19, Value.func (Fn.func 40) #[] #[]]) (.int .i64 2)).run Try.prog w = .ok (.agg #[.int .i64 18, Value.func (Fn.func 36) #[] #[]]) w := fun _ => by kernel_rfl
  have i3 : ∀ w, (Instr.index 54 (.agg #[Value.int IntKind.i64 16, Value.func (Fn.func 34) #[] #[], Value.int IntKind.i64 17, Value.func (Fn.func 38) #[] #[], Value.int IntKind.i64 18, Value.func (Fn.func 36) #[] #[], Value.int IntKind.i64 19, Value.func (Fn.func 40) #[] #[]]) (.int .i64 3)).run Try.prog w = .ok (.agg #[.int .i64 19, Value.func (Fn.func 40) #[] #[]]) w := fun _ => by kernel_rfl
  obtain ⟨e16, e17, e18, e19⟩ := h
  have f16 : (((16 : Int)) == n) = false := by rw [beq_eq_false_iff_ne]; omega
  have f17 : (((17 : Int)) == n) = false := by rw [beq_eq_false_iff_ne]; omega
  have f18 : (((18 : Int)) == n) = false := by rw [beq_eq_false_iff_ne]; omega
  have f19 : (((19 : Int)) == n) = false := by rw [beq_eq_false_iff_ne]; omega
  go_enter Try.func42, Try.ntmps42
  go_wp2_with (first | (go_at_call 53; refine (editors_any _).mono ?_; rintro e w' ⟨rfl, hB⟩; have hz := hB.size; have HB := Lib.hid hB; clear hB))
  refine wp_loop_rounds 5 ?_
  rw [rounds_succ]; go_wp2_with (first | (go_at_call 34; refine (CycleRight_any _ (by omega) (by omega) _).mono ?_; rintro e w1 ⟨rfl, rfl⟩) | (go_at_call 38; refine (ShiftRight_any _ (by omega) (by omega) _).mono ?_; rintro e w1 ⟨rfl, rfl⟩) | (go_at_call 36; refine (CycleLeft_any _ (by omega) (by omega) _).mono ?_; rintro e w1 ⟨rfl, rfl⟩) | (go_at_call 40; refine (Opcode_any _ (by omega) (by omega) _).mono ?_; rintro e w1 ⟨rfl, rfl⟩) | (go_at_call 48; refine (low_any _ (by omega) (by omega) _).mono ?_; rintro e w1 ⟨rfl, rfl⟩))
  rw [rounds_succ]; go_wp2_with (first | (go_at_call 34; refine (CycleRight_any _ (by omega) (by omega) _).mono ?_; rintro e w1 ⟨rfl, rfl⟩) | (go_at_call 38; refine (ShiftRight_any _ (by omega) (by omega) _).mono ?_; rintro e w1 ⟨rfl, rfl⟩) | (go_at_call 36; refine (CycleLeft_any _ (by omega) (by omega) _).mono ?_; rintro e w1 ⟨rfl, rfl⟩) | (go_at_call 40; refine (Opcode_any _ (by omega) (by omega) _).mono ?_; rintro e w1 ⟨rfl, rfl⟩) | (go_at_call 48; refine (low_any _ (by omega) (by omega) _).mono ?_; rintro e w1 ⟨rfl, rfl⟩))
  rw [rounds_succ]; go_wp2_with (first | (go_at_call 34; refine (CycleRight_any _ (by omega) (by omega) _).mono ?_; rintro e w1 ⟨rfl, rfl⟩) | (go_at_call 38; refine (ShiftRight_any _ (by omega) (by omega) _).mono ?_; rintro e w1 ⟨rfl, rfl⟩) | (go_at_call 36; refine (CycleLeft_any _ (by omega) (by omega) _).mono ?_; rintro e w1 ⟨rfl, rfl⟩) | (go_at_call 40; refine (Opcode_any _ (by omega) (by omega) _).mono ?_; rintro e w1 ⟨rfl, rfl⟩) | (go_at_call 48; refine (low_any _ (by omega) (by omega) _).mono ?_; rintro e w1 ⟨rfl, rfl⟩))
  rw [rounds_succ]; go_wp2_with (first | (go_at_call 34; refine (CycleRight_any _ (by omega) (by omega) _).mono ?_; rintro e w1 ⟨rfl, rfl⟩) | (go_at_call 38; refine (ShiftRight_any _ (by omega) (by omega) _).mono ?_; rintro e w1 ⟨rfl, rfl⟩) | (go_at_call 36; refine (CycleLeft_any _ (by omega) (by omega) _).mono ?_; rintro e w1 ⟨rfl, rfl⟩) | (go_at_call 40; refine (Opcode_any _ (by omega) (by omega) _).mono ?_; rintro e w1 ⟨rfl, rfl⟩) | (go_at_call 48; refine (low_any _ (by omega) (by omega) _).mono ?_; rintro e w1 ⟨rfl, rfl⟩))
  rw [rounds_succ]; go_wp2_with (first | (go_at_call 34; refine (CycleRight_any _ (by omega) (by omega) _).mono ?_; rintro e w1 ⟨rfl, rfl⟩) | (go_at_call 38; refine (ShiftRight_any _ (by omega) (by omega) _).mono ?_; rintro e w1 ⟨rfl, rfl⟩) | (go_at_call 36; refine (CycleLeft_any _ (by omega) (by omega) _).mono ?_; rintro e w1 ⟨rfl, rfl⟩) | (go_at_call 40; refine (Opcode_any _ (by omega) (by omega) _).mono ?_; rintro e w1 ⟨rfl, rfl⟩) | (go_at_call 48; refine (low_any _ (by omega) (by omega) _).mono ?_; rintro e w1 ⟨rfl, rfl⟩))
  go_ret
  exact ⟨rfl, HB.out.trans (by repeat (first | exact Below.refl _ _ | (refine Below.alloc ?_ (by first | omega | (simp only [World.size_alloc]; omega)) _)))⟩

theorem Edit_any (n : Int) (hn0 : -9223372036854775808 ≤ n) (hn1 : n ≤ 9223372036854775807) (a : Int) (ha0 : 0 ≤ a) (ha1 : a < 65536) (w : World) :
    Calls Try.prog 42 #[.int .i64 n, .int .u16 a] w fun e w' => e = .returned (.int .u16 (oEdit n a)) ∧ Below w.heap.size w w' := by
  by_cases h1 : n = 16
  · subst h1; exact Edit_16 a ha0 ha1 w
  · by_cases h2 : n = 17
    · subst h2; exact Edit_17 a ha0 ha1 w
    · by_cases h3 : n = 18
      · subst h3; exact Edit_18 a ha0 ha1 w
      · by_cases h4 : n = 19
        · subst h4; exact Edit_19 a ha0 ha1 w
        · have e : oEdit n a = a % 32768 := by unfold oEdit; rw [if_neg h1, if_neg h2, if_neg h3, if_neg h4]
          rw [e]; exact Edit_else n hn0 hn1 ⟨h1, h2, h3, h4⟩ a ha0 ha1 w
set_option maxHeartbeats 1000000 in
theorem rEdit_any (n : Int) (hn0 : -9223372036854775808 ≤ n) (hn1 : n ≤ 9223372036854775807) (a : Int) (ha0 : 0 ≤ a) (ha1 : a < 65536) (w : World) :
    Calls Try.prog 43 #[.int .i64 n, .int .u16 a] w fun e w' => e = .returned (.int .u16 (oEdit n a)) ∧ w = w' := by
  go_enter Try.func43, Try.ntmps43
  go_wp2_with (first | (go_at_call 35; refine (rCycleRight_any _ (by omega) (by omega) _).mono ?_; rintro e w1 ⟨rfl, rfl⟩) | (go_at_call 39; refine (rShiftRight_any _ (by omega) (by omega) _).mono ?_; rintro e w1 ⟨rfl, rfl⟩) | (go_at_call 37; refine (rCycleLeft_any _ (by omega) (by omega) _).mono ?_; rintro e w1 ⟨rfl, rfl⟩) | (go_at_call 41; refine (rOpcode_any _ (by omega) (by omega) _).mono ?_; rintro e w1 ⟨rfl, rfl⟩) | (go_at_call 49; refine (rLow_any _ (by omega) (by omega) _).mono ?_; rintro e w1 ⟨rfl, rfl⟩))
  all_goals go_ret
  all_goals exact ⟨ret_int (by (try simp only [beq_iff_eq, beq_eq_false_iff_ne, ne_eq] at *); unfold oEdit; repeat (first | rfl | rw [if_pos (by omega)] | rw [if_neg (by omega)])), rfl⟩

set_option maxHeartbeats 1000000 in
theorem words_same (ba bb : Nat) (n : Nat) (xs : Nat → Int) (hn : n ≤ 1000) (w : World) (ha : ∀ k, k < n → w.cell? ⟨ba, k, none⟩ = some (.int .u16 (xs k))) (hb : ∀ k, k < n → w.cell? ⟨bb, k, none⟩ = some (.int .u16 (xs k))) :
    Calls Try.prog 47 #[.slice (some ⟨ba, 0, none⟩) n n, .slice (some ⟨bb, 0, none⟩) n n] w fun e w' => e = .returned (.bool true) ∧ ∃ m, w' = w.drewN m := by
  have Ha := Lib.hid ha
  have Hb := Lib.hid hb
  clear ha hb
  go_enter Try.func47, Try.ntmps47
  go_wp2
  go_loopw [5] (fun i wr => ∃ k : Nat, k ≤ n ∧ i = .int .i64 k ∧ ∃ m, wr = w.drewN m) (fun i _ => n - (intOf i).toNat)
  case atStart => exact ⟨0, Nat.zero_le _, rfl, 0, rfl⟩
  case round =>
    obtain ⟨k, hk, rfl, m, rfl⟩ := hrel
    by_cases hlt : k < n
    · have ca := Ha.out k hlt
      have cb := Hb.out k hlt
      go_wp2
      go_quiet (fail)
      go_wp2
      go_roundw
      case rel => exact ⟨k + 1, by omega, by go_num, _, rfl⟩
      case measure => simp [intOf]; omega
    · go_wp2
      go_ret
      exact ⟨rfl, m, rfl⟩

set_option maxHeartbeats 1000000 in
theorem ints_same (ba bb : Nat) (n : Nat) (xs : Nat → Int) (hn : n ≤ 1000) (w : World) (ha : ∀ k, k < n → w.cell? ⟨ba, k, none⟩ = some (.int .i64 (xs k))) (hb : ∀ k, k < n → w.cell? ⟨bb, k, none⟩ = some (.int .i64 (xs k))) :
    Calls Try.prog 46 #[.slice (some ⟨ba, 0, none⟩) n n, .slice (some ⟨bb, 0, none⟩) n n] w fun e w' => e = .returned (.bool true) ∧ ∃ m, w' = w.drewN m := by
  have Ha := Lib.hid ha
  have Hb := Lib.hid hb
  clear ha hb
  go_enter Try.func46, Try.ntmps46
  go_wp2
  go_loopw [5] (fun i wr => ∃ k : Nat, k ≤ n ∧ i = .int .i64 k ∧ ∃ m, wr = w.drewN m) (fun i _ => n - (intOf i).toNat)
  case atStart => exact ⟨0, Nat.zero_le _, rfl, 0, rfl⟩
  case round =>
    obtain ⟨k, hk, rfl, m, rfl⟩ := hrel
    by_cases hlt : k < n
    · have ca := Ha.out k hlt
      have cb := Hb.out k hlt
      go_wp2
      go_quiet (fail)
      go_wp2
      go_roundw
      case rel => exact ⟨k + 1, by omega, by go_num, _, rfl⟩
      case measure => simp [intOf]; omega
    · go_wp2
      go_ret
      exact ⟨rfl, m, rfl⟩

theorem kd : oOfW (-1) = 32766 ∧ oOfE (-1) = 0 ∧ oOfE 16384 = 3 ∧ oAdd 5 32765 = 3 ∧ oAdd 32766 1 = 32767 ∧ oAdd 32766 2 = 1 ∧ oAdd 16383 1 = 16384 ∧ oCyR 5 = 16386 ∧ oCyL 16385 = 3 ∧ oShR 16386 = 24577 ∧ oOp 32767 = 127 ∧ oEdit 20 5 = 5 ∧ oTwos 3 5 = 32765 ∧ oClass 7 = 0 ∧ oClass 0 = 1 ∧ oClass 65530 = 2 ∧ oClass 65535 = 3 ∧ oOver 16384 = 1 ∧ oOver 49151 = -1 ∧ oDim 65530 = 4 := by decide
set_option maxHeartbeats 1000000 in
theorem works_any (w : World) :
    Calls Try.prog 19 #[] w fun e w' => e = .returned (.bool true) ∧ Below w.heap.size w w' := by
  obtain ⟨k1, k2, k3, k4, k5, k6, k7, k8, k9, k10, k11, k12, k13, k14, k15, k16, k17, k18, k19, k20⟩ := kd
  go_enter Try.func19, Try.ntmps19
  go_wp2_with (first | (go_at_call 11; refine (Of_any _ (by omega) (by omega) _).mono ?_; rintro e w1 ⟨rfl, rfl⟩) | (go_at_call 17; refine (Add_any _ (by omega) (by omega) _ (by omega) (by omega) _).mono ?_; rintro e w1 ⟨rfl, rfl⟩) | (go_at_call 15; refine (Neg_any _ (by omega) (by omega) _).mono ?_; rintro e w1 ⟨rfl, rfl⟩) | (go_at_call 34; refine (CycleRight_any _ (by omega) (by omega) _).mono ?_; rintro e w1 ⟨rfl, rfl⟩) | (go_at_call 36; refine (CycleLeft_any _ (by omega) (by omega) _).mono ?_; rintro e w1 ⟨rfl, rfl⟩) | (go_at_call 38; refine (ShiftRight_any _ (by omega) (by omega) _).mono ?_; rintro e w1 ⟨rfl, rfl⟩) | (go_at_call 40; refine (Opcode_any _ (by omega) (by omega) _).mono ?_; rintro e w1 ⟨rfl, rfl⟩) | (go_at_call 44; refine (TwosDiff_any _ (by omega) (by omega) _ (by omega) (by omega) _).mono ?_; rintro e w1 ⟨rfl, rfl⟩) | (go_at_call 30; refine (Class_any _ (by omega) (by omega) _).mono ?_; rintro e w1 ⟨rfl, rfl⟩) | (go_at_call 26; refine (Overflow_any _ (by omega) (by omega) _).mono ?_; rintro e w1 ⟨rfl, rfl⟩) | (go_at_call 42; refine (Edit_any _ (by omega) (by omega) _ (by omega) (by omega) _).mono ?_; rintro e w1 ⟨rfl, hb⟩; obtain ⟨hc, hf⟩ := bcell hb; have hz := hb.size; (try simp only [World.size_alloc, size_drewN] at hz hc hf); have hB := Lib.hid hb; clear hb))
  (refine (words_same _ _ 5 (fun k => [3, 32767, 1, 16384, 32767].getD k 0) (by omega) _ (by intro k hk; rcases k with _|_|_|_|_|k <;> first | omega | (simp [go_sem]; done) | (simp (disch := (first | omega | (simp; omega))) only [cell_old, hc]; simp [go_sem]; done)) (by intro k hk; rcases k with _|_|_|_|_|k <;> first | omega | (simp [go_sem]; done) | (simp (disch := (first | omega | (simp; omega))) only [cell_old, hc]; simp [go_sem]; done))).mono ?_; rintro e w2 ⟨rfl, m, rfl⟩)
  go_wp2_with fail
  (refine (words_same _ _ 6 (fun k => [16386, 3, 24577, 127, 5, 32765].getD k 0) (by omega) _ (by intro k hk; rcases k with _|_|_|_|_|_|k <;> first | omega | (simp [go_sem]; done) | (simp (disch := (first | omega | (simp; omega))) only [cell_old, hc]; simp [go_sem]; done)) (by intro k hk; rcases k with _|_|_|_|_|_|k <;> first | omega | (simp [go_sem]; done) | (simp (disch := (first | omega | (simp; omega))) only [cell_old, hc]; simp [go_sem]; done))).mono ?_; rintro e w2 ⟨rfl, m, rfl⟩)
  go_wp2_with fail
  (refine (ints_same _ _ 6 (fun k => [0, 1, 2, 3, 1, (-1)].getD k 0) (by omega) _ (by intro k hk; rcases k with _|_|_|_|_|_|k <;> first | omega | (simp [go_sem]; done) | (simp (disch := (first | omega | (simp; omega))) only [cell_old, hc]; simp [go_sem]; done)) (by intro k hk; rcases k with _|_|_|_|_|_|k <;> first | omega | (simp [go_sem]; done) | (simp (disch := (first | omega | (simp; omega))) only [cell_old, hc]; simp [go_sem]; done))).mono ?_; rintro e w2 ⟨rfl, m, rfl⟩)
  go_wp2_with (first | (go_at_call 32; refine (Diminish_any _ (by omega) (by omega) _).mono ?_; rintro e w1 ⟨rfl, rfl⟩))
  go_ret
  refine ⟨rfl, ?_⟩
  refine (((Below.refl _ w).alloc (Nat.le_refl _) _).trans (hB.out.mono (by simp))).trans ?_
  (repeat (first | exact Below.refl _ _ | apply below_drewN | (refine Below.alloc ?_ (by first | omega | (simp only [World.size_alloc, size_drewN]; omega)) _)))
end Go.Proofs.Ytdinjohalkllpaa
