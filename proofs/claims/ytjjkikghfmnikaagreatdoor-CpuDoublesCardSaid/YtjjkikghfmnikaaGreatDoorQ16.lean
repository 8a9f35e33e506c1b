/- Contracts of layer 1, the rest: Edit, and the helpers of its statements. -/
import Derived.Test.YtjjkikghfmnikaaGreatDoorQ01
import Derived.Test.YtjjkikghfmnikaaGreatDoorQ00
import Derived.Test.YtjjkikghfmnikaaGreatDoorQ15
set_option linter.unusedSimpArgs false
set_option linter.unusedVariables false
namespace Go.Proofs.YtjjkikghfmnikaaGreatDoor
open Go.ChangeShapes Go.WideShapes Go.ChangeAt Go.RowKit

set_option maxHeartbeats 1000000 in
theorem editors_any (w : World) :
    Calls Tryz.prog 198 #[] w fun e w' => e = .returned (.agg #[Value.int IntKind.i64 16, Value.func (Fn.func 199) #[] #[], Value.int IntKind.i64 17, Value.func (Fn.func 200) #[] #[], Value.int IntKind.i64 18, Value.func (Fn.func 201) #[] #[], Value.int IntKind.i64 19, Value.func (Fn.func 202) #[] #[]]) ∧ Below w.heap.size w w' := by
  go_enter Tryz.func198, Tryz.ntmps198
  go_wp2
  go_returns
  exact ⟨rfl, by go_grown⟩
set_option maxHeartbeats 1000000 in
theorem Edit_16 (a : Int) (ha0 : 0 ≤ a) (ha1 : a < 65536) (w : World) :
    Calls Tryz.prog 197 #[.int .i64 16, .int .u16 a] w fun e w' => e = .returned (.int .u16 (oCyR a)) ∧ Below w.heap.size w w' := by
  have i0 : ∀ w, (Instr.index 175 (.agg #[Value.int IntKind.i64 16, Value.func (Fn.func 199) #[] #[], Value.int IntKind.i64 17, Value.func (Fn.func 200) #[] #[], Value.int IntKind.i64 18, Value.func (Fn.func 201) #[] #[], Value.int IntKind.i64 19, Value.func (Fn.func 202) #[] #[]]) (.int .i64 0)).run Tryz.prog w = .ok (.agg #[.int .i64 16, Value.func (Fn.func 199) #[] #[]]) w := fun _ => by kernel_rfl
  have i1 : ∀ w, (Instr.index 175 (.agg #[Value.int IntKind.i64 16, Value.func (Fn.func 199) #[] #[], Value.int IntKind.i64 17, Value.func (Fn.func 200) #[] #[], Value.int IntKind.i64 18, Value.func (Fn.func 201) #[] #[], Value.int IntKind.i64 19, Value.func (Fn.func 202) #[] #[]]) (.int .i64 1)).run Tryz.prog w = .ok (.agg #[.int .i64 17, Value.func (Fn.func 200) #[] #[]]) w := fun _ => by kernel_rfl
  have i2 : ∀ w, (Instr.index 175 (.agg #[Value.int IntKind.i64 16, Value.func (Fn.func 199) #[] #[], Value.int IntKind.i64 17, Value.func (Fn.func 200) #[] #[], Value.int IntKind.i64 18, Value.func (Fn.func 201) #[] #[], Value.int IntKind.i64 19, Value.func (Fn.func 202) #[] #[]]) (.int .i64 2)).run Tryz.prog w = .ok (.agg #[.int .i64 18, Value.func (Fn.func 201) #[] #[]]) w := fun _ => by kernel_rfl
  have i3 : ∀ w, (Instr.index 175 (.agg #[Value.int IntKind.i64 16, Value.func (Fn.func 199) #[] #[], Value.int IntKind.i64 17, Value.func (Fn.func 200) #[] #[], Value.int IntKind.i64 18, Value.func (Fn.func 201) #[] #[], Value.int IntKind.i64 19, Value.func (Fn.func 202) #[] #[]]) (.int .i64 3)).run Tryz.prog w = .ok (.agg #[.int .i64 19, Value.func (Fn.func 202) #[] #[]]) w := fun _ => by kernel_rfl
  go_enter Tryz.func197, Tryz.ntmps197
  go_wp2_with (first | (go_at_call 198; refine (editors_any _).mono ?_; rintro e w' ⟨rfl, hB⟩; have hz := hB.size; have HB := Lib.hid hB; clear hB))
  refine wp_loop_rounds 5 ?_
  rw [rounds_succ]; go_wp2_with (first | (go_at_call 199; refine (CycleRight_any _ (by omega) (by omega) _).mono ?_; rintro e w1 ⟨rfl, rfl⟩) | (go_at_call 200; refine (ShiftRight_any _ (by omega) (by omega) _).mono ?_; rintro e w1 ⟨rfl, rfl⟩) | (go_at_call 201; refine (CycleLeft_any _ (by omega) (by omega) _).mono ?_; rintro e w1 ⟨rfl, rfl⟩) | (go_at_call 202; refine (Opcode_any _ (by omega) (by omega) _).mono ?_; rintro e w1 ⟨rfl, rfl⟩) | (go_at_call 63; refine (low_any _ (by omega) (by omega) _).mono ?_; rintro e w1 ⟨rfl, rfl⟩))
  go_ret
  exact ⟨rfl, HB.out.trans (by repeat (first | exact Below.refl _ _ | (refine Below.alloc ?_ (by first | omega | (simp only [World.size_alloc]; omega)) _)))⟩
set_option maxHeartbeats 1000000 in
theorem Edit_17 (a : Int) (ha0 : 0 ≤ a) (ha1 : a < 65536) (w : World) :
    Calls Tryz.prog 197 #[.int .i64 17, .int .u16 a] w fun e w' => e = .returned (.int .u16 (oShR a)) ∧ Below w.heap.size w w' := by
  have i0 : ∀ w, (Instr.index 175 (.agg #[Value.int IntKind.i64 16, Value.func (Fn.func 199) #[] #[], Value.int IntKind.i64 17, Value.func (Fn.func 200) #[] #[], Value.int IntKind.i64 18, Value.func (Fn.func 201) #[] #[], Value.int IntKind.i64 19, Value.func (Fn.func 202) #[] #[]]) (.int .i64 0)).run Tryz.prog w = .ok (.agg #[.int .i64 16, Value.func (Fn.func 199) #[] #[]]) w := fun _ => by kernel_rfl
  have i1 : ∀ w, (Instr.index 175 (.agg #[Value.int IntKind.i64 16, Value.func (Fn.func 199) #[] #[], Value.int IntKind.i64 17, Value.func (Fn.func 200) #[] #[], Value.int IntKind.i64 18, Value.func (Fn.func 201) #[] #[], Value.int IntKind.i64 19, Value.func (Fn.func 202) #[] #[]]) (.int .i64 1)).run Tryz.prog w = .ok (.agg #[.int .i64 17, Value.func (Fn.func 200) #[] #[]]) w := fun _ => by kernel_rfl
  have i2 : ∀ w, (Instr.index 175 (.agg #[Value.int IntKind.i64 16, Value.func (Fn.func 199) #[] #[], Value.int IntKind.i64 17, Value.func (Fn.func 200) #[] #[], Value.int IntKind.i64 18, Value.func (Fn.func 201) #[] #[], Value.int IntKind.i64 19, Value.func (Fn.func 202) #[] #[]]) (.int .i64 2)).run Tryz.prog w = .ok (.agg #[.int .i64 18, Value.func (Fn.func 201) #[] #[]]) w := fun _ => by kernel_rfl
  have i3 : ∀ w, (Instr.index 175 (.agg #[Value.int IntKind.i64 16, Value.func (Fn.func 199) #[] #[], Value.int IntKind.i64 17, Value.func (Fn.func 200) #[] #[], Value.int IntKind.i64 18, Value.func (Fn.func 201) #[] #[], Value.int IntKind.i64 19, Value.func (Fn.func 202) #[] #[]]) (.int .i64 3)).run Tryz.prog w = .ok (.agg #[.int .i64 19, Value.func (Fn.func 202) #[] #[]]) w := fun _ => by kernel_rfl
  go_enter Tryz.func197, Tryz.ntmps197
  go_wp2_with (first | (go_at_call 198; refine (editors_any _).mono ?_; rintro e w' ⟨rfl, hB⟩; have hz := hB.size; have HB := Lib.hid hB; clear hB))
  refine wp_loop_rounds 5 ?_
  rw [rounds_succ]; go_wp2_with (first | (go_at_call 199; refine (CycleRight_any _ (by omega) (by omega) _).mono ?_; rintro e w1 ⟨rfl, rfl⟩) | (go_at_call 200; refine (ShiftRight_any _ (by omega) (by omega) _).mono ?_; rintro e w1 ⟨rfl, rfl⟩) | (go_at_call 201; refine (CycleLeft_any _ (by omega) (by omega) _).mono ?_; rintro e w1 ⟨rfl, rfl⟩) | (go_at_call 202; refine (Opcode_any _ (by omega) (by omega) _).mono ?_; rintro e w1 ⟨rfl, rfl⟩) | (go_at_call 63; refine (low_any _ (by omega) (by omega) _).mono ?_; rintro e w1 ⟨rfl, rfl⟩))
  rw [rounds_succ]; go_wp2_with (first | (go_at_call 199; refine (CycleRight_any _ (by omega) (by omega) _).mono ?_; rintro e w1 ⟨rfl, rfl⟩) | (go_at_call 200; refine (ShiftRight_any _ (by omega) (by omega) _).mono ?_; rintro e w1 ⟨rfl, rfl⟩) | (go_at_call 201; refine (CycleLeft_any _ (by omega) (by omega) _).mono ?_; rintro e w1 ⟨rfl, rfl⟩) | (go_at_call 202; refine (Opcode_any _ (by omega) (by omega) _).mono ?_; rintro e w1 ⟨rfl, rfl⟩) | (go_at_call 63; refine (low_any _ (by omega) (by omega) _).mono ?_; rintro e w1 ⟨rfl, rfl⟩))
  go_ret
  exact ⟨rfl, HB.out.trans (by repeat (first | exact Below.refl _ _ | (refine Below.alloc ?_ (by first | omega | (simp only [World.size_alloc]; omega)) _)))⟩
set_option maxHeartbeats 1000000 in
theorem Edit_18 (a : Int) (ha0 : 0 ≤ a) (ha1 : a < 65536) (w : World) :
    Calls Tryz.prog 197 #[.int .i64 18, .int .u16 a] w fun e w' => e = .returned (.int .u16 (oCyL a)) ∧ Below w.heap.size w w' := by
  have i0 : ∀ w, (Instr.index 175 (.agg #[Value.int IntKind.i64 16, Value.func (Fn.func 199) #[] #[], Value.int IntKind.i64 17, Value.func (Fn.func 200) #[] #[], Value.int IntKind.i64 18, Value.func (Fn.func 201) #[] #[], Value.int IntKind.i64 19, Value.func (Fn.func 202) #[] #[]]) (.int .i64 0)).run Tryz.prog w = .ok (.agg #[.int .i64 16, Value.func (Fn.func 199) #[] #[]]) w := fun _ => by kernel_rfl
  have i1 : ∀ w, (Instr.index 175 (.agg #[Value.int IntKind.i64 16, Value.func (Fn.func 199) #[] #[], Value.int IntKind.i64 17, Value.func (Fn.func 200) #[] #[], Value.int IntKind.i64 18, Value.func (Fn.func 201) #[] #[], Value.int IntKind.i64 19, Value.func (Fn.func 202) #[] #[]]) (.int .i64 1)).run Tryz.prog w = .ok (.agg #[.int .i64 17, Value.func (Fn.func 200) #[] #[]]) w := fun _ => by kernel_rfl
  have i2 : ∀ w, (Instr.index 175 (.agg #[Value.int IntKind.i64 16, Value.func (Fn.func 199) #[] #[], Value.int IntKind.i64 17, Value.func (Fn.func 200) #[] #[], Value.int IntKind.i64 18, Value.func (Fn.func 201) #[] #[], Value.int IntKind.i64 19, Value.func (Fn.func 202) #[] #[]]) (.int .i64 2)).run Tryz.prog w = .ok (.agg #[.int .i64 18, Value.func (Fn.func 201) #[] #[]]) w := fun _ => by kernel_rfl
  have i3 : ∀ w, (Instr.index 175 (.agg #[Value.int IntKind.i64 16, Value.func (Fn.func 199) #[] #[], Value.int IntKind.i64 17, Value.func (Fn.func 200) #[] #[], Value.int IntKind.i64 18, Value.func (Fn.func 201) #[] #[], Value.int IntKind.i64 19, Value.func (Fn.func 202) #[] #[]]) (.int .i64 3)).run Tryz.prog w = .ok (.agg #[.int .i64 19, Value.func (Fn.func 202) #[] #[]]) w := fun _ => by kernel_rfl
  go_enter Tryz.func197, Tryz.ntmps197
  go_wp2_with (first | (go_at_call 198; refine (editors_any _).mono ?_; rintro e w' ⟨rfl, hB⟩; have hz := hB.size; have HB := Lib.hid hB; clear hB))
  refine wp_loop_rounds 5 ?_
  rw [rounds_succ]; go_wp2_with (first | (go_at_call 199; refine (CycleRight_any _ (by omega) (by omega) _).mono ?_; rintro e w1 ⟨rfl, rfl⟩) | (go_at_call 200; refine (ShiftRight_any _ (by omega) (by omega) _).mono ?_; rintro e w1 ⟨rfl, rfl⟩) | (go_at_call 201; refine (CycleLeft_any _ (by omega) (by omega) _).mono ?_; rintro e w1 ⟨rfl, rfl⟩) | (go_at_call 202; refine (Opcode_any _ (by omega) (by omega) _).mono ?_; rintro e w1 ⟨rfl, rfl⟩) | (go_at_call 63; refine (low_any _ (by omega) (by omega) _).mono ?_; rintro e w1 ⟨rfl, rfl⟩))
  rw [rounds_succ]; go_wp2_with (first | (go_at_call 199; refine (CycleRight_any _ (by omega) (by omega) _).mono ?_; rintro e w1 ⟨rfl, rfl⟩) | (go_at_call 200; refine (ShiftRight_any _ (by omega) (by omega) _).mono ?_; rintro e w1 ⟨rfl, rfl⟩) | (go_at_call 201; refine (CycleLeft_any _ (by omega) (by omega) _).mono ?_; rintro e w1 ⟨rfl, rfl⟩) | (go_at_call 202; refine (Opcode_any _ (by omega) (by omega) _).mono ?_; rintro e w1 ⟨rfl, rfl⟩) | (go_at_call 63; refine (low_any _ (by omega) (by omega) _).mono ?_; rintro e w1 ⟨rfl, rfl⟩))
  rw [rounds_succ]; go_wp2_with (first | (go_at_call 199; refine (CycleRight_any _ (by omega) (by omega) _).mono ?_; rintro e w1 ⟨rfl, rfl⟩) | (go_at_call 200; refine (ShiftRight_any _ (by omega) (by omega) _).mono ?_; rintro e w1 ⟨rfl, rfl⟩) | (go_at_call 201; refine (CycleLeft_any _ (by omega) (by omega) _).mono ?_; rintro e w1 ⟨rfl, rfl⟩) | (go_at_call 202; refine (Opcode_any _ (by omega) (by omega) _).mono ?_; rintro e w1 ⟨rfl, rfl⟩) | (go_at_call 63; refine (low_any _ (by omega) (by omega) _).mono ?_; rintro e w1 ⟨rfl, rfl⟩))
  go_ret
  exact ⟨rfl, HB.out.trans (by repeat (first | exact Below.refl _ _ | (refine Below.alloc ?_ (by first | omega | (simp only [World.size_alloc]; omega)) _)))⟩
set_option maxHeartbeats 1000000 in
theorem Edit_19 (a : Int) (ha0 : 0 ≤ a) (ha1 : a < 65536) (w : World) :
    Calls Tryz.prog 197 #[.int .i64 19, .int .u16 a] w fun e w' => e = .returned (.int .u16 (oOp a)) ∧ Below w.heap.size w w' := by
  have i0 : ∀ w, (Instr.index 175 (.agg #[Value.int IntKind.i64 16, Value.func (Fn.func 199) #[] #[], Value.int IntKind.i64 17, Value.func (Fn.func 200) #[] #[], Value.int IntKind.i64 18, Value.func (Fn.func 201) #[] #[], Value.int IntKind.i64 19, Value.func (Fn.func 202) #[] #[]]) (.int .i64 0)).run Tryz.prog w = .ok (.agg #[.int .i64 16, Value.func (Fn.func 199) #[] #[]]) w := fun _ => by kernel_rfl
  have i1 : ∀ w, (Instr.index 175 (.agg #[Value.int IntKind.i64 16, Value.func (Fn.func 199) #[] #[], Value.int IntKind.i64 17, Value.func (Fn.func 200) #[] #[], Value.int IntKind.i64 18, Value.func (Fn.func 201) #[] #[], Value.int IntKind.i64 19, Value.func (Fn.func 202) #[] #[]]) (.int .i64 1)).run Tryz.prog w = .ok (.agg #[.int .i64 17, Value.func (Fn.func 200) #[] #[]]) w := fun _ => by kernel_rfl
  have i2 : ∀ w, (Instr.index 175 (.agg #[Value.int IntKind.i64 16, Value.func (Fn.func 199) #[] #[], Value.int IntKind.i64 17, Value.func (Fn.func 200) #[] #[], Value.int IntKind.i64 18, Value.func (Fn.func 201) #[] #[], Value.int IntKind.i64 19, Value.func (Fn.func 202) #[] #[]]) (.int .i64 2)).run Tryz.prog w = .ok (.agg #[.int .i64 18, Value.func (Fn.func 201) #[] #[]]) w := fun _ => by kernel_rfl
  have i3 : ∀ w, (Instr.index 175 (.agg #[Value.int IntKind.i64 16, Value.func (Fn.func 199) #[] #[], Value.int IntKind.i64 17, Value.func (Fn.func 200) #[] #[], Value.int IntKind.i64 18, Value.func (Fn.func 201) #[] #[], Value.int IntKind.i64 19, Value.func (Fn.func 202) #[] #[]]) (.int .i64 3)).run Tryz.prog w = .ok (.agg #[.int .i64 19, Value.func (Fn.func 202) #[] #[]]) w := fun _ => by kernel_rfl
  go_enter Tryz.func197, Tryz.ntmps197
  go_wp2_with (first | (go_at_call 198; refine (editors_any _).mono ?_; rintro e w' ⟨rfl, hB⟩; have hz := hB.size; have HB := Lib.hid hB; clear hB))
  refine wp_loop_rounds 5 ?_
  rw [rounds_succ]; go_wp2_with (first | (go_at_call 199; refine (CycleRight_any _ (by omega) (by omega) _).mono ?_; rintro e w1 ⟨rfl, rfl⟩) | (go_at_call 200; refine (ShiftRight_any _ (by omega) (by omega) _).mono ?_; rintro e w1 ⟨rfl, rfl⟩) | (go_at_call 201; refine (CycleLeft_any _ (by omega) (by omega) _).mono ?_; rintro e w1 ⟨rfl, rfl⟩) | (go_at_call 202; refine (Opcode_any _ (by omega) (by omega) _).mono ?_; rintro e w1 ⟨rfl, rfl⟩) | (go_at_call 63; refine (low_any _ (by omega) (by omega) _).mono ?_; rintro e w1 ⟨rfl, rfl⟩))
  rw [rounds_succ]; go_wp2_with (first | (go_at_call 199; refine (CycleRight_any _ (by omega) (by omega) _).mono ?_; rintro e w1 ⟨rfl, rfl⟩) | (go_at_call 200; refine (ShiftRight_any _ (by omega) (by omega) _).mono ?_; rintro e w1 ⟨rfl, rfl⟩) | (go_at_call 201; refine (CycleLeft_any _ (by omega) (by omega) _).mono ?_; rintro e w1 ⟨rfl, rfl⟩) | (go_at_call 202; refine (Opcode_any _ (by omega) (by omega) _).mono ?_; rintro e w1 ⟨rfl, rfl⟩) | (go_at_call 63; refine (low_any _ (by omega) (by omega) _).mono ?_; rintro e w1 ⟨rfl, rfl⟩))
  rw [rounds_succ]; go_wp2_with (first | (go_at_call 199; refine (CycleRight_any _ (by omega) (by omega) _).mono ?_; rintro e w1 ⟨rfl, rfl⟩) | (go_at_call 200; refine (ShiftRight_any _ (by omega) (by omega) _).mono ?_; rintro e w1 ⟨rfl, rfl⟩) | (go_at_call 201; refine (CycleLeft_any _ (by omega) (by omega) _).mono ?_; rintro e w1 ⟨rfl, rfl⟩) | (go_at_call 202; refine (Opcode_any _ (by omega) (by omega) _).mono ?_; rintro e w1 ⟨rfl, rfl⟩) | (go_at_call 63; refine (low_any _ (by omega) (by omega) _).mono ?_; rintro e w1 ⟨rfl, rfl⟩))
  rw [rounds_succ]; go_wp2_with (first | (go_at_call 199; refine (CycleRight_any _ (by omega) (by omega) _).mono ?_; rintro e w1 ⟨rfl, rfl⟩) | (go_at_call 200; refine (ShiftRight_any _ (by omega) (by omega) _).mono ?_; rintro e w1 ⟨rfl, rfl⟩) | (go_at_call 201; refine (CycleLeft_any _ (by omega) (by omega) _).mono ?_; rintro e w1 ⟨rfl, rfl⟩) | (go_at_call 202; refine (Opcode_any _ (by omega) (by omega) _).mono ?_; rintro e w1 ⟨rfl, rfl⟩) | (go_at_call 63; refine (low_any _ (by omega) (by omega) _).mono ?_; rintro e w1 ⟨rfl, rfl⟩))
  go_ret
  exact ⟨rfl, HB.out.trans (by repeat (first | exact Below.refl _ _ | (refine Below.alloc ?_ (by first | omega | (simp only [World.size_alloc]; omega)) _)))⟩
set_option maxHeartbeats 1000000 in
theorem Edit_else (n : Int) (hn0 : -9223372036854775808 ≤ n) (hn1 : n ≤ 9223372036854775807) (h : n ≠ 16 ∧ n ≠ 17 ∧ n ≠ 18 ∧ n ≠ 19) (a : Int) (ha0 : 0 ≤ a) (ha1 : a < 65536) (w : World) :
    Calls Tryz.prog 197 #[.int .i64 n, .int .u16 a] w fun e w' => e = .returned (.int .u16 (a % 32768)) ∧ Below w.heap.size w w' := by
  have i0 : ∀ w, (Instr.index 175 (.agg #[Value.int IntKind.i64 16, Value.func (Fn.func 199) #[] #[], Value.int IntKind.i64 17, Value.func (Fn.func 200) #[] #[], Value.int IntKind.i64 18, Value.func (Fn.func 201) #[] #[], Value.int IntKind.i64 19, Value.func (Fn.func 202) #[] #[]]) (.int .i64 0)).run Tryz.prog w = .ok (.agg #[.int .i64 16, Value.func (Fn.func 199) #[] #[]]) w := fun _ => by kernel_rfl
  have i1 : ∀ w, (Instr.index 175 (.agg #[Value.int IntKind.i64 16, Value.func (Fn.func 199) #[] #[], Value.int IntKind.i64 17, Value.func (Fn.func 200) #[] #[], Value.int IntKind.i64 18, Value.func (Fn.func 201) #[] #[], Value.int IntKind.i64 19, Value.func (Fn.func 202) #[] #[]]) (.int .i64 1)).run Tryz.prog w = .ok (.agg #[.int .i64 17, Value.func (Fn.func 200) #[] #[]]) w := fun _ => by kernel_rfl
  have i2 : ∀ w, (Instr.index 175 (.agg #[Value.int IntKind.i64 16, Value.func (Fn.func 199) #[] #[], Value.int IntKind.i64 17, Value.func (Fn.func 200) #[] #[], Value.int IntKind.i64 18, Value.func (Fn.func 201) #[] #[], Value.int IntKind.i64 19, Value.func (Fn.func 202) #[] #[]]) (.int .i64 2)).run Tryz.prog w = .ok (.agg #[.int .i64 18, Value.func (Fn.func 201) #[] #[]]) w := fun _ => by kernel_rfl
  have i3 : ∀ w, (Instr.index 175 (.agg #[Value.int IntKind.i64 16, Value.func (Fn.func 199) #[] #[], Value.int IntKind.i64 17, Value.func (Fn.func 200) #[] #[], Value.int IntKind.i64 18, Value.func (Fn.func 201) #[] #[], Value.int IntKind.i64 19, Value.func (Fn.func 202) #[] #[]]) (.int .i64 3)).run Tryz.prog w = .ok (.agg #[.int .i64 19, Value.func (Fn.func 202) #[] #[]]) w := fun _ => by kernel_rfl
  obtain ⟨e16, e17, e18, e19⟩ := h
  have f16 : (((16 : Int)) == n) = false := by rw [beq_eq_false_iff_ne]; omega
  have f17 : (((17 : Int)) == n) = false := by rw [beq_eq_false_iff_ne]; omega
  have f18 : (((18 : Int)) == n) = false := by rw [beq_eq_false_iff_ne]; omega
  have f19 : (((19 : Int)) == n) = false := by rw [beq_eq_false_iff_ne]; omega
  go_enter Tryz.func197, Tryz.ntmps197
  go_wp2_with (first | (go_at_call 198; refine (editors_any _).mono ?_; rintro e w' ⟨rfl, hB⟩; have hz := hB.size; have HB := Lib.hid hB; clear hB))
  refine wp_loop_rounds 5 ?_
  rw [rounds_succ]; go_wp2_with (first | (go_at_call 199; refine (CycleRight_any _ (by omega) (by omega) _).mono ?_; rintro e w1 ⟨rfl, rfl⟩) | (go_at_call 200; refine (ShiftRight_any _ (by omega) (by omega) _).mono ?_; rintro e w1 ⟨rfl, rfl⟩) | (go_at_call 201; refine (CycleLeft_any _ (by omega) (by omega) _).mono ?_; rintro e w1 ⟨rfl, rfl⟩) | (go_at_call 202; refine (Opcode_any _ (by omega) (by omega) _).mono ?_; rintro e w1 ⟨rfl, rfl⟩) | (go_at_call 63; refine (low_any _ (by omega) (by omega) _).mono ?_; rintro e w1 ⟨rfl, rfl⟩))
  rw [rounds_succ]; go_wp2_with (first | (go_at_call 199; refine (CycleRight_any _ (by omega) (by omega) _).mono ?_; rintro e w1 ⟨rfl, rfl⟩) | (go_at_call 200; refine (ShiftRight_any _ (by omega) (by omega) _).mono ?_; rintro e w1 ⟨rfl, rfl⟩) | (go_at_call 201; refine (CycleLeft_any _ (by omega) (by omega) _).mono ?_; rintro e w1 ⟨rfl, rfl⟩) | (go_at_call 202; refine (Opcode_any _ (by omega) (by omega) _).mono ?_; rintro e w1 ⟨rfl, rfl⟩) | (go_at_call 63; refine (low_any _ (by omega) (by omega) _).mono ?_; rintro e w1 ⟨rfl, rfl⟩))
  rw [rounds_succ]; go_wp2_with (first | (go_at_call 199; refine (CycleRight_any _ (by omega) (by omega) _).mono ?_; rintro e w1 ⟨rfl, rfl⟩) | (go_at_call 200; refine (ShiftRight_any _ (by omega) (by omega) _).mono ?_; rintro e w1 ⟨rfl, rfl⟩) | (go_at_call 201; refine (CycleLeft_any _ (by omega) (by omega) _).mono ?_; rintro e w1 ⟨rfl, rfl⟩) | (go_at_call 202; refine (Opcode_any _ (by omega) (by omega) _).mono ?_; rintro e w1 ⟨rfl, rfl⟩) | (go_at_call 63; refine (low_any _ (by omega) (by omega) _).mono ?_; rintro e w1 ⟨rfl, rfl⟩))
  rw [rounds_succ]; go_wp2_with (first | (go_at_call 199; refine (CycleRight_any _ (by omega) (by omega) _).mono ?_; rintro e w1 ⟨rfl, rfl⟩) | (go_at_call 200; refine (ShiftRight_any _ (by omega) (by omega) _).mono ?_; rintro e w1 ⟨rfl, rfl⟩) | (go_at_call 201; refine (CycleLeft_any _ (by omega) (by omega) _).mono ?_; rintro e w1 ⟨rfl, rfl⟩) | (go_at_call 202; refine (Opcode_any _ (by omega) (by omega) _).mono ?_; rintro e w1 ⟨rfl, rfl⟩) | (go_at_call 63; refine (low_any _ (by omega) (by omega) _).mono ?_; rintro e w1 ⟨rfl, rfl⟩))
  rw [rounds_succ]; go_wp2_with (first | (go_at_call 199; refine (CycleRight_any _ (by omega) (by omega) _).mono ?_; rintro e w1 ⟨rfl, rfl⟩) | (go_at_call 200; refine (ShiftRight_any _ (by omega) (by omega) _).mono ?_; rintro e w1 ⟨rfl, rfl⟩) | (go_at_call 201; refine (CycleLeft_any _ (by omega) (by omega) _).mono ?_; rintro e w1 ⟨rfl, rfl⟩) | (go_at_call 202; refine (Opcode_any _ (by omega) (by omega) _).mono ?_; rintro e w1 ⟨rfl, rfl⟩) | (go_at_call 63; refine (low_any _ (by omega) (by omega) _).mono ?_; rintro e w1 ⟨rfl, rfl⟩))
  go_ret
  exact ⟨rfl, HB.out.trans (by repeat (first | exact Below.refl _ _ | (refine Below.alloc ?_ (by first | omega | (simp only [World.size_alloc]; omega)) _)))⟩

theorem Edit_any (n : Int) (hn0 : -9223372036854775808 ≤ n) (hn1 : n ≤ 9223372036854775807) (a : Int) (ha0 : 0 ≤ a) (ha1 : a < 65536) (w : World) :
    Calls Tryz.prog 197 #[.int .i64 n, .int .u16 a] w fun e w' => e = .returned (.int .u16 (oEdit n a)) ∧ Below w.heap.size w w' := by
  by_cases h1 : n = 16
  · subst h1; exact Edit_16 a ha0 ha1 w
  · by_cases h2 : n = 17
    · subst h2; exact Edit_17 a ha0 ha1 w
    · by_cases h3 : n = 18
      · subst h3; exact Edit_18 a ha0 ha1 w
      · by_cases h4 : n = 19
        · subst h4; exact Edit_19 a ha0 ha1 w
        · have e : oEdit n a = a % 32768 := by unfold oEdit; rw [if_neg h1, if_neg h2, if_neg h3, if_neg h4]
          rw [e]; exact Edit_else n hn0 hn1 ⟨h1, h2, h3, h4⟩ a ha0 ha1 w
set_option maxHeartbeats 1000000 in
theorem rEdit_any (n : Int) (hn0 : -9223372036854775808 ≤ n) (hn1 : n ≤ 9223372036854775807) (a : Int) (ha0 : 0 ≤ a) (ha1 : a < 65536) (w : World) :
    Calls Tryz.prog 175 #[.int .i64 n, .int .u16 a] w fun e w' => e = .returned (.int .u16 (oEdit n a)) ∧ w = w' := by
  go_enter Tryz.func175, Tryz.ntmps175
  go_wp2_with (first | (go_at_call 192; refine (rCycleRight_any _ (by omega) (by omega) _).mono ?_; rintro e w1 ⟨rfl, rfl⟩) | (go_at_call 193; refine (rShiftRight_any _ (by omega) (by omega) _).mono ?_; rintro e w1 ⟨rfl, rfl⟩) | (go_at_call 194; refine (rCycleLeft_any _ (by omega) (by omega) _).mono ?_; rintro e w1 ⟨rfl, rfl⟩) | (go_at_call 195; refine (rOpcode_any _ (by omega) (by omega) _).mono ?_; rintro e w1 ⟨rfl, rfl⟩) | (go_at_call 87; refine (rLow_any _ (by omega) (by omega) _).mono ?_; rintro e w1 ⟨rfl, rfl⟩))
  all_goals go_ret
  all_goals exact ⟨ret_int (by (try simp only [beq_iff_eq, beq_eq_false_iff_ne, ne_eq] at *); unfold oEdit; repeat (first | rfl | rw [if_pos (by omega)] | rw [if_neg (by omega)])), rfl⟩

theorem kd01 : oOfW (-1) = 32766 ∧ oOfE (-1) = 0 ∧ oOfE 16384 = 3 ∧ oAdd 5 32765 = 3 ∧ oAdd 32766 1 = 32767 ∧ oAdd 32766 2 = 1 ∧ oAdd 16383 1 = 16384 ∧ oCyR 5 = 16386 ∧ oCyL 16385 = 3 ∧ oShR 16386 = 24577 ∧ oOp 32767 = 127 ∧ oEdit 20 5 = 5 ∧ oTwos 3 5 = 32765 ∧ oClass 7 = 0 ∧ oClass 0 = 1 ∧ oClass 65530 = 2 ∧ oClass 65535 = 3 ∧ oOver 16384 = 1 ∧ oOver 49151 = -1 ∧ oDim 65530 = 4 := by decide
end Go.Proofs.YtjjkikghfmnikaaGreatDoor

/- Layer 5: the program's instruction in memory. -/
set_option linter.unusedSimpArgs false
set_option linter.unusedVariables false
namespace Go.Proofs.YtjjkikghfmnikaaGreatDoor
open Go.ChangeShapes Go.WideShapes Go.ChangeAt Go.RowKit
/-- Registers that are valid. -/
def Rg.ok (r : Rg) : Prop := r.may ∧ r.Fit
/-- What an instruction has done so far, and its operand. -/
structure St where
  r : Rg
  cells : List (Int × Int)
  outs : List (Int × Int)
  reads : List (Int × Int)
  cyc : Int
  op : Int
  k : Int
  ss : Int
  sa : Int
/-- The value at a word, the words read, the next word: as the program has them, for a word that doesn't exist (memory 0) too. -/
def valP (r : Rg) (v : Vw) (s a : Int) : Int := if s = 1 then val r v 1 a else oExt (wd v.nf v.zf a)
def rdsP (s a : Int) : List (Int × Int) := if s = 1 ∧ a < 8 then [] else [(s, a)]
def nxtP (s a : Int) : Int := (a + 1) % (if s = 1 then 2048 else 36864)
def spotOk (s a : Int) : Prop := 0 ≤ s ∧ s ≤ 2 ∧ 0 ≤ a ∧ a < if s = 1 then 2048 else 36864
theorem spotOk.next {s a : Int} (h : spotOk s a) : spotOk s (nxtP s a) := by
  obtain ⟨h0, h1, h2, h3⟩ := h
  refine ⟨h0, h1, ?_, ?_⟩
  · unfold nxtP; split <;> omega
  · unfold nxtP; split <;> omega
theorem valP_eq {r : Rg} {v : Vw} {s a : Int} (h : s = 1 ∨ s = 2) : valP r v s a = val r v s a := by
  unfold valP
  rcases h with rfl | rfl
  · rfl
  · unfold val; rfl
theorem valP_bd {r : Rg} (hf : r.Fit) (v : Vw) (s a : Int) : 0 ≤ valP r v s a ∧ valP r v s a ≤ 65535 := by
  unfold valP
  split
  · exact val_bd hf v 1 a
  · unfold oExt; split <;> omega
theorem rdsP_eq {s a : Int} (h : s = 1 ∨ s = 2) (a0 : 0 ≤ a) : rdsP s a = rds s a := by
  unfold rdsP rds
  by_cases c : s = 1 ∧ a < 8
  · rw [if_pos c, if_neg (fun k => (isW_iff h a0).1 k c)]
  · rw [if_neg c, if_pos ((isW_iff h a0).2 c)]
/-- The program's block of an instruction. -/
def hL (s : St) (hr : Bool) (v : Vw) (ea : Option Addr) (ec : Nat) (fa : Option Addr) (fc : Nat) (ca : Option Addr) (cc : Nat) (vC vO vR : Value) : List Value :=
  [.int .u16 s.r.A, .int .u16 s.r.L, .int .u16 s.r.Q, .int .i64 s.r.Z, .int .i64 s.r.EB, .int .i64 s.r.FB, .int .i64 s.r.Su, .bool s.r.Ex, .int .u16 s.r.Ix, .bool s.r.Hd, .int .u16 s.r.B, .bool s.r.Ih, .bool s.r.Sv,
   .slice ea v.ne ec, .slice fa v.nf fc, .slice ca v.nc cc, .int .i64 s.k, .int .u8 s.ss, .int .i64 s.sa, vC, vO, vR, .int .i64 s.cyc, .int .u8 s.op, .bool hr]
/-- The instruction s lies at the block g, with its view; its lists are of the call's own, from block B on, each in a block of its own. -/
structure HIn (w : World) (B g : Nat) (s : St) (hr : Bool) (v : Vw) (ea : Option Addr) (ec : Nat) (fa : Option Addr) (fc : Nat) (ca : Option Addr) (cc : Nat) (vC vO vR : Value) : Prop where
  b : Blk w g (hL s hr v ea ec fa fc ca cc vC vO vR)
  lo : B ≤ g
  hi : g < w.heap.size
  vw : VwAt w v ea fa ca
  vB : ∀ u u', VwAt u v ea fa ca → Below B u u' → VwAt u' v ea fa ca
  c : OwnP .i64 .u16 56 w B vC s.cells
  o : OwnP .i64 .u16 56 w B vO s.outs
  d : OwnP .u8 .i64 59 w B vR s.reads
  cg : vC.ownBlock ≠ some g
  og : vO.ownBlock ≠ some g
  dg : vR.ownBlock ≠ some g
  co : ∀ j, vC.ownBlock = some j → vO.ownBlock ≠ some j
  cd : ∀ j, vC.ownBlock = some j → vR.ownBlock ≠ some j
  od : ∀ j, vO.ownBlock = some j → vR.ownBlock ≠ some j
  ok : s.r.ok
  kb : 0 ≤ s.k ∧ s.k ≤ 4095
  sp : spotOk s.ss s.sa
theorem Row.under {k : IntKind} {w w' : World} {A : Option Addr} {n : Nat} {f : Nat → Int} {B : Nat} (h : Row k w A n f) (hB : 0 < n → ∀ a, A = some a → a.block < B) (hb : Below B w w') : Row k w' A n f := fun i hi => by
  obtain ⟨a, e, hc⟩ := h i hi
  have := hB (by omega) a e
  refine ⟨a, e, ?_⟩
  rw [hb.cell (by rw [add_block]; exact this)]; exact hc
theorem Row.lt {k : IntKind} {w : World} {A : Option Addr} {n : Nat} {f : Nat → Int} (h : Row k w A n f) (hn : 0 < n) : ∀ a, A = some a → a.block < w.heap.size := fun a e => by
  obtain ⟨a', e', hc⟩ := h 0 hn
  rw [e] at e'; cases e'
  have := lt_of_cell hc
  rw [add_block] at this
  exact this
theorem VwAt.vB {w : World} {v : Vw} {ea fa ca : Option Addr} (h : VwAt w v ea fa ca) {B : Nat} (hB : w.heap.size ≤ B) : ∀ u u', VwAt u v ea fa ca → Below B u u' → VwAt u' v ea fa ca := fun u u' k hb =>
  ⟨k.e.under (fun hn a e => Nat.lt_of_lt_of_le (h.e.lt hn a e) hB) hb, k.f.under (fun hn a e => Nat.lt_of_lt_of_le (h.f.lt hn a e) hB) hb, k.c.under (fun hn a e => Nat.lt_of_lt_of_le (h.c.lt hn a e) hB) hb, k.be, k.bf, k.bc, k.le, k.lf, k.lc⟩
section
variable {w w' : World} {B g : Nat} {s : St} {hr : Bool} {v : Vw} {ea : Option Addr} {ec : Nat} {fa : Option Addr} {fc : Nat} {ca : Option Addr} {cc : Nat} {vC vO vR : Value}
theorem VwAt.low (h : VwAt w v ea fa ca) (vB : ∀ u u', VwAt u v ea fa ca → Below B u u' → VwAt u' v ea fa ca) (hg : B ≤ g) (j : Nat) (y : Value) : VwAt (w.setCell ⟨g, j, none⟩ y) v ea fa ca := vB _ _ h ((Below.refl B w).setCell (p := ⟨g, j, none⟩) hg y)
theorem HIn.set (h : HIn w B g s hr v ea ec fa fc ca cc vC vO vR) (j : Nat) (hj : j < 25) (y : Value) (r' : Rg) (cyc' : Int) (hr' : Bool) (he : (hL s hr v ea ec fa fc ca cc vC vO vR).set j y = hL { s with r := r', cyc := cyc' } hr' v ea ec fa fc ca cc vC vO vR) (hok : r'.ok) :
    HIn (w.setCell ⟨g, j, none⟩ y) B g { s with r := r', cyc := cyc' } hr' v ea ec fa fc ca cc vC vO vR where
  b := by
    have := h.b.set j (by simp [hL]; omega) y
    rw [he] at this
    exact this
  lo := h.lo
  hi := by simp; exact h.hi
  vw := h.vw.low h.vB h.lo j y
  vB := h.vB
  c := Own2.other h.c h.cg y
  o := Own2.other h.o h.og y
  d := Own2.other h.d h.dg y
  cg := h.cg
  og := h.og
  dg := h.dg
  co := h.co
  cd := h.cd
  od := h.od
  ok := hok
  kb := h.kb
  sp := h.sp
theorem HIn.below {B' : Nat} (h : HIn w B g s hr v ea ec fa fc ca cc vC vO vR) (hb : Below B' w w') (hB : w.heap.size ≤ B') : HIn w' B g s hr v ea ec fa fc ca cc vC vO vR where
  b := h.b.below hb (Nat.lt_of_lt_of_le h.hi hB)
  lo := h.lo
  hi := Nat.lt_of_lt_of_le h.hi hb.size
  vw := h.vw.below hb hB
  vB := h.vB
  c := h.c.below hb hB
  o := h.o.below hb hB
  d := h.d.below hb hB
  cg := h.cg
  og := h.og
  dg := h.dg
  co := h.co
  cd := h.cd
  od := h.od
  ok := h.ok
  kb := h.kb
  sp := h.sp
theorem HIn.drew (h : HIn w B g s hr v ea ec fa fc ca cc vC vO vR) : HIn w.drew B g s hr v ea ec fa fc ca cc vC vO vR := h.below (Below.refl _ _).drew (Nat.le_refl _)
end
/-- What lies in the call's own blocks behind an append to one of its lists. -/
theorem Blk.grown {w w' : World} {g : Nat} {l : List Value} {u : Option Nat} (h : Blk w g l) (hg : w.grownBy w' u) (hlt : g < w.heap.size) (hne : u ≠ some g) : Blk w' g l := by
  have hb := hg.block g hlt (fun c => hne c.symm)
  intro j v e
  have := h j v e
  refine ⟨?_, ?_⟩
  · rw [← this.1]; unfold World.cell?; rw [hb]
  · rw [← this.2]; unfold World.frozen?; rw [hb]
end Go.Proofs.YtjjkikghfmnikaaGreatDoor
