/- The walk of OnescompKnown. -/
import Derived.Test.YtdinjohalkllpaaP01
set_option linter.unusedSimpArgs false
set_option linter.unusedVariables false
namespace Go.Proofs.Ytdinjohalkllpaa
open Go.ChangeShapes Go.WideShapes Go.ChangeAt Go.RowKit
set_option maxHeartbeats 2000000 in
theorem onescompKnown_walk   (w : World) :
    Calls Try.prog 10 #[] w fun e w' => e = .returned (.bool true) ∧ Below w.heap.size w w' := by
  have k1 : oVal 5 = 5 ∧ oVal 16383 = 16383 ∧ oVal 16384 = -16383 ∧ oVal 32766 = -1 ∧ oVal 32767 = 0 ∧ oVal 32768 = 0 ∧ oVal 65535 = 0 := by decide
  have k2 : oOfW 0 = 0 ∧ oOfE 0 = 0 ∧ oOfW (-16383) = 16384 ∧ oOfE (-16383) = 0 ∧ oOfW (-16384) = 0 ∧ oOfE (-16384) = 3 := by decide
  have k3 : oExt 32766 = 65534 ∧ oAddA 65534 2 = 1 ∧ oAddA 16383 1 = 16384 ∧ oAddA 65535 65535 = 65535 := by decide
  have k4 : oCorr 16384 = 0 ∧ oCorr 49151 = 32767 ∧ oCorr 65534 = 32766 ∧ oEdit 16 5 = 16386 ∧ oEdit 17 16386 = 24577 ∧ oEdit 18 16385 = 3 ∧ oEdit 19 16256 = 127 ∧ oEdit (-1) 65535 = 32767 := by decide
  have k5 : oTwos 5 3 = 2 ∧ oTwos 0 16384 = 16384 ∧ oTwos 1 32767 = 2 ∧ oDim 0 = 0 ∧ oDim 65535 = 0 ∧ oDim 7 = 6 := by decide
  obtain ⟨a1, a2, a3, a4, a5, a6, a7⟩ := k1
  obtain ⟨b1, b2, b3, b4, b5, b6⟩ := k2
  obtain ⟨c1, c2, c3, c4⟩ := k3
  obtain ⟨d1, d2, d3, d4, d5, d6, d7, d8⟩ := k4
  obtain ⟨e1, e2, e3, e4, e5, e6⟩ := k5
  have i0 : ∀ w, (Instr.index 46 (.agg #[Value.int IntKind.u16 65534, Value.int IntKind.u16 1, Value.int IntKind.u16 16384, Value.int IntKind.u16 65535, Value.int IntKind.u16 65535]) (.int .i64 0)).run Try.prog w = .ok (.int .u16 65534) w := fun _ => by kernel_rfl
  have i1 : ∀ w, (Instr.index 46 (.agg #[Value.int IntKind.u16 65534, Value.int IntKind.u16 1, Value.int IntKind.u16 16384, Value.int IntKind.u16 65535, Value.int IntKind.u16 65535]) (.int .i64 1)).run Try.prog w = .ok (.int .u16 1) w := fun _ => by kernel_rfl
  have i2 : ∀ w, (Instr.index 46 (.agg #[Value.int IntKind.u16 65534, Value.int IntKind.u16 1, Value.int IntKind.u16 16384, Value.int IntKind.u16 65535, Value.int IntKind.u16 65535]) (.int .i64 2)).run Try.prog w = .ok (.int .u16 16384) w := fun _ => by kernel_rfl
  have i3 : ∀ w, (Instr.index 46 (.agg #[Value.int IntKind.u16 65534, Value.int IntKind.u16 1, Value.int IntKind.u16 16384, Value.int IntKind.u16 65535, Value.int IntKind.u16 65535]) (.int .i64 3)).run Try.prog w = .ok (.int .u16 65535) w := fun _ => by kernel_rfl
  have i4 : ∀ w, (Instr.index 46 (.agg #[Value.int IntKind.u16 65534, Value.int IntKind.u16 1, Value.int IntKind.u16 16384, Value.int IntKind.u16 65535, Value.int IntKind.u16 65535]) (.int .i64 4)).run Try.prog w = .ok (.int .u16 65535) w := fun _ => by kernel_rfl
  go_enter Try.func10, Try.ntmps10
  go_wp2_with (first | (go_at_call 13; refine (Value_any _ (by omega) (by omega) _).mono ?_; rintro e w1 ⟨rfl, rfl⟩) | (go_at_call 11; refine (Of_any _ (by omega) (by omega) _).mono ?_; rintro e w1 ⟨rfl, rfl⟩) | (go_at_call 20; refine (Extend_any _ (by omega) (by omega) _).mono ?_; rintro e w1 ⟨rfl, rfl⟩) | (go_at_call 22; refine (AddAcc_any _ (by omega) (by omega) _ (by omega) (by omega) _).mono ?_; rintro e w1 ⟨rfl, rfl⟩) | (go_at_call 24; refine (NegAcc_any _ (by omega) (by omega) _).mono ?_; rintro e w1 ⟨rfl, rfl⟩))
  (refine (ints_same _ _ 7 (fun k => [5, 16383, (-16383), (-1), 0, 0, 0].getD k 0) (by omega) _ (by intro k hk; rcases k with _|_|_|_|_|_|_|k <;> first | omega | (simp [go_sem]; done) | (simp (disch := (first | omega | (simp; omega))) only [cell_old, hc]; simp [go_sem]; done)) (by intro k hk; rcases k with _|_|_|_|_|_|_|k <;> first | omega | (simp [go_sem]; done) | (simp (disch := (first | omega | (simp; omega))) only [cell_old, hc]; simp [go_sem]; done))).mono ?_; rintro e w2 ⟨rfl, m, rfl⟩)
  go_wp2_with fail
  refine wp_loop_rounds 6 ?_
  rw [rounds_succ]; go_wp2
  rw [rounds_succ]; go_wp2
  rw [rounds_succ]; go_wp2
  rw [rounds_succ]; go_wp2
  rw [rounds_succ]; go_wp2
  rw [rounds_succ]; go_wp2_with (first | (go_at_call 28; refine (Correct_any _ (by omega) (by omega) _).mono ?_; rintro e w1 ⟨rfl, rfl⟩) | (go_at_call 32; refine (Diminish_any _ (by omega) (by omega) _).mono ?_; rintro e w1 ⟨rfl, rfl⟩) | (go_at_call 44; refine (TwosDiff_any _ (by omega) (by omega) _ (by omega) (by omega) _).mono ?_; rintro e w1 ⟨rfl, rfl⟩) | (go_at_call 42; refine (Edit_any _ (by omega) (by omega) _ (by omega) (by omega) _).mono ?_; rintro e w1 ⟨rfl, hb⟩; have hz := hb.size; (try simp only [World.size_alloc, size_drewN] at hz); have HB := Lib.hid hb; clear hb))
  (refine (words_same _ _ 8 (fun k => [0, 32767, 32766, 16386, 24577, 3, 127, 32767].getD k 0) (by omega) _ (by intro k hk; rcases k with _|_|_|_|_|_|_|_|k <;> first | omega | (simp [go_sem]; done) | (simp (disch := (first | omega | (simp; omega))) only [cell_old, hc]; simp [go_sem]; done)) (by intro k hk; rcases k with _|_|_|_|_|_|_|_|k <;> first | omega | (simp [go_sem]; done) | (simp (disch := (first | omega | (simp; omega))) only [cell_old, hc]; simp [go_sem]; done))).mono ?_; rintro e w2 ⟨rfl, m, rfl⟩)
  go_wp2_with (first | (go_at_call 44; refine (TwosDiff_any _ (by omega) (by omega) _ (by omega) (by omega) _).mono ?_; rintro e w1 ⟨rfl, rfl⟩))
  (refine (words_same _ _ 3 (fun k => [2, 16384, 2].getD k 0) (by omega) _ (by intro k hk; rcases k with _|_|_|k <;> first | omega | (simp [go_sem]; done) | (simp (disch := (first | omega | (simp; omega))) only [cell_old, hc]; simp [go_sem]; done)) (by intro k hk; rcases k with _|_|_|k <;> first | omega | (simp [go_sem]; done) | (simp (disch := (first | omega | (simp; omega))) only [cell_old, hc]; simp [go_sem]; done))).mono ?_; rintro e w2 ⟨rfl, m, rfl⟩)
  go_wp2_with (first | (go_at_call 32; refine (Diminish_any _ (by omega) (by omega) _).mono ?_; rintro e w1 ⟨rfl, rfl⟩) | (go_at_call 19; refine (works_any _).mono ?_; rintro e wf ⟨rfl, hb⟩; have hz := hb.size; (try simp only [World.size_alloc, size_drewN] at hz); have HB := Lib.hid hb; clear hb))
  go_ret
  refine ⟨rfl, ?_⟩
  (repeat (first | exact Below.refl _ _ | apply below_drewN | (refine Below.alloc ?_ (by first | omega | (simp only [World.size_alloc, size_drewN]; omega)) _) | (refine Below.trans ?_ (Below.mono (Hid.out (by assumption)) (by first | omega | (simp only [World.size_alloc, size_drewN]; omega))))))
end Go.Proofs.Ytdinjohalkllpaa
