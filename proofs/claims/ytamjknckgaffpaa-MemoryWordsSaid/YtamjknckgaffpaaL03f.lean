/- Contracts of layer 3: the examples that each statement checks. -/
import Derived.Test.YtamjknckgaffpaaM03f
set_option linter.unusedSimpArgs false
set_option linter.unusedVariables false
namespace Go.Proofs.Ytamjknckgaffpaa
open Go.ChangeShapes Go.WideShapes Go.ChangeAt Go.RowKit
theorem kread : mReadV 2 (fun i => ([32768, 0] : List Int).getD i 0) 0 = 0 ∧ mReadE 2 (fun i => ([32768, 0] : List Int).getD i 0) 0 = 0 ∧ mReadE 2 (fun i => ([32768, 0] : List Int).getD i 0) 1 = 11 := by decide
theorem litread : ∀ i, 0 ≤ ([32768, 0] : List Int).getD i 0 ∧ ([32768, 0] : List Int).getD i 0 < 65536 := by
  intro i
  rcases i with _|_|i <;> simp
set_option maxHeartbeats 2000000 in
theorem works3_any (w : World) :
    Calls Try.prog 16 #[] w fun e w' => e = .returned (.bool true) ∧ Below w.heap.size w w' := by
  obtain ⟨a1, a2, a3, a4⟩ := kmem
  obtain ⟨b1, b2, b3, b4, b5, b6, b7⟩ := klead
  obtain ⟨c1, c2, c3, c4, c5, c6, c7, c8, c9, c10, c11, c12, c13, c14⟩ := koper
  obtain ⟨d1, d2, d3⟩ := kread
  go_enter Try.func16, Try.ntmps16
  go_wp2_with (first | (go_at_call 10; refine (Bank_any _ _ (by omega) (by omega) (by omega) (by omega) _).mono ?_; rintro e w1 ⟨rfl, rfl⟩))
  refine (Read_any _ 2 _ _ _ (row_lit .u16 w [32768, 0] _) litread (by omega) _ (by omega) (by omega)).mono ?_
  rintro e w1 ⟨rfl, rfl⟩
  rw [d1, d2]
  go_wp2_with fail
  refine (Read_any _ 2 _ _ _ (row_litAt .u16 _ [32768, 0] _ _ (by simp)) litread (by omega) _ (by omega) (by omega)).mono ?_
  rintro e w1 ⟨rfl, rfl⟩
  rw [d3]
  go_wp2_with (first | (go_at_call 31; refine (leads_any _ _ _ _ _ (by omega) (by omega) (by omega) (by omega) (by omega) (by omega) _).mono ?_; rintro e w1 ⟨rfl, rfl⟩) | (go_at_call 35; refine (operand_any _ _ _ _ _ _ (by omega) (by omega) (by omega) (by omega) (by omega) (by omega) (by first | assumption | decide) (by first | assumption | decide) _).mono ?_; rintro e w1 ⟨rfl, rfl⟩))
  go_ret
  exact ⟨rfl, ((Below.refl _ _).alloc (Nat.le_refl _) _).alloc (by simp) _⟩
end Go.Proofs.Ytamjknckgaffpaa
