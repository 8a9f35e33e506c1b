/- The walk of ParityKnown. -/
import Derived.Test.YtaebepepppfooaaL02e
set_option linter.unusedSimpArgs false
set_option linter.unusedVariables false
namespace Go.Proofs.Ytaebepepppfooaa
open Go.ChangeShapes Go.WideShapes Go.ChangeAt Go.RowKit
theorem klists : allL (fun i => ([1, 3] : List Int).getD i 0) 2 = [1, 32771] ∧ badL (fun i => ([1, 0, 32768, 3] : List Int).getD i 0) 4 = [1, 3] := by decide
theorem litbd2 : ∀ i, 0 ≤ ([1, 3] : List Int).getD i 0 ∧ ([1, 3] : List Int).getD i 0 < 65536 := by
  intro i
  rcases i with _|_|i <;> simp
theorem litbd4 : ∀ i, 0 ≤ ([1, 0, 32768, 3] : List Int).getD i 0 ∧ ([1, 0, 32768, 3] : List Int).getD i 0 < 65536 := by
  intro i
  rcases i with _|_|_|_|i <;> simp
set_option maxRecDepth 100000 in
set_option maxHeartbeats 4000000 in
theorem parityKnown_walk (w : World) :
    Calls Try.prog 8 #[] w fun e w' => e = .returned (.bool true) ∧ Below w.heap.size w w' := by
  obtain ⟨a1, a2, a3, a4, a5, a6, a7, a8, a9, a10, a11, a12, a13⟩ := kpar
  obtain ⟨b1, b2, b3, b4, b5, b6, b7, b8, b9, b10⟩ := kodd
  go_enter Try.func8, Try.ntmps8
  go_wp2_with (first | (go_at_call 9; refine (Flip_any _ (by omega) (by omega) _ (by omega) (by omega) _).mono ?_; rintro e w1 ⟨rfl, rfl⟩))
  refine (All_any _ 2 _ _ _ (row_lit .u16 w [1, 3] _) litbd2 (by omega)).mono ?_
  rintro e w1 ⟨v1, rfl, o1, h1⟩
  rw [klists.1] at o1
  replace h1 := ((Below.refl w.heap.size w).alloc (Nat.le_refl _) _).trans (h1.mono (by simp))
  have O1 := Lib.hid (o1.low (B' := w.heap.size) (by simp))
  have B1 := Lib.hid h1
  clear o1 h1
  go_wp2_with fail
  refine (Bad_any _ 4 _ _ _ (row_lit .u16 w1 [1, 0, 32768, 3] _) litbd4 (by omega)).mono ?_
  rintro e w2 ⟨v2, rfl, o2, h2⟩
  rw [klists.2] at o2
  replace h2 := ((Below.refl w1.heap.size w1).alloc (Nat.le_refl _) _).trans (h2.mono (by simp))
  have O12 := O1.out.below h2 (Nat.le_refl _)
  have O2 := o2.low (B' := w.heap.size) (by have := B1.out.size; simp; omega)
  have B2 := Lib.hid (B1.out.trans (h2.mono B1.out.size))
  clear o2 h2 O1 B1
  obtain ⟨g1, c1, rfl, j1, k1⟩ := O12.form (by simp)
  obtain ⟨g2, c2, rfl, j2, k2⟩ := O2.form (by simp)
  have p1 : w2.cell? ⟨g1, 0, none⟩ = some (.int .u16 1) := O12.cell (by simp)
  have p2 : w2.cell? ⟨g1, 1, none⟩ = some (.int .u16 32771) := O12.cell (by simp)
  have p3 : w2.cell? ⟨g2, 0, none⟩ = some (.int .i64 1) := O2.cell (by simp)
  have p4 : w2.cell? ⟨g2, 1, none⟩ = some (.int .i64 3) := O2.cell (by simp)
  clear O12 O2
  simp only [List.length_cons, List.length_nil, Nat.zero_add, Nat.reduceAdd]
  go_wp2_with (first | (go_at_call 13; refine (Odd_any _ (by omega) (by omega) _).mono ?_; rintro e w1 ⟨rfl, rfl⟩) | (go_at_call 15; refine (Put_any _ (by omega) (by omega) _).mono ?_; rintro e w1 ⟨rfl, rfl⟩) | (go_at_call 25; refine (gets_any _ (by omega) (by omega) _ _ (by first | assumption | omega | decide) (by first | assumption | decide) _).mono ?_; rintro e w1 ⟨rfl, rfl⟩))
  refine (All_any none 0 _ (fun _ => 0) _ Row.nil (fun _ => ⟨by omega, by omega⟩) (by omega)).mono ?_
  rintro e w3 ⟨v3, rfl, o3, h3⟩
  obtain ⟨A3, c3, rfl, _, _, _⟩ := o3.row
  have B3 := Lib.hid (B2.out.trans (h3.mono B2.out.size))
  clear o3 h3 B2 p1 p2 p3 p4
  simp only [allL_len]
  go_wp2_with (fail)
  refine (Bad_any none 0 _ (fun _ => 0) _ Row.nil (fun _ => ⟨by omega, by omega⟩) (by omega)).mono ?_
  rintro e w4 ⟨v4, rfl, o4, h4⟩
  rw [badL_zero] at o4
  obtain ⟨A4, c4, rfl, _, _, _⟩ := o4.row
  have B4 := Lib.hid (B3.out.trans (h4.mono B3.out.size))
  clear o4 h4 B3
  simp only [List.length_nil]
  go_wp2_with (first | (go_at_call 17; refine (works2_any _).mono ?_; rintro e w1 ⟨rfl, rfl⟩))
  go_ret
  exact ⟨rfl, B4.out⟩
end Go.Proofs.Ytaebepepppfooaa
