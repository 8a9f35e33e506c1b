/- Slices of cells (an address and a word) that are read; what Apply makes of a memory. -/
import Derived.Test.YteongalbljdjlaaApp
import Derived.Test.YteongalbljdjlaaP02
set_option linter.unusedSimpArgs false
set_option linter.unusedVariables false
namespace Go.Proofs.Yteongalbljdjlaa
open Go.ChangeShapes Go.WideShapes Go.ChangeAt Go.RowKit
/-- The slice at A has in its first n places the cells (g 0, h 0), (g 1, h 1), .. -/
def Cells (w : World) (A : Option Addr) (n : Nat) (g h : Nat → Int) : Prop := ∀ i, i < n → ∃ a, A = some a ∧ w.cell? (a.add (i * 2)) = some (.int .i64 (g i)) ∧ w.cell? ⟨(a.add (i * 2)).block, (a.add (i * 2)).off + 1, none⟩ = some (.int .u16 (h i))
theorem Cells.below {w w' : World} {A : Option Addr} {n : Nat} {g h : Nat → Int} {B : Nat} (hc : Cells w A n g h) (hb : Below B w w') (hB : w.heap.size ≤ B) : Cells w' A n g h := by
  intro i hi
  obtain ⟨a, e, h1, h2⟩ := hc i hi
  exact ⟨a, e, (hb.cell (Nat.lt_of_lt_of_le (lt_of_cell h1) hB)).trans h1, (hb.cell (Nat.lt_of_lt_of_le (lt_of_cell h2) hB)).trans h2⟩
theorem Cells.take {w : World} {A : Option Addr} {n m : Nat} {g h : Nat → Int} (hc : Cells w A n g h) (hm : m ≤ n) : Cells w A m g h := fun i hi => hc i (by omega)
theorem Cells.drewN {w : World} {A : Option Addr} {n : Nat} {g h : Nat → Int} (hc : Cells w A n g h) (m : Nat) : Cells (w.drewN m) A n g h := hc
theorem Cells.nil {w : World} {A : Option Addr} {g h : Nat → Int} : Cells w A 0 g h := fun i hi => by omega
theorem Cells.at_ {w : World} {a : Addr} {n : Nat} {g h : Nat → Int} (hc : Cells w (some a) n g h) {i : Nat} (hi : i < n) : w.cell? (a.add (i * 2)) = some (.int .i64 (g i)) ∧ w.cell? ⟨(a.add (i * 2)).block, (a.add (i * 2)).off + 1, none⟩ = some (.int .u16 (h i)) := by
  obtain ⟨b, e, h1⟩ := hc i hi
  cases e; exact h1
theorem cellsCase {w : World} {A : Option Addr} {n : Nat} {g h : Nat → Int} (hc : Cells w A n g h) : Hid (Cells w A n g h) ∧ (Hid (n = 0) ∨ ∃ a, A = some a) := by
  refine ⟨hc, ?_⟩
  by_cases c : n = 0
  · exact .inl c
  · obtain ⟨a, e, _⟩ := hc 0 (by omega); exact .inr ⟨a, e⟩
theorem cells_lit2 {W : World} {g : Nat} {p q : Nat → Int} (c0 : W.cell? ⟨g, 0, none⟩ = some (.int .i64 (p 0))) (c1 : W.cell? ⟨g, 1, none⟩ = some (.int .u16 (q 0))) (c2 : W.cell? ⟨g, 2, none⟩ = some (.int .i64 (p 1))) (c3 : W.cell? ⟨g, 3, none⟩ = some (.int .u16 (q 1))) : Cells W (some ⟨g, 0, none⟩) 2 p q := by
  intro i hi
  have h : i = 0 ∨ i = 1 := by omega
  rcases h with rfl | rfl
  · exact ⟨_, rfl, c0, c1⟩
  · exact ⟨_, rfl, c2, c3⟩
/-- Memory after the first k cells have been written. -/
def applyF (f g h : Nat → Int) : Nat → Nat → Int
  | 0 => f
  | k + 1 => fun i => if i = (g k).toNat then pPut (h k) else applyF f g h k i
theorem applyF_succ (f g h : Nat → Int) (k : Nat) : applyF f g h (k + 1) = fun i => if i = (g k).toNat then pPut (h k) else applyF f g h k i := rfl
def cellsOk (n : Nat) (g : Nat → Int) (m : Nat) : Prop := ∀ i, i < m → 0 ≤ g i ∧ g i < n
theorem cellsOk_dec (n : Nat) (g : Nat → Int) (m : Nat) : cellsOk n g m ∨ ∃ i, i < m ∧ ¬ (0 ≤ g i ∧ g i < n) ∧ cellsOk n g i := by
  induction m with
  | zero => exact .inl (fun i hi => by omega)
  | succ m ih =>
    rcases ih with h | ⟨i, hi, hb, hk⟩
    · by_cases c : 0 ≤ g m ∧ g m < n
      · exact .inl (fun i hi => by
          by_cases e : i = m
          · subst e; exact c
          · exact h i (by omega))
      · exact .inr ⟨m, by omega, c, h⟩
    · exact .inr ⟨i, by omega, hb, hk⟩
open Classical in
noncomputable def mApplyL (n : Nat) (f g h : Nat → Int) (m : Nat) : List Int := if cellsOk n g m then lst n (applyF f g h m) else []
open Classical in
noncomputable def mApplyE (n : Nat) (g : Nat → Int) (m : Nat) : Int := if cellsOk n g m then 0 else 3
theorem mApply_ok {n : Nat} {g : Nat → Int} {m : Nat} (f h : Nat → Int) (k : cellsOk n g m) : mApplyL n f g h m = lst n (applyF f g h m) ∧ mApplyE n g m = 0 := by
  unfold mApplyL mApplyE; rw [if_pos k, if_pos k]; exact ⟨rfl, rfl⟩
theorem mApply_bad {n : Nat} {g : Nat → Int} {m : Nat} (f h : Nat → Int) (k : ¬ cellsOk n g m) : mApplyL n f g h m = [] ∧ mApplyE n g m = 3 := by
  unfold mApplyL mApplyE; rw [if_neg k, if_neg k]; exact ⟨rfl, rfl⟩
end Go.Proofs.Yteongalbljdjlaa
