/- Slices of integers that are read: each of the first n places holds a number. -/
import Derived.Test.YteongalbljdjlaaBase
import Derived.Below
set_option linter.unusedSimpArgs false
set_option linter.unusedVariables false
namespace Go.Proofs.Yteongalbljdjlaa
open Go.ChangeShapes Go.WideShapes Go.ChangeAt Go.RowKit
/-- The slice at A has in its first n places the numbers f 0, f 1, .. of the kind k. -/
def Row (k : IntKind) (w : World) (A : Option Addr) (n : Nat) (f : Nat → Int) : Prop := ∀ i, i < n → ∃ a, A = some a ∧ w.cell? (a.add i) = some (.int k (f i))
theorem add_block (a : Addr) (i : Nat) : (a.add i).block = a.block := by unfold Addr.add; by_cases h : i = 0 <;> simp [h]
theorem lt_of_cell {w : World} {p : Addr} {v : Value} (h : w.cell? p = some v) : p.block < w.heap.size := by
  by_cases c : p.block < w.heap.size
  · exact c
  · exfalso
    have : w.heap[p.block]? = none := by rw [Array.getElem?_eq_none]; omega
    simp [World.cell?, this] at h
theorem Row.below {k : IntKind} {w w' : World} {A : Option Addr} {n : Nat} {f : Nat → Int} {B : Nat} (h : Row k w A n f) (hb : Below B w w') (hB : w.heap.size ≤ B) : Row k w' A n f := by
  intro i hi
  obtain ⟨a, e, hc⟩ := h i hi
  exact ⟨a, e, (hb.cell (Nat.lt_of_lt_of_le (lt_of_cell hc) hB)).trans hc⟩
theorem Row.drewN {k : IntKind} {w : World} {A : Option Addr} {n : Nat} {f : Nat → Int} (h : Row k w A n f) (m : Nat) : Row k (w.drewN m) A n f := h
theorem Row.take {k : IntKind} {w : World} {A : Option Addr} {n m : Nat} {f : Nat → Int} (h : Row k w A n f) (hm : m ≤ n) : Row k w A m f := fun i hi => h i (by omega)
theorem Row.nil {k : IntKind} {w : World} {A : Option Addr} {f : Nat → Int} : Row k w A 0 f := fun i hi => by omega
theorem Row.open_ {k : IntKind} {w : World} {A : Option Addr} {n : Nat} {f : Nat → Int} (h : Row k w A n f) (hn : 0 < n) : ∃ a, A = some a ∧ ∀ i, i < n → w.cell? (a.add i) = some (.int k (f i)) := by
  obtain ⟨a, rfl, _⟩ := h 0 hn
  refine ⟨a, rfl, fun i hi => ?_⟩
  obtain ⟨b, e, hc⟩ := h i hi
  cases e; exact hc
theorem Row.at_ {k : IntKind} {w : World} {a : Addr} {n : Nat} {f : Nat → Int} (h : Row k w (some a) n f) {i : Nat} (hi : i < n) : w.cell? (a.add i) = some (.int k (f i)) := by
  obtain ⟨b, e, hc⟩ := h i hi
  cases e; exact hc
theorem rowCase {k : IntKind} {w : World} {A : Option Addr} {n : Nat} {f : Nat → Int} (h : Row k w A n f) : Hid (Row k w A n f) ∧ (Hid (n = 0) ∨ ∃ a, A = some a) := by
  refine ⟨h, ?_⟩
  by_cases c : n = 0
  · exact .inl c
  · obtain ⟨a, e, _⟩ := h 0 (by omega); exact .inr ⟨a, e⟩
/-- What a statement's frame tells of a slice of integers that came in. -/
theorem row_of {k : IntKind} {w : World} {a : Option Addr} {len cap : Nat} {zs : List Int}
    (h : (a = none ∧ len = 0 ∧ cap = 0 ∧ zs = []) ∨ ∃ x, a = some x ∧ len ≤ cap ∧ cap ≤ maxLen ∧ zs.length = cap ∧ (∀ i, i < zs.length → w.cell? (x.add i) = some (.int k (zs.getD i 0))) ∧ ∀ n ∈ zs, (Lit.int k n).wf = true) :
    Row k w a len (fun i => zs.getD i 0) ∧ len ≤ cap ∧ cap ≤ 9223372036854775807 ∧ (cap = 0 ∨ ∃ x, a = some x) ∧ ∀ i, (Lit.int k (zs.getD i 0)).wf = true ∨ zs.length ≤ i := by
  rcases h with ⟨rfl, rfl, rfl, rfl⟩ | ⟨x, rfl, h1, h2, h3, h4, h5⟩
  · exact ⟨Row.nil, Nat.le_refl _, by omega, .inl rfl, fun i => .inr (Nat.zero_le _)⟩
  · refine ⟨fun i hi => ⟨x, rfl, h4 i (by omega)⟩, h1, by unfold maxLen at h2; omega, .inr ⟨x, rfl⟩, fun i => ?_⟩
    by_cases c : i < zs.length
    · left
      have e : zs.getD i 0 = zs[i] := by rw [List.getD_eq_getElem?_getD, List.getElem?_eq_getElem c]; rfl
      rw [e]; exact h5 _ (List.getElem_mem c)
    · right; omega
theorem getD_u16 {zs : List Int} (h : ∀ i, (Lit.int .u16 (zs.getD i 0)).wf = true ∨ zs.length ≤ i) (i : Nat) : 0 ≤ zs.getD i 0 ∧ zs.getD i 0 < 65536 := by
  rcases h i with h | h
  · have := bounds_u16 h; omega
  · rw [List.getD_eq_getElem?_getD, List.getElem?_eq_none h]; simp
theorem getD_u8 {zs : List Int} (h : ∀ i, (Lit.int .u8 (zs.getD i 0)).wf = true ∨ zs.length ≤ i) (i : Nat) : 0 ≤ zs.getD i 0 ∧ zs.getD i 0 < 256 := by
  rcases h i with h | h
  · have := bounds_u8 h; omega
  · rw [List.getD_eq_getElem?_getD, List.getElem?_eq_none h]; simp
theorem getD_i64 {zs : List Int} (h : ∀ i, (Lit.int .i64 (zs.getD i 0)).wf = true ∨ zs.length ≤ i) (i : Nat) : -9223372036854775808 ≤ zs.getD i 0 ∧ zs.getD i 0 ≤ 9223372036854775807 := by
  rcases h i with h | h
  · have := bounds_i64 h; omega
  · rw [List.getD_eq_getElem?_getD, List.getElem?_eq_none h]; simp
end Go.Proofs.Yteongalbljdjlaa
