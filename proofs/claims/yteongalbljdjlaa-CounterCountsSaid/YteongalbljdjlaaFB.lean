/- A family of blocks that are as they were made, and what lay there before the call. -/
import Derived.Test.YteongalbljdjlaaBlk
import Derived.Lib.Hide
set_option linter.unusedSimpArgs false
set_option linter.unusedVariables false
namespace Go.Proofs.Yteongalbljdjlaa
open Go.ChangeShapes Go.WideShapes Go.ChangeAt Go.RowKit
def FB (w : World) (L : List (Nat × List Value)) (X : World) : Prop := (∀ (i : Nat) (g : Nat) (l : List Value), L[i]? = some (g, l) → Blk X g l ∧ g < X.heap.size) ∧ Below w.heap.size w X
theorem FB.start (w : World) : FB w [] w := ⟨fun i g l h => by simp at h, Below.refl _ _⟩
theorem FB.blk {w X : World} {L : List (Nat × List Value)} (h : FB w L X) (i : Nat) {g : Nat} {l : List Value} (e : L[i]? = some (g, l)) : Blk X g l := (h.1 i g l e).1
theorem FB.lt {w X : World} {L : List (Nat × List Value)} (h : FB w L X) (i : Nat) {g : Nat} {l : List Value} (e : L[i]? = some (g, l)) : g < X.heap.size := (h.1 i g l e).2
theorem FB.call {w X Y : World} {L : List (Nat × List Value)} (h : FB w L X) (hb : Below X.heap.size X Y) : FB w L Y :=
  ⟨fun i g l e => ⟨(h.1 i g l e).1.below hb (h.1 i g l e).2, Nat.lt_of_lt_of_le (h.1 i g l e).2 hb.size⟩, h.2.trans (hb.mono h.2.size)⟩
theorem FB.alloc {w X : World} {L : List (Nat × List Value)} (h : FB w L X) (l : List Value) (T : TypeId) : FB w ((X.heap.size, l) :: L) (X.alloc (.cells l.toArray T)) :=
  ⟨fun i g m e => by
    match i, e with
    | 0, e =>
      simp at e
      obtain ⟨rfl, rfl⟩ := e
      exact ⟨Blk.new X T _ _ rfl, by simp⟩
    | i + 1, e =>
      simp only [List.getElem?_cons_succ] at e
      exact ⟨(h.1 i g m e).1.alloc (h.1 i g m e).2 _, by have := (h.1 i g m e).2; simp; omega⟩, h.2.alloc h.2.size _⟩
theorem FB.drew {w X : World} {L : List (Nat × List Value)} (h : FB w L X) : FB w L X.drew := ⟨h.1, h.2.drew⟩
theorem FB.drewN {w X : World} {L : List (Nat × List Value)} (h : FB w L X) (n : Nat) : FB w L (X.drewN n) := ⟨h.1, below_drewN h.2 n⟩
theorem FB.cons {w X : World} {L : List (Nat × List Value)} (h : FB w L X) {g : Nat} {l : List Value} (hb : Blk X g l) (hg : g < X.heap.size) : FB w ((g, l) :: L) X :=
  ⟨fun i g' m e => by
    match i, e with
    | 0, e => simp at e; obtain ⟨rfl, rfl⟩ := e; exact ⟨hb, hg⟩
    | i + 1, e => simp only [List.getElem?_cons_succ] at e; exact h.1 i g' m e, h.2⟩
/-- A cell of a block stored, which no other block of the family is. -/
theorem FB.set {w X : World} {L : List (Nat × List Value)} {g : Nat} {l : List Value} (h : FB w ((g, l) :: L) X) (hn : ∀ (i : Nat) (g' : Nat) (m : List Value), L[i]? = some (g', m) → g' ≠ g) (hw : w.heap.size ≤ g) (j : Nat) (hj : j < l.length) (y : Value) : FB w ((g, l.set j y) :: L) (X.setCell ⟨g, j, none⟩ y) :=
  ⟨fun i g' m e => by
    match i, e with
    | 0, e =>
      simp at e
      obtain ⟨rfl, rfl⟩ := e
      exact ⟨(h.1 0 g l rfl).1.set j hj y, by simpa using (h.1 0 g l rfl).2⟩
    | i + 1, e =>
      simp only [List.getElem?_cons_succ] at e
      have := h.1 (i + 1) g' m (by simpa using e)
      exact ⟨this.1.other (Ne.symm (hn i g' m e)) j y, by simpa using this.2⟩, h.2.setCell (p := ⟨g, j, none⟩) hw y⟩
end Go.Proofs.Yteongalbljdjlaa
