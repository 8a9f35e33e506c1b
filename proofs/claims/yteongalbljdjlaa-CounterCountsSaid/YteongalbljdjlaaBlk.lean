/- Blocks of the call's own that are read and written cell by cell. -/
import Derived.Test.YteongalbljdjlaaApp
set_option linter.unusedSimpArgs false
set_option linter.unusedVariables false
namespace Go.Proofs.Yteongalbljdjlaa
open Go.ChangeShapes Go.WideShapes Go.ChangeAt Go.RowKit
/-- The block g holds the values l, and may be written. -/
def Blk (w : World) (g : Nat) (l : List Value) : Prop := ∀ j v, l[j]? = some v → w.cell? ⟨g, j, none⟩ = some v ∧ w.frozen? ⟨g, j, none⟩ = false
theorem Blk.cell {w : World} {g : Nat} {l : List Value} (h : Blk w g l) (j : Nat) (v : Value) (e : l[j]? = some v) : w.cell? ⟨g, j, none⟩ = some v := (h j v e).1
theorem Blk.free {w : World} {g : Nat} {l : List Value} (h : Blk w g l) (j : Nat) (v : Value) (e : l[j]? = some v) : w.frozen? ⟨g, j, none⟩ = false := (h j v e).2
theorem Blk.cells {w : World} {g : Nat} {l : List Value} (h : Blk w g l) : ∀ j v, l[j]? = some v → w.cell? ⟨g, j, none⟩ = some v := fun j v e => (h j v e).1
theorem Blk.below {w w' : World} {g B : Nat} {l : List Value} (h : Blk w g l) (hb : Below B w w') (hg : g < B) : Blk w' g l := fun j v e =>
  ⟨(hb.cell (p := ⟨g, j, none⟩) hg).trans (h j v e).1, (hb.frozen (p := ⟨g, j, none⟩) hg).trans (h j v e).2⟩
theorem Blk.drew {w : World} {g : Nat} {l : List Value} (h : Blk w g l) : Blk w.drew g l := h
theorem Blk.drewN {w : World} {g : Nat} {l : List Value} (h : Blk w g l) (n : Nat) : Blk (w.drewN n) g l := h
theorem Blk.new (w : World) (T : TypeId) (l : List Value) (g : Nat) (hg : w.heap.size = g) : Blk (w.alloc (.cells l.toArray T)) g l := by
  subst hg
  intro j v e
  refine ⟨?_, by simp [go_sem]⟩
  rw [World.cell?_alloc_at _ _ _ _ rfl, List.getElem?_toArray]
  exact e
theorem Blk.alloc {w : World} {g : Nat} {l : List Value} (h : Blk w g l) (hg : g < w.heap.size) (o : Obj) : Blk (w.alloc o) g l := h.below ((Below.refl _ _).alloc (Nat.le_refl _) o) hg
/-- A store into the block. -/
theorem Blk.set {w : World} {g : Nat} {l : List Value} (h : Blk w g l) (i : Nat) (hi : i < l.length) (y : Value) : Blk (w.setCell ⟨g, i, none⟩ y) g (l.set i y) := by
  intro j v e
  rw [List.getElem?_set] at e
  have h0 : (w.cell? ⟨g, i, none⟩).isSome = true := by rw [(h i l[i] (by simp [hi])).1]; rfl
  by_cases c : i = j
  · subst c
    simp [hi] at e
    subst e
    exact ⟨by simp [go_sem, h0], by simp [go_sem, (h i l[i] (by simp [hi])).2]⟩
  · rw [if_neg c] at e
    have := h j v e
    exact ⟨by simp [go_sem, this.1, Ne.symm c], by simp [go_sem, this.2]⟩
/-- A store into another block. -/
theorem Blk.other {w : World} {g g' : Nat} {l : List Value} (h : Blk w g l) (hne : g' ≠ g) (i : Nat) (y : Value) : Blk (w.setCell ⟨g', i, none⟩ y) g l := by
  intro j v e
  have := h j v e
  have hn : g ≠ g' := fun c => hne c.symm
  exact ⟨by simp [go_sem, this.1, hn], by simp [go_sem, this.2]⟩
end Go.Proofs.Yteongalbljdjlaa
