/- Layer 4: the tables of the program, as its package-level variables hold them. -/
import Derived.Test.YtjkdojdkmgaofaaDoorP04
import Derived.Test.YtjkdojdkmgaofaaDoorApp
set_option linter.unusedSimpArgs false
set_option linter.unusedVariables false
namespace Go.Proofs.YtjkdojdkmgaofaaDoor
open Go.ChangeShapes Go.WideShapes Go.ChangeAt Go.RowKit
/-- The tables read as the program's text lays them. -/
structure Lay (w : World) : Prop where
  sf : 0 < w.heap.size
  sk : 1 < w.heap.size
  f : ∀ i, i < 39 → w.cell? ⟨0, i * 5, none⟩ = some (.string (nm i)) ∧ w.cell? ⟨0, i * 5 + 1, none⟩ = some (.bool (decide (19 ≤ i))) ∧ w.cell? ⟨0, i * 5 + 2, none⟩ = some (.int .u8 (kd i)) ∧ w.cell? ⟨0, i * 5 + 3, none⟩ = some (.int .i64 (bs i)) ∧ w.cell? ⟨0, i * 5 + 4, none⟩ = some (.int .i64 (cy i))
  k : ∀ q : Int, 0 ≤ q → q < 5 → w.cell? ⟨1, q.toNat * 3, none⟩ = some (.int .i64 (lo q)) ∧ w.cell? ⟨1, q.toNat * 3 + 1, none⟩ = some (.int .i64 (hi q)) ∧ w.cell? ⟨1, q.toNat * 3 + 2, none⟩ = some (.int .i64 (bt q))
theorem Lay.below {w w' : World} (h : Lay w) (hb : Below w.heap.size w w') : Lay w' :=
  ⟨Nat.lt_of_lt_of_le h.sf hb.size, Nat.lt_of_lt_of_le h.sk hb.size,
   fun i hi => by
    obtain ⟨a, b, c, d, e⟩ := h.f i hi
    exact ⟨(hb.cell (p := ⟨_, _, none⟩) h.sf).trans a, (hb.cell (p := ⟨_, _, none⟩) h.sf).trans b, (hb.cell (p := ⟨_, _, none⟩) h.sf).trans c, (hb.cell (p := ⟨_, _, none⟩) h.sf).trans d, (hb.cell (p := ⟨_, _, none⟩) h.sf).trans e⟩,
   fun q h0 h1 => by
    obtain ⟨a, b, c⟩ := h.k q h0 h1
    exact ⟨(hb.cell (p := ⟨_, _, none⟩) h.sk).trans a, (hb.cell (p := ⟨_, _, none⟩) h.sk).trans b, (hb.cell (p := ⟨_, _, none⟩) h.sk).trans c⟩⟩
theorem Lay.alloc {w : World} (h : Lay w) (o : Obj) : Lay (w.alloc o) := h.below ((Below.refl _ _).alloc (Nat.le_refl _) o)
theorem Lay.drew {w : World} (h : Lay w) : Lay w.drew := ⟨h.sf, h.sk, h.f, h.k⟩
theorem Lay.keep {w w' : World} (h : Hid (Lay w)) (hb : Hid (Below w.heap.size w w')) : Lay w' := h.out.below hb.out
end Go.Proofs.YtjkdojdkmgaofaaDoor
