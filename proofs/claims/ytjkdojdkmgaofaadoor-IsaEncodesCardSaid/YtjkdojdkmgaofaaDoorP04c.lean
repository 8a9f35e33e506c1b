/- Layer 4: when two names are equal. -/
import Derived.Test.YtjkdojdkmgaofaaDoorP04b
set_option linter.unusedSimpArgs false
set_option linter.unusedVariables false
namespace Go.Proofs.YtjkdojdkmgaofaaDoor
open Go.RowKit
theorem nmT_TC (i : Nat) (hi : i < 39) : (nm i).toList = [84, 67] ↔ i = 0 := by
  rw [ByteArray.toList_eq, ← nm_TC i hi]
  constructor
  · intro h; cases hs : nm i with | mk d => rw [hs] at h; congr 1; exact Array.toList_inj.1 h
  · intro h; rw [h]
theorem nmT_INDEX (i : Nat) (hi : i < 39) : (nm i).toList = [73, 78, 68, 69, 88] ↔ i = 12 := by
  rw [ByteArray.toList_eq, ← nm_INDEX i hi]
  constructor
  · intro h; cases hs : nm i with | mk d => rw [hs] at h; congr 1; exact Array.toList_inj.1 h
  · intro h; rw [h]
theorem toList_inj' (a b : ByteArray) : a.toList = b.toList ↔ a = b := by
  rw [ByteArray.toList_eq, ByteArray.toList_eq]
  constructor
  · intro h; cases a; cases b; congr 1; exact Array.toList_inj.1 h
  · intro h; rw [h]
end Go.Proofs.YtjkdojdkmgaofaaDoor
