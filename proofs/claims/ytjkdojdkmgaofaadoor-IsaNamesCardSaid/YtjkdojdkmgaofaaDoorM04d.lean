/- Contracts of layer 4: the program's Names and Find. -/
import Derived.Test.YtjkdojdkmgaofaaDoorM04c
import Derived.Test.YtjkdojdkmgaofaaDoorTab
import Derived.Maps.OwnOps
import Derived.Maps.Views
set_option linter.unusedSimpArgs false
set_option linter.unusedVariables false
namespace Go.Proofs.YtjkdojdkmgaofaaDoor
open Go.ChangeShapes Go.WideShapes Go.ChangeAt Go.RowKit
set_option maxHeartbeats 1000000 in
theorem Names_any (w : World) (hL : Lay w) :
    Calls Tryd.prog 12 #[] w (RetTab 39 (fun i => .string (nm i)) w) := by
  have HL := Lib.hid hL
  clear hL
  go_enter Tryd.func12, Tryd.ntmps12
  go_wp2_with (refine make_fullV w _ rfl _ _ 25 rfl (.string ⟨#[]⟩) 9 16 Tryd.underlying25 (by kernel_rfl) rfl w.heap.size 39 rfl rfl (by decide) (by decide) (Below.refl _ _) (Nat.le_refl _) ?_; intro w1 hown1 hb1 hb1' hs1)
  have A0 : ArrV 9 w1 w.heap.size w.heap.size 39 39 (fun i => if i < 0 then .string (nm i) else .string ⟨#[]⟩) := by
    unfold ArrV
    rw [vlst_replicate] at hown1
    rw [show vlst 39 (fun i => if i < 0 then Value.string (nm i) else .string ⟨#[]⟩) = vlst 39 (fun _ => Value.string ⟨#[]⟩) from vlst_congr (fun i _ => by simp)]
    exact hown1
  clear hown1 hb1'
  go_loopw [4] (fun j wr => ∃ k : Nat, k ≤ 39 ∧ j = .int .i64 k ∧ ArrV 9 wr w.heap.size w.heap.size 39 39 (fun i => if i < k then .string (nm i) else .string ⟨#[]⟩) ∧ Below w.heap.size w wr ∧ w.heap.size < wr.heap.size) (fun j _ => 39 - (intOf j).toNat)
  case atStart => exact ⟨0, Nat.zero_le _, rfl, A0, hb1, hs1⟩
  case round =>
    obtain ⟨k, hk, rfl, hA, hb, hs⟩ := hrel
    have AH := Lib.hid hA
    have XB := Lib.hid hb
    by_cases hlt : k < 39
    · have LB := HL.out.below hb
      obtain ⟨f0, f1, f2, f3, f4⟩ := LB.f k hlt
      have hsf := LB.sf
      have c1 := hA.cell hlt
      have c2 := hA.free k
      have hne : w.heap.size ≠ 0 := by have := HL.out.sf; omega
      clear LB f1 f2 f3 f4 hA hb
      go_wp2
      refine ⟨⟨k + 1, by omega, by go_num, ?_, XB.out.setCell (p := ⟨w.heap.size, k, none⟩) (Nat.le_refl _) _, by simp; omega⟩, by simp [intOf]; omega⟩
      refine (AH.out.set k (.string (nm k))).congr (fun i _ => ?_)
      by_cases e : i = k
      · subst e; simp
      · by_cases f : i < k
        · simp [e, f, show i < k + 1 by omega]
        · simp [e, f, show ¬ i < k + 1 by omega]
    · have e : k = 39 := by omega
      subst e
      clear hA hb
      go_wp2
      go_ret
      exact ⟨w.heap.size, 39, rfl, Nat.le_refl _, hs, fun i hi => by rw [AH.out.cell hi, if_pos hi], XB.out⟩
end Go.Proofs.YtjkdojdkmgaofaaDoor
