/- What the listed variables of layer 4 give: the tables read as laid. -/
import Derived.Test.YtjkdojdkmgaofaaDoorRows
import Derived.Test.YtjkdojdkmgaofaaDoorV04
import Derived.Test.YtjkdojdkmgaofaaDoorAgg
import Derived.MakeChecks
set_option linter.unusedSimpArgs false
set_option linter.unusedVariables false
namespace Go.Proofs.YtjkdojdkmgaofaaDoor
open Go.ChangeShapes Go.WideShapes Go.ChangeAt Go.RowKit Go.Lib
theorem cell_lt {w : World} {b o : Nat} {v : Value} (h : w.cell? ⟨b, o, none⟩ = some v) : b < w.heap.size := by
  unfold World.cell? at h
  split at h
  · rename_i hb; exact (Array.getElem?_eq_some_iff.1 hb).1
  · cases h
def formD (i : Nat) : DataW Unit := .agg [.lit (.string (nm i).data.toList), .lit (.bool (decide (19 ≤ i))), .lit (.int .u8 (kd i)), .lit (.int .i64 (bs i)), .lit (.int .i64 (cy i))]
def kindD (i : Nat) : DataW Unit := .agg [.lit (.int .i64 (lo i)), .lit (.int .i64 (hi i)), .lit (.int .i64 (bt i))]
theorem formsD : (Rows.laid_perilune_isa_forms : DataW Unit) = .agg ((List.range 39).map formD) := by kernel_rfl
theorem kindsD : (Rows.laid_perilune_isa_kinds : DataW Unit) = .agg ((List.range 5).map kindD) := by kernel_rfl
theorem lay_of_reads {W : World} (h1 : VarReads Tryd.prog W "perilune/isa.forms" Rows.laid_perilune_isa_forms) (h2 : VarReads Tryd.prog W "perilune/isa.kinds" Rows.laid_perilune_isa_kinds) : Lay W := by
  obtain ⟨g1, t1, cs1, fu1, p1, hg1, ht1, hv1, hd1⟩ := h1
  obtain ⟨g2, t2, cs2, fu2, p2, hg2, ht2, hv2, hd2⟩ := h2
  obtain rfl := Option.some.inj ((show Tryd.prog.globalNamed "perilune/isa.forms" = some 0 by kernel_rfl).symm.trans hg1)
  obtain rfl := Option.some.inj ((show Tryd.prog.globalNamed "perilune/isa.kinds" = some 1 by kernel_rfl).symm.trans hg2)
  obtain rfl := Option.some.inj ((show (Tryd.prog.globals[0]?).map (·.type) = some 57 by kernel_rfl).symm.trans ht1)
  obtain rfl := Option.some.inj ((show (Tryd.prog.globals[1]?).map (·.type) = some 69 by kernel_rfl).symm.trans ht2)
  rw [formsD] at hd1
  rw [kindsD] at hd2
  have F : ∀ i, i < 39 → W.cell? ⟨0, i * 5, none⟩ = some (.string (nm i)) ∧ W.cell? ⟨0, i * 5 + 1, none⟩ = some (.bool (decide (19 ≤ i))) ∧ W.cell? ⟨0, i * 5 + 2, none⟩ = some (.int .u8 (kd i)) ∧ W.cell? ⟨0, i * 5 + 3, none⟩ = some (.int .i64 (bs i)) ∧ W.cell? ⟨0, i * 5 + 4, none⟩ = some (.int .i64 (cy i)) := by
    intro i hi
    obtain ⟨fu, d, q, hdi, he⟩ := array_elem Tryd.underlying57 hd1 i hi
    simp only [List.getElem?_map, List.getElem?_range hi, Option.map_some, Option.some.injEq] at hdi
    subst hdi
    rw [show Tryd.prog.cellsOf 56 = 5 by kernel_rfl] at he
    unfold formD at he
    obtain ⟨_, d0, _, e0, r0⟩ := struct_elem Tryd.underlying56 he 0 _ rfl (by kernel_rfl)
    obtain ⟨_, d1, _, e1, r1⟩ := struct_elem Tryd.underlying56 he 1 _ rfl (by kernel_rfl)
    obtain ⟨_, d2, _, e2, r2⟩ := struct_elem Tryd.underlying56 he 2 _ rfl (by kernel_rfl)
    obtain ⟨_, d3, _, e3, r3⟩ := struct_elem Tryd.underlying56 he 3 _ rfl (by kernel_rfl)
    obtain ⟨_, d4, _, e4, r4⟩ := struct_elem Tryd.underlying56 he 4 _ rfl (by kernel_rfl)
    cases Option.some.inj e0; cases Option.some.inj e1; cases Option.some.inj e2; cases Option.some.inj e3; cases Option.some.inj e4
    have c0 := cell_of_take (by decide) (cell_string Tryd.underlying9 r0)
    have c1 := cell_of_take (by decide) (cell_bool Tryd.underlying4 r1)
    have c2 := cell_of_take (by decide) (cell_int Tryd.underlying23 r2)
    have c3 := cell_of_take (by decide) (cell_int Tryd.underlying3 r3)
    have c4 := cell_of_take (by decide) (cell_int Tryd.underlying3 r4)
    refine ⟨?_, ?_, ?_, ?_, ?_⟩ <;> (rw [World.var?_cell hg1 hv1, ← Array.getElem?_toList]; assumption)
  have K : ∀ q : Int, 0 ≤ q → q < 5 → W.cell? ⟨1, q.toNat * 3, none⟩ = some (.int .i64 (lo q)) ∧ W.cell? ⟨1, q.toNat * 3 + 1, none⟩ = some (.int .i64 (hi q)) ∧ W.cell? ⟨1, q.toNat * 3 + 2, none⟩ = some (.int .i64 (bt q)) := by
    intro q hq0 hq5
    obtain ⟨i, rfl⟩ := Int.eq_ofNat_of_zero_le hq0
    have hi : i < 5 := by omega
    obtain ⟨fu, d, q, hdi, he⟩ := array_elem Tryd.underlying69 hd2 i hi
    simp only [List.getElem?_map, List.getElem?_range hi, Option.map_some, Option.some.injEq] at hdi
    subst hdi
    rw [show Tryd.prog.cellsOf 68 = 3 by kernel_rfl] at he
    unfold kindD at he
    obtain ⟨_, d0, _, e0, r0⟩ := struct_elem Tryd.underlying68 he 0 _ rfl (by kernel_rfl)
    obtain ⟨_, d1, _, e1, r1⟩ := struct_elem Tryd.underlying68 he 1 _ rfl (by kernel_rfl)
    obtain ⟨_, d2, _, e2, r2⟩ := struct_elem Tryd.underlying68 he 2 _ rfl (by kernel_rfl)
    cases Option.some.inj e0; cases Option.some.inj e1; cases Option.some.inj e2
    have c0 := cell_of_take (by decide) (cell_int Tryd.underlying3 r0)
    have c1 := cell_of_take (by decide) (cell_int Tryd.underlying3 r1)
    have c2 := cell_of_take (by decide) (cell_int Tryd.underlying3 r2)
    refine ⟨?_, ?_, ?_⟩ <;> (rw [World.var?_cell hg2 hv2, ← Array.getElem?_toList]; assumption)
  refine ⟨?_, ?_, F, K⟩
  · have := (F 0 (by decide)).1
    exact cell_lt this
  · have := (K 0 (by decide) (by decide)).1
    exact cell_lt this
theorem lay_of_laid {W : World} (h : laidMetH Tryd.prog [("perilune/isa.forms", Rows.laid_perilune_isa_forms), ("perilune/isa.kinds", Rows.laid_perilune_isa_kinds)] W) : Lay W := by
  rw [MakeChecks.laidMetH_plain _ _ _ (by kernel_rfl)] at h
  exact lay_of_reads (laidMet.reads h (.head _)) (laidMet.reads h (.tail _ (.head _)))
end Go.Proofs.YtjkdojdkmgaofaaDoor
