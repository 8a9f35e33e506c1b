/- Results that are structs and lie in memory. -/
import Derived.Test.YteongalbljdjlaaApp
import Derived.Laws.ResultCell
set_option linter.unusedSimpArgs false
set_option linter.unusedVariables false
namespace Go.Proofs.Yteongalbljdjlaa
open Go.ChangeShapes Go.WideShapes Go.ChangeAt Go.RowKit
theorem run_loadVar_struct {P : Program} {T : TypeId} {fs : Array Field} (ht : P.underlying T = some (.struct fs)) (cs : List Value) (hi : (P.info? T).map (·.size) = some cs.length) (w : World) (g : Nat)
    (hc : ∀ j v, cs[j]? = some v → w.cell? ⟨g, j, none⟩ = some v) : (loadVar T ⟨g, 0, none⟩).run P w = .ok (.agg cs.toArray) w := by
  have hl := run_loadCells_list (P := P) w ⟨g, 0, none⟩ cs (fun j v hj => by
    have e1 : (⟨g, 0, none⟩ : Addr).add j = ⟨g, j, none⟩ := by unfold Addr.add; by_cases c : j = 0 <;> simp [c]
    rw [e1]; exact hc j v hj)
  cases hq : P.info? T with
  | none => simp [hq] at hi
  | some i =>
    have hs : i.size = cs.length := by simpa [hq] using hi
    simp [loadVar, isAgg, run_underlying ht, sizeOf, typeInfo, hq, hs, hl, Sem.run_bind, Result.andThen]
theorem ret_struct2 {P : Program} {fn : Func} {R : Ending → World → Prop} {a : Act} {w : World} {p u : Tmp} {T : TypeId} {fs : Array Field} (hres : fn.results = #[.cell p T, .tmp u]) (ht : P.underlying T = some (.struct fs)) (cs : List Value) (hi : (P.info? T).map (·.size) = some cs.length) (g : Nat)
    (hp : a.tmps.getD p undef = .pointer (some ⟨g, 0, none⟩)) (hc : ∀ j v, cs[j]? = some v → w.cell? ⟨g, j, none⟩ = some v) (x : Value) (hx : a.tmps.getD u undef = x) (hd : a.defers = []) (hR : R (.returned (.tuple #[.agg cs.toArray, x])) w) : bodyPost P fn R .ret a w := by
  refine bodyPost_ret ?_ hd hR
  rw [results_cell_tmp hres, hp, hx]
  simp [asAddr, Sem.run_bind, Result.andThen, run_loadVar_struct ht cs hi w g hc]
theorem set6 {w : World} {g : Nat} (h : ∀ j, j < 6 → (w.cell? ⟨g, j, none⟩).isSome = true) (v0 v1 v2 v3 v4 v5 : Value) :
    ∀ j v, [v0, v1, v2, v3, v4, v5][j]? = some v → ((((((w.setCell ⟨g, 0, none⟩ v0).setCell ⟨g, 1, none⟩ v1).setCell ⟨g, 2, none⟩ v2).setCell ⟨g, 3, none⟩ v3).setCell ⟨g, 4, none⟩ v4).setCell ⟨g, 5, none⟩ v5).cell? ⟨g, j, none⟩ = some v := by
  have h0 := h 0 (by omega)
  have h1 := h 1 (by omega)
  have h2 := h 2 (by omega)
  have h3 := h 3 (by omega)
  have h4 := h 4 (by omega)
  have h5 := h 5 (by omega)
  intro j v hj
  match j, hj with
  | 0, hj => simp at hj; subst hj; simp [go_sem, h0]
  | 1, hj => simp at hj; subst hj; simp [go_sem, h1]
  | 2, hj => simp at hj; subst hj; simp [go_sem, h2]
  | 3, hj => simp at hj; subst hj; simp [go_sem, h3]
  | 4, hj => simp at hj; subst hj; simp [go_sem, h4]
  | 5, hj => simp at hj; subst hj; simp [go_sem, h5]
  | j + 6, hj => simp at hj
end Go.Proofs.Yteongalbljdjlaa
