/- Results that are one struct. -/
import Derived.Test.YteongalbljdjlaaRes
set_option linter.unusedSimpArgs false
set_option linter.unusedVariables false
namespace Go.Proofs.Yteongalbljdjlaa
open Go.ChangeShapes Go.WideShapes Go.ChangeAt Go.RowKit
theorem results_cell {fn : Func} {p : Tmp} {ty : TypeId} (h : fn.results = #[.cell p ty]) (tmps : Array Value) (P : Program) (w : World) :
    (results fn tmps).run P w = ((asAddr (tmps.getD p undef)).run P w).andThen fun a w₁ => (loadVar ty a).run P w₁ := by
  simp only [results, h]
  simp [Sem.run_bind, Result.andThen]
theorem ret_struct1 {P : Program} {fn : Func} {R : Ending → World → Prop} {a : Act} {w : World} {p : Tmp} {T : TypeId} {fs : Array Field} (hres : fn.results = #[.cell p T]) (ht : P.underlying T = some (.struct fs)) (cs : List Value) (hi : (P.info? T).map (·.size) = some cs.length) (g : Nat)
    (hp : a.tmps.getD p undef = .pointer (some ⟨g, 0, none⟩)) (hc : ∀ j v, cs[j]? = some v → w.cell? ⟨g, j, none⟩ = some v) (hd : a.defers = []) (hR : R (.returned (.agg cs.toArray)) w) : bodyPost P fn R .ret a w := by
  refine bodyPost_ret ?_ hd hR
  rw [results_cell hres, hp]
  simp [asAddr, Sem.run_bind, Result.andThen, run_loadVar_struct ht cs hi w g hc]
theorem at_allocN {w : World} {T : TypeId} {g : Nat} (hg : w.heap.size = g) (cs : List Value) : ∀ j v, cs[j]? = some v → (w.alloc (.cells cs.toArray T)).cell? ⟨g, j, none⟩ = some v := by
  subst hg
  intro j v h
  rw [World.cell?_alloc_at _ _ _ _ rfl, List.getElem?_toArray]
  exact h
end Go.Proofs.Yteongalbljdjlaa
