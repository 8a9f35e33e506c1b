/- Results that are structs and lie in memory. -/
import Derived.Test.YtjjkikghfmnikaaGreatDoorQ03
set_option linter.unusedSimpArgs false
set_option linter.unusedVariables false
namespace Go.Proofs.YtjjkikghfmnikaaGreatDoor
open Go.ChangeShapes Go.WideShapes Go.ChangeAt Go.RowKit
theorem results_cell_tmp2 {fn : Func} {p u v : Tmp} {ty : TypeId} (h : fn.results = #[.cell p ty, .tmp u, .tmp v]) (tmps : Array Value) (P : Program) (w : World) :
    (results fn tmps).run P w =
      ((asAddr (tmps.getD p undef)).run P w).andThen fun a w₁ => ((loadVar ty a).run P w₁).andThen fun x w₂ => .ok (.tuple #[x, tmps.getD u undef, tmps.getD v undef]) w₂ := by
  simp only [results, h]
  simp [Sem.run_bind, Result.andThen]
theorem ret_struct3 {P : Program} {fn : Func} {R : Ending → World → Prop} {a : Act} {w : World} {p u v : Tmp} {T : TypeId} {fs : Array Field} (hres : fn.results = #[.cell p T, .tmp u, .tmp v]) (ht : P.underlying T = some (.struct fs)) (cs : List Value) (hi : (P.info? T).map (·.size) = some cs.length) (g : Nat)
    (hp : a.tmps.getD p undef = .pointer (some ⟨g, 0, none⟩)) (hc : ∀ j v, cs[j]? = some v → w.cell? ⟨g, j, none⟩ = some v) (x y : Value) (hx : a.tmps.getD u undef = x) (hy : a.tmps.getD v undef = y) (hd : a.defers = []) (hR : R (.returned (.tuple #[.agg cs.toArray, x, y])) w) : bodyPost P fn R .ret a w := by
  refine bodyPost_ret ?_ hd hR
  rw [results_cell_tmp2 hres, hp, hx, hy]
  simp [asAddr, Sem.run_bind, Result.andThen, run_loadVar_struct ht cs hi w g hc]
theorem cell_drew (W : World) (p : Addr) : W.drew.cell? p = W.cell? p := rfl
theorem set6d {w : World} {g : Nat} (h : ∀ j, j < 6 → (w.cell? ⟨g, j, none⟩).isSome = true) (v0 v1 v2 v3 v4 v5 : Value) :
    ∀ j v, [v0, v1, v2, v3, v4, v5][j]? = some v → ((((((w.setCell ⟨g, 0, none⟩ v0).setCell ⟨g, 1, none⟩ v1).setCell ⟨g, 2, none⟩ v2).setCell ⟨g, 3, none⟩ v3).setCell ⟨g, 4, none⟩ v4).setCell ⟨g, 5, none⟩ v5).drew.cell? ⟨g, j, none⟩ = some v := by
  intro j v hj
  rw [cell_drew]
  exact set6 h v0 v1 v2 v3 v4 v5 j v hj
end Go.Proofs.YtjjkikghfmnikaaGreatDoor
