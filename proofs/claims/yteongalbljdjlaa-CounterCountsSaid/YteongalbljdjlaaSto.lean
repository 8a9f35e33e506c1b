/- A whole array or struct stored into a block of the call's own. -/
import Derived.Test.YteongalbljdjlaaBlk
import Derived.Deep.WholeRow
import Derived.Test.YteongalbljdjlaaRes1
set_option linter.unusedSimpArgs false
set_option linter.unusedVariables false
namespace Go.Proofs.Yteongalbljdjlaa
open Go.ChangeShapes Go.WideShapes Go.ChangeAt Go.RowKit
theorem setCells_size (g : Nat) : ∀ (m : List Value) (j : Nat) (w : World), (w.setCells g j m).heap.size = w.heap.size
  | [], _, _ => rfl
  | v :: m, j, w => by
    show ((w.setCell ⟨g, j, none⟩ v).setCells g (j + 1) m).heap.size = _
    rw [setCells_size g m]; simp
theorem below_setCells {B : Nat} {a : World} (g : Nat) (hg : B ≤ g) : ∀ (m : List Value) (j : Nat) (w : World), Below B a w → Below B a (w.setCells g j m)
  | [], _, _, h => h
  | v :: m, j, w, h => below_setCells g hg m (j + 1) _ (h.setCell (p := ⟨g, j, none⟩) hg v)
theorem take_set_succ' : ∀ (l : List Value) (j : Nat) (v : Value), j < l.length → (l.set j v).take (j + 1) = l.take j ++ [v]
  | [], _, _, h => absurd h (by simp)
  | x :: l, 0, v, _ => by simp
  | x :: l, j + 1, v, h => by
    have := take_set_succ' l j v (by simpa using h)
    simp only [List.set_cons_succ, List.take_succ_cons, List.cons_append]
    rw [this]
theorem Blk.cellsFrom {g : Nat} : ∀ (m : List Value) (j : Nat) (w : World) (l : List Value), Blk w g l → j + m.length = l.length → Blk (w.setCells g j m) g (l.take j ++ m)
  | [], j, w, l, h, e => by
    simp only [List.length_nil, Nat.add_zero] at e
    subst e
    simpa [World.setCells] using h
  | v :: m, j, w, l, h, e => by
    simp only [List.length_cons] at e
    have h1 := h.set j (by omega) v
    have := Blk.cellsFrom m (j + 1) _ _ h1 (by simp; omega)
    have e2 := take_set_succ' l j v (by omega)
    rw [e2] at this
    simpa [World.setCells] using this
theorem Blk.overS {w : World} {g : Nat} {l : List Value} (h : Blk w g l) (m : List Value) (e : m.length = l.length) : Blk (w.setCells g 0 m) g m := by
  have := Blk.cellsFrom m 0 w l h (by omega)
  simpa using this
theorem Blk.othersS {g g' : Nat} (hne : g' ≠ g) : ∀ (m : List Value) (j : Nat) (w : World) (l : List Value), Blk w g l → Blk (w.setCells g' j m) g l
  | [], _, _, _, h => h
  | v :: m, j, w, l, h => Blk.othersS hne m (j + 1) _ l (h.other hne j v)
theorem run_storeAt_blkS {P : Program} {w : World} {g : Nat} {l : List Value} (hb : Blk w g l) (t : TypeId) (cs : List Value) (hlen : cs.length = l.length) (hi : (P.info? t).map (·.size) = some cs.length) (h1 : ∀ v ∈ cs, v.oneCell' = true) :
    (Instr.storeAt t (.pointer (some ⟨g, 0, none⟩)) (.agg cs.toArray)).run P w = .ok () (w.setCells g 0 cs) := by
  have hcell : ∀ j, j < cs.length → (w.cell? ⟨g, 0 + 0 + j, none⟩).isSome = true := fun j hj => by
    rw [show 0 + 0 + j = j by omega, (hb j (l[j]'(by omega)) (by simp)).1]; rfl
  have hfree : ∀ j, j < cs.length → w.frozen? ⟨g, 0 + 0 + j, none⟩ = false := fun j hj => by
    rw [show 0 + 0 + j = j by omega, (hb j (l[j]'(by omega)) (by simp)).2]
  have hrun := run_storeCells_cells (P := P) g 0 cs 0 w hcell hfree h1
  rw [Nat.add_zero] at hrun
  simp only [Instr.storeAt, Instr.sureAddr, Sem.run_bind, Sem.run_pure, Result.andThen]
  cases hq : P.info? t with
  | none => simp [hq] at hi
  | some i =>
    have hs : i.size = cs.length := by simpa [hq] using hi
    simpa [storeVar, sizeOf, typeInfo, hq, Value.cells, hs] using hrun
theorem wp_storeBlkS {P : Program} {ops : Array Oper} {rest : List Oper} {o : Oper} {a : Act} {w : World} {Q : Exit → Act → World → Prop} (hgd : o.guard = none) (t : TypeId) (x y : Operand) (hop : o.op = Op.store t x y) (hdst : o.dst = none)
    (g : Nat) (l cs : List Value) (hb : Blk w g l) (hx : a.eval x = .pointer (some ⟨g, 0, none⟩)) (hy : a.eval y = .agg cs.toArray) (hlen : cs.length = l.length) (hi : (P.info? t).map (·.size) = some cs.length) (h1 : ∀ v ∈ cs, v.oneCell' = true)
    (h : wpList P ops Q rest a (w.setCells g 0 cs)) : wpList P ops Q (o :: rest) a w := by
  refine wpList_plain hgd fun K hK => ?_
  have hrun := run_storeAt_blkS (P := P) hb t cs hlen hi h1
  unfold Oper.wp
  simp only [execOp, hop, hx, hy, Sem.run_bind, hrun, Result.andThen]
  have e : a.put o.dst undef = a := by rw [hdst]; rfl
  exact hK _ _ (by rw [e]; exact h)
theorem run_loadVar_arr {P : Program} {T : TypeId} {n : Nat} {e : TypeId} (ht : P.underlying T = some (.array n e)) (cs : List Value) (hi : (P.info? T).map (·.size) = some cs.length) (w : World) (g : Nat)
    (hc : ∀ j v, cs[j]? = some v → w.cell? ⟨g, j, none⟩ = some v) : (loadVar T ⟨g, 0, none⟩).run P w = .ok (.agg cs.toArray) w := by
  have hl := run_loadCells_list (P := P) w ⟨g, 0, none⟩ cs (fun j v hj => by
    have e1 : (⟨g, 0, none⟩ : Addr).add j = ⟨g, j, none⟩ := by unfold Addr.add; by_cases c : j = 0 <;> simp [c]
    rw [e1]; exact hc j v hj)
  cases hq : P.info? T with
  | none => simp [hq] at hi
  | some i =>
    have hs : i.size = cs.length := by simpa [hq] using hi
    simp [loadVar, isAgg, run_underlying ht, sizeOf, typeInfo, hq, hs, hl, Sem.run_bind, Result.andThen]
theorem ret_arr1 {P : Program} {fn : Func} {R : Ending → World → Prop} {a : Act} {w : World} {p : Tmp} {T : TypeId} {n : Nat} {e : TypeId} (hres : fn.results = #[.cell p T]) (ht : P.underlying T = some (.array n e)) (cs : List Value) (hi : (P.info? T).map (·.size) = some cs.length) (g : Nat)
    (hp : a.tmps.getD p undef = .pointer (some ⟨g, 0, none⟩)) (hc : ∀ j v, cs[j]? = some v → w.cell? ⟨g, j, none⟩ = some v) (hd : a.defers = []) (hR : R (.returned (.agg cs.toArray)) w) : bodyPost P fn R .ret a w := by
  refine bodyPost_ret ?_ hd hR
  rw [results_cell hres, hp]
  simp [asAddr, Sem.run_bind, Result.andThen, run_loadVar_arr ht cs hi w g hc]
end Go.Proofs.Yteongalbljdjlaa
