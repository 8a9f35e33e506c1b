/- Layer 5: how Step ends. -/
import Derived.Test.YtjjkikghfmnikaaGreatDoorQ24
import Derived.Deep.WholeRow
set_option linter.unusedSimpArgs false
set_option linter.unusedVariables false
set_option maxRecDepth 100000
namespace Go.Proofs.YtjjkikghfmnikaaGreatDoor
open Go.ChangeShapes Go.WideShapes Go.ChangeAt Go.RowKit
/-- What Step answers: the error if a word is wanted that doesn't exist. -/
def StepPost (rd : Bool) (ms : Int) (s : St) (w : World) (e : Ending) (w' : World) : Prop := if rd = true ∧ ms ≠ 0 then StepErr ms w e w' else StepRet s w e w'
theorem setCells_setAll (g : Nat) : ∀ (vs : List Value) (o : Nat) (w : World), w.setCells g o vs = setAll w g o vs
  | [], _, _ => rfl
  | v :: vs, o, w => by
    show (w.setCell ⟨g, o, none⟩ v).setCells g (o + 1) vs = _
    rw [setCells_setAll g vs (o + 1)]
    rfl
theorem run_storeAt_blk {P : Program} {w : World} {g : Nat} {l : List Value} (hb : Blk w g l) (t : TypeId) (cs : List Value) (hlen : cs.length = l.length) (hi : (P.info? t).map (·.size) = some cs.length) (h1 : ∀ v ∈ cs, v.oneCell' = true) :
    (Instr.storeAt t (.pointer (some ⟨g, 0, none⟩)) (.agg cs.toArray)).run P w = .ok () (setAll w g 0 cs) := by
  have hcell : ∀ j, j < cs.length → (w.cell? ⟨g, 0 + 0 + j, none⟩).isSome = true := fun j hj => by
    rw [show 0 + 0 + j = j by omega, (hb j (l[j]'(by omega)) (by simp)).1]; rfl
  have hfree : ∀ j, j < cs.length → w.frozen? ⟨g, 0 + 0 + j, none⟩ = false := fun j hj => by
    rw [show 0 + 0 + j = j by omega, (hb j (l[j]'(by omega)) (by simp)).2]
  have hrun := run_storeCells_cells (P := P) g 0 cs 0 w hcell hfree h1
  rw [Nat.add_zero, setCells_setAll] at hrun
  simp only [Instr.storeAt, Instr.sureAddr, Sem.run_bind, Sem.run_pure, Result.andThen]
  cases hq : P.info? t with
  | none => simp [hq] at hi
  | some i =>
    have hs : i.size = cs.length := by simpa [hq] using hi
    simpa [storeVar, sizeOf, typeInfo, hq, Value.cells, hs] using hrun
/-- A whole struct into a block of the call's own. -/
theorem wp_storeBlk {P : Program} {ops : Array Oper} {rest : List Oper} {o : Oper} {a : Act} {w : World} {Q : Exit → Act → World → Prop} (hgd : o.guard = none) (t : TypeId) (x y : Operand) (hop : o.op = Op.store t x y) (hdst : o.dst = none)
    (g : Nat) (l cs : List Value) (hb : Blk w g l) (hx : a.eval x = .pointer (some ⟨g, 0, none⟩)) (hy : a.eval y = .agg cs.toArray) (hlen : cs.length = l.length) (hi : (P.info? t).map (·.size) = some cs.length) (h1 : ∀ v ∈ cs, v.oneCell' = true)
    (h : wpList P ops Q rest a (setAll w g 0 cs)) : wpList P ops Q (o :: rest) a w := by
  refine wpList_plain hgd fun K hK => ?_
  have hrun := run_storeAt_blk (P := P) hb t cs hlen hi h1
  unfold Oper.wp
  simp only [execOp, hop, hx, hy, Sem.run_bind, hrun, Result.andThen]
  have e : a.put o.dst undef = a := by rw [hdst]; rfl
  exact hK _ _ (by rw [e]; exact h)
theorem StepPost.err {ms : Int} {s : St} {w : World} {e : Ending} {w' : World} (h : ms ≠ 0) (k : StepErr ms w e w') : StepPost true ms s w e w' := by
  unfold StepPost; rw [if_pos ⟨rfl, h⟩]; exact k
theorem StepPost.ret {rd : Bool} {ms : Int} {s : St} {w : World} {e : Ending} {w' : World} (h : ¬ (rd = true ∧ ms ≠ 0)) (k : StepRet s w e w') : StepPost rd ms s w e w' := by
  unfold StepPost; rw [if_neg h]; exact k
/-- The end of a step that answers. -/
theorem step_tail (w wc : World) (rd : Bool) (ms : Int) (s1 : St) (A1 A2 A3 : Option Addr) (n1 n2 n3 e1 e2 e3 : Nat) (B2 : Blk wc (w.heap.size + 1 + 1) (rgList rg0)) (B3 : Blk wc (w.heap.size + 1 + 1 + 1) dnL0) (BX : Below w.heap.size w wc)
    (C1 : OwnP .i64 .u16 56 wc (w.heap.size + 4) (.slice A1 n1 e1) s1.cells) (C2 : OwnP .i64 .u16 56 wc (w.heap.size + 4) (.slice A2 n2 e2) s1.outs) (C3 : OwnP .u8 .i64 59 wc (w.heap.size + 4) (.slice A3 n3 e3) s1.reads)
    (R0 : ¬ (rd = true ∧ ms ≠ 0)) (a : Act) (hp : a.tmps.getD 4 undef = .pointer (some ⟨w.heap.size + 1 + 1, 0, none⟩)) (hq : a.tmps.getD 5 undef = .pointer (some ⟨w.heap.size + 1 + 1 + 1, 0, none⟩)) (hx : a.tmps.getD 6 undef = .int .i64 0) (hd : a.defers = []) :
    bodyPost Tryz.prog Tryz.f19 (StepPost rd ms s1 w) .ret a (setAll (setAll wc (w.heap.size + 1 + 1) 0 (rgList s1.r)) (w.heap.size + 1 + 1 + 1) 0 (dnL (.slice A1 n1 e1) (.slice A2 n2 e2) (.slice A3 n3 e3) s1.cyc s1.op)).drew := by
  have Y2 := ((B2.over (rgList s1.r) rfl).others (show w.heap.size + 1 + 1 + 1 ≠ w.heap.size + 1 + 1 by omega) (dnL (.slice A1 n1 e1) (.slice A2 n2 e2) (.slice A3 n3 e3) s1.cyc s1.op) _ 0)
  have Y3 := ((B3.others (show w.heap.size + 1 + 1 ≠ w.heap.size + 1 + 1 + 1 by omega) (rgList s1.r) _ 0).over (dnL (.slice A1 n1 e1) (.slice A2 n2 e2) (.slice A3 n3 e3) s1.cyc s1.op) rfl)
  have YX := below_setAll (w.heap.size + 1 + 1 + 1) (by omega) (dnL (.slice A1 n1 e1) (.slice A2 n2 e2) (.slice A3 n3 e3) s1.cyc s1.op) _ 0 (below_setAll (w.heap.size + 1 + 1) (by omega) (rgList s1.r) _ 0 BX)
  have D1 := OwnP.setAll_low (show w.heap.size + 1 + 1 + 1 < w.heap.size + 4 by omega) (dnL (.slice A1 n1 e1) (.slice A2 n2 e2) (.slice A3 n3 e3) s1.cyc s1.op) _ 0 (OwnP.setAll_low (show w.heap.size + 1 + 1 < w.heap.size + 4 by omega) (rgList s1.r) _ 0 C1)
  have D2 := OwnP.setAll_low (show w.heap.size + 1 + 1 + 1 < w.heap.size + 4 by omega) (dnL (.slice A1 n1 e1) (.slice A2 n2 e2) (.slice A3 n3 e3) s1.cyc s1.op) _ 0 (OwnP.setAll_low (show w.heap.size + 1 + 1 < w.heap.size + 4 by omega) (rgList s1.r) _ 0 C2)
  have D3 := OwnP.setAll_low (show w.heap.size + 1 + 1 + 1 < w.heap.size + 4 by omega) (dnL (.slice A1 n1 e1) (.slice A2 n2 e2) (.slice A3 n3 e3) s1.cyc s1.op) _ 0 (OwnP.setAll_low (show w.heap.size + 1 + 1 < w.heap.size + 4 by omega) (rgList s1.r) _ 0 C3)
  generalize setAll (setAll wc (w.heap.size + 1 + 1) 0 (rgList s1.r)) (w.heap.size + 1 + 1 + 1) 0 (dnL (.slice A1 n1 e1) (.slice A2 n2 e2) (.slice A3 n3 e3) s1.cyc s1.op) = U at Y2 Y3 YX D1 D2 D3 ⊢
  have HRR : StepPost rd ms s1 w (.returned (.tuple #[.agg (rgList s1.r).toArray, .agg (dnL (.slice A1 n1 e1) (.slice A2 n2 e2) (.slice A3 n3 e3) s1.cyc s1.op).toArray, .int .i64 0])) U.drew :=
    StepPost.ret R0 ⟨_, _, _, rfl, D1.drew.low (by omega), D2.drew.low (by omega), D3.drew.low (by omega), YX.drew⟩
  exact ret_step Tryz.results19 Tryz.underlying26 Tryz.underlying48 (rgList s1.r) (dnL (.slice A1 n1 e1) (.slice A2 n2 e2) (.slice A3 n3 e3) s1.cyc s1.op) (by kernel_rfl) (by kernel_rfl) (w.heap.size + 1 + 1) (w.heap.size + 1 + 1 + 1) (.int .i64 0) HRR Y2.drew Y3.drew hp hq hx hd
/-- The end of a step that finds no word. -/
theorem step_miss (w wc : World) (ms : Int) (s : St) (B2 : Blk wc (w.heap.size + 1 + 1) (rgList rg0)) (B3 : Blk wc (w.heap.size + 1 + 1 + 1) dnL0) (BX : Below w.heap.size w wc) (hms : ms ≠ 0)
    (a : Act) (hp : a.tmps.getD 4 undef = .pointer (some ⟨w.heap.size + 1 + 1, 0, none⟩)) (hq : a.tmps.getD 5 undef = .pointer (some ⟨w.heap.size + 1 + 1 + 1, 0, none⟩)) (hx : a.tmps.getD 6 undef = .int .i64 ms) (hd : a.defers = []) :
    bodyPost Tryz.prog Tryz.f19 (StepPost true ms s w) .ret a (setAll (setAll wc (w.heap.size + 1 + 1) 0 (rgList rg0)) (w.heap.size + 1 + 1 + 1) 0 dnL0) := by
  have Y2 := ((B2.over (rgList rg0) rfl).others (show w.heap.size + 1 + 1 + 1 ≠ w.heap.size + 1 + 1 by omega) dnL0 _ 0)
  have Y3 := ((B3.others (show w.heap.size + 1 + 1 ≠ w.heap.size + 1 + 1 + 1 by omega) (rgList rg0) _ 0).over dnL0 rfl)
  have YX := below_setAll (w.heap.size + 1 + 1 + 1) (by omega) dnL0 _ 0 (below_setAll (w.heap.size + 1 + 1) (by omega) (rgList rg0) _ 0 BX)
  generalize setAll (setAll wc (w.heap.size + 1 + 1) 0 (rgList rg0)) (w.heap.size + 1 + 1 + 1) 0 dnL0 = U at Y2 Y3 YX ⊢
  exact ret_step Tryz.results19 Tryz.underlying26 Tryz.underlying48 (rgList rg0) dnL0 (by kernel_rfl) (by kernel_rfl) (w.heap.size + 1 + 1) (w.heap.size + 1 + 1 + 1) (.int .i64 ms) (StepPost.err hms ⟨rfl, YX⟩) Y2 Y3 hp hq hx hd
end Go.Proofs.YtjjkikghfmnikaaGreatDoor
