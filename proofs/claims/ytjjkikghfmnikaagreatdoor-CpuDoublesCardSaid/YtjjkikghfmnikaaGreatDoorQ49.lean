/- Structs and arrays by value, and what a listed variable's cells are: field by field. -/
import Derived.OpenShut
import Derived.ProofKit
import Derived.LaidMore
import Derived.Lib.LaidU8
import Derived.Test.YtjjkikghfmnikaaGreatDoorRows
import Derived.Test.YtjjkikghfmnikaaGreatDoorQ06
import Derived.MakeChecks
namespace Go.Proofs.YtjjkikghfmnikaaGreatDoor
open Go.ChangeShapes Go.WideShapes Go.ChangeAt Go.RowKit
section
variable {H : Type} {enc : TypeId × Value → H} {P : Program} {w : World} {base : Nat} {sp : Nat → Bool} {held : Bool} {t : TypeId} {d : DataW H} {p : List MemPlace}
theorem drop_one {l : List Value} {o : Nat} {c : Value} (h : l[o]? = some c) : (l.drop o).take 1 = [c] := by
  obtain ⟨ho, rfl⟩ := List.getElem?_eq_some_iff.1 h
  rw [List.drop_eq_getElem_cons ho]; rfl
/-- A field of one cell of a struct that came in by value. -/
theorem agg_field {fs : Array Field} {cs : Array Value} (ht : P.underlying t = some (.struct fs)) (h : DataW.Trod enc P w base sp held t (.agg cs) d p) (i : Nat) (f : Field) (hf : fs[i]? = some f) (hc : P.cellsOf f.type = 1) (c : Value) (hcs : cs[f.offset]? = some c) :
    ∃ n y, DataW.trod enc P w base sp held n f.type [c] = some y := by
  obtain ⟨fuel, hfu⟩ := h
  obtain ⟨xs, n, rfl, hx, hl, hxl, hall⟩ := DataW.trod_struct ht hfu
  have h1 := hall i f hf
  have hi : i < fs.size := (Array.getElem?_eq_some_iff.1 hf).1
  obtain ⟨y, hy⟩ : ∃ y, xs[i]? = some y := ⟨xs[i]'(by omega), List.getElem?_eq_getElem (by omega)⟩
  rw [hy, hc] at h1
  have e : (((Value.agg cs).cells.toList).drop f.offset).take 1 = [c] := drop_one (by simpa [Value.cells] using hcs)
  rw [e] at h1
  exact ⟨n, y, h1⟩
/-- An element of one cell of an array that came in by value. -/
theorem agg_elem {n : Nat} {e : TypeId} {cs : Array Value} (ht : P.underlying t = some (.array n e)) (h : DataW.Trod enc P w base sp held t (.agg cs) d p) (i : Nat) (hi : i < n) (hc : P.cellsOf e = 1) (c : Value) (hcs : cs[i]? = some c) :
    ∃ n y, DataW.trod enc P w base sp held n e [c] = some y := by
  obtain ⟨fuel, hfu⟩ := h
  obtain ⟨xs, m, rfl, hx, hl, hxl, hall⟩ := DataW.trod_array ht hfu
  have h1 := hall i hi
  obtain ⟨y, hy⟩ : ∃ y, xs[i]? = some y := ⟨xs[i]'(by omega), List.getElem?_eq_getElem (by omega)⟩
  rw [hy, hc, Nat.mul_one] at h1
  have e : (((Value.agg cs).cells.toList).drop i).take 1 = [c] := drop_one (by simpa [Value.cells] using hcs)
  rw [e] at h1
  exact ⟨m, y, h1⟩
theorem okWide_array {n : Nat} {e : TypeId} {r : Reach} {b0 : Nat} {v : Value} (ht : P.underlying t = some (.array n e)) (h : Value.okWide P w r b0 t v) : ∃ cs, v = .agg cs ∧ cs.size = P.cellsOf t := by
  simp only [Value.okWide, ht] at h
  obtain ⟨cs, h1, h2, _⟩ := h
  exact ⟨cs, h1, h2⟩
theorem arr2 {cs : Array Value} (h : cs.size = 2) : ∃ c0 c1, cs = #[c0, c1] := by
  obtain ⟨l⟩ := cs
  match l, h with
  | [c0, c1], _ => exact ⟨c0, c1, rfl⟩
theorem arr6 {cs : Array Value} (h : cs.size = 6) : ∃ c0 c1 c2 c3 c4 c5, cs = #[c0, c1, c2, c3, c4, c5] := by
  obtain ⟨l⟩ := cs
  match l, h with
  | [c0, c1, c2, c3, c4, c5], _ => exact ⟨c0, c1, c2, c3, c4, c5, rfl⟩
/-- A struct's i-th datum and its cells. -/
theorem struct_elem {fuel : Nat} {fs : Array Field} {cs : List Value} {ds : List (DataW H)} (ht : P.underlying t = some (.struct fs)) (h : DataW.trod enc P w base sp held fuel t cs = some (.agg ds, p)) (i : Nat) (f : Field) (hf : fs[i]? = some f) (hc : P.cellsOf f.type = 1) :
    ∃ fuel' d q, ds[i]? = some d ∧ DataW.trod enc P w base sp held fuel' f.type ((cs.drop f.offset).take 1) = some (d, q) := by
  obtain ⟨xs, n, rfl, hx, hl, hxl, hall⟩ := DataW.trod_struct ht h
  have h1 := hall i f hf
  have hi : i < fs.size := (Array.getElem?_eq_some_iff.1 hf).1
  obtain ⟨y, hy⟩ : ∃ y, xs[i]? = some y := ⟨xs[i]'(by omega), List.getElem?_eq_getElem (by omega)⟩
  rw [hy, hc] at h1
  have e : ds = xs.map (·.1) := by have := congrArg Prod.fst hx; simpa using this
  exact ⟨n, y.1, y.2, by rw [e]; simp [hy], h1⟩
theorem cell_of_take {cs : List Value} {a n o : Nat} {v : Value} (hn : o < n) (h : ((((cs.drop a).take n).drop o).take 1) = [v]) : cs[a + o]? = some v := by
  have e := congrArg (·[0]?) h
  simp only [List.getElem?_take, List.getElem?_drop] at e
  simpa [hn] using e
theorem cell_int {fuel : Nat} {k : IntKind} {z : Int} {cs : List Value} (ht : P.underlying t = some (.int k)) (h : DataW.trod enc P w base sp held fuel t cs = some (.lit (.int k z), p)) : cs = [.int k z] := by
  obtain ⟨n, e, hx, _⟩ := DataW.trod_int ht h
  simp only [Prod.mk.injEq, DataW.lit.injEq, Lit.int.injEq, true_and] at hx
  rw [e, hx.1]
theorem cell_bool {fuel : Nat} {b : Bool} {cs : List Value} (ht : P.underlying t = some .bool) (h : DataW.trod enc P w base sp held fuel t cs = some (.lit (.bool b), p)) : cs = [.bool b] := by
  obtain ⟨n, e, hx⟩ := DataW.trod_bool ht h
  simp only [Prod.mk.injEq, DataW.lit.injEq, Lit.bool.injEq] at hx
  rw [e, hx.1]
theorem cell_string {fuel : Nat} {s : ByteArray} {cs : List Value} (ht : P.underlying t = some .string) (h : DataW.trod enc P w base sp held fuel t cs = some (.lit (.string s.data.toList), p)) : cs = [.string s] := by
  obtain ⟨n, e, hx, _⟩ := DataW.trod_string ht h
  simp only [Prod.mk.injEq, DataW.lit.injEq, Lit.string.injEq] at hx
  have : s = n := by
    cases s; cases n
    rename_i x y
    congr 1
    exact Array.toList_inj.1 hx.1
  rw [e, this]
end
end Go.Proofs.YtjjkikghfmnikaaGreatDoor

/- What the listed variables of layer 4 give: the tables read as laid. -/
set_option linter.unusedSimpArgs false
set_option linter.unusedVariables false
namespace Go.Proofs.YtjjkikghfmnikaaGreatDoor
open Go.ChangeShapes Go.WideShapes Go.ChangeAt Go.RowKit Go.Lib
theorem cell_lt {w : World} {b o : Nat} {v : Value} (h : w.cell? ⟨b, o, none⟩ = some v) : b < w.heap.size := by
  unfold World.cell? at h
  split at h
  · rename_i hb; exact (Array.getElem?_eq_some_iff.1 hb).1
  · cases h
def formD (i : Nat) : DataW Unit := .agg [.lit (.string (nm i).data.toList), .lit (.bool (decide (19 ≤ i))), .lit (.int .u8 (kd i)), .lit (.int .i64 (bs i)), .lit (.int .i64 (cy i))]
def kindD (i : Nat) : DataW Unit := .agg [.lit (.int .i64 (lo i)), .lit (.int .i64 (hi i)), .lit (.int .i64 (bt i))]
theorem formsD : (Rows.laid_perilune_isa_forms : DataW Unit) = .agg ((List.range 39).map formD) := by kernel_rfl
theorem kindsD : (Rows.laid_perilune_isa_kinds : DataW Unit) = .agg ((List.range 5).map kindD) := by kernel_rfl
theorem lay_of_reads {W : World} (h1 : VarReads Tryz.prog W "perilune/isa.forms" Rows.laid_perilune_isa_forms) (h2 : VarReads Tryz.prog W "perilune/isa.kinds" Rows.laid_perilune_isa_kinds) : Lay W := by
  obtain ⟨g1, t1, cs1, fu1, p1, hg1, ht1, hv1, hd1⟩ := h1
  obtain ⟨g2, t2, cs2, fu2, p2, hg2, ht2, hv2, hd2⟩ := h2
  obtain rfl := Option.some.inj ((show Tryz.prog.globalNamed "perilune/isa.forms" = some 0 by kernel_rfl).symm.trans hg1)
  obtain rfl := Option.some.inj ((show Tryz.prog.globalNamed "perilune/isa.kinds" = some 1 by kernel_rfl).symm.trans hg2)
  obtain rfl := Option.some.inj ((show (Tryz.prog.globals[0]?).map (·.type) = some 124 by kernel_rfl).symm.trans ht1)
  obtain rfl := Option.some.inj ((show (Tryz.prog.globals[1]?).map (·.type) = some 154 by kernel_rfl).symm.trans ht2)
  rw [formsD] at hd1
  rw [kindsD] at hd2
  have F : ∀ i, i < 39 → W.cell? ⟨0, i * 5, none⟩ = some (.string (nm i)) ∧ W.cell? ⟨0, i * 5 + 1, none⟩ = some (.bool (decide (19 ≤ i))) ∧ W.cell? ⟨0, i * 5 + 2, none⟩ = some (.int .u8 (kd i)) ∧ W.cell? ⟨0, i * 5 + 3, none⟩ = some (.int .i64 (bs i)) ∧ W.cell? ⟨0, i * 5 + 4, none⟩ = some (.int .i64 (cy i)) := by
    intro i hi
    obtain ⟨fu, d, q, hdi, he⟩ := array_elem Tryz.underlying124 hd1 i hi
    simp only [List.getElem?_map, List.getElem?_range hi, Option.map_some, Option.some.injEq] at hdi
    subst hdi
    rw [show Tryz.prog.cellsOf 123 = 5 by kernel_rfl] at he
    unfold formD at he
    obtain ⟨_, d0, _, e0, r0⟩ := struct_elem Tryz.underlying123 he 0 _ rfl (by kernel_rfl)
    obtain ⟨_, d1, _, e1, r1⟩ := struct_elem Tryz.underlying123 he 1 _ rfl (by kernel_rfl)
    obtain ⟨_, d2, _, e2, r2⟩ := struct_elem Tryz.underlying123 he 2 _ rfl (by kernel_rfl)
    obtain ⟨_, d3, _, e3, r3⟩ := struct_elem Tryz.underlying123 he 3 _ rfl (by kernel_rfl)
    obtain ⟨_, d4, _, e4, r4⟩ := struct_elem Tryz.underlying123 he 4 _ rfl (by kernel_rfl)
    cases Option.some.inj e0; cases Option.some.inj e1; cases Option.some.inj e2; cases Option.some.inj e3; cases Option.some.inj e4
    have c0 := cell_of_take (by decide) (cell_string Tryz.underlying9 r0)
    have c1 := cell_of_take (by decide) (cell_bool Tryz.underlying4 r1)
    have c2 := cell_of_take (by decide) (cell_int Tryz.underlying39 r2)
    have c3 := cell_of_take (by decide) (cell_int Tryz.underlying3 r3)
    have c4 := cell_of_take (by decide) (cell_int Tryz.underlying3 r4)
    refine ⟨?_, ?_, ?_, ?_, ?_⟩ <;> (rw [World.var?_cell hg1 hv1, ← Array.getElem?_toList]; assumption)
  have K : ∀ q : Int, 0 ≤ q → q < 5 → W.cell? ⟨1, q.toNat * 3, none⟩ = some (.int .i64 (lo q)) ∧ W.cell? ⟨1, q.toNat * 3 + 1, none⟩ = some (.int .i64 (hi q)) ∧ W.cell? ⟨1, q.toNat * 3 + 2, none⟩ = some (.int .i64 (bt q)) := by
    intro q hq0 hq5
    obtain ⟨i, rfl⟩ := Int.eq_ofNat_of_zero_le hq0
    have hi : i < 5 := by omega
    obtain ⟨fu, d, q, hdi, he⟩ := array_elem Tryz.underlying154 hd2 i hi
    simp only [List.getElem?_map, List.getElem?_range hi, Option.map_some, Option.some.injEq] at hdi
    subst hdi
    rw [show Tryz.prog.cellsOf 153 = 3 by kernel_rfl] at he
    unfold kindD at he
    obtain ⟨_, d0, _, e0, r0⟩ := struct_elem Tryz.underlying153 he 0 _ rfl (by kernel_rfl)
    obtain ⟨_, d1, _, e1, r1⟩ := struct_elem Tryz.underlying153 he 1 _ rfl (by kernel_rfl)
    obtain ⟨_, d2, _, e2, r2⟩ := struct_elem Tryz.underlying153 he 2 _ rfl (by kernel_rfl)
    cases Option.some.inj e0; cases Option.some.inj e1; cases Option.some.inj e2
    have c0 := cell_of_take (by decide) (cell_int Tryz.underlying3 r0)
    have c1 := cell_of_take (by decide) (cell_int Tryz.underlying3 r1)
    have c2 := cell_of_take (by decide) (cell_int Tryz.underlying3 r2)
    refine ⟨?_, ?_, ?_⟩ <;> (rw [World.var?_cell hg2 hv2, ← Array.getElem?_toList]; assumption)
  refine ⟨?_, ?_, F, K⟩
  · have := (F 0 (by decide)).1
    exact cell_lt this
  · have := (K 0 (by decide) (by decide)).1
    exact cell_lt this
theorem lay_of_laid {W : World} (h : laidMetH Tryz.prog [("perilune/isa.forms", Rows.laid_perilune_isa_forms), ("perilune/isa.kinds", Rows.laid_perilune_isa_kinds)] W) : Lay W := by
  rw [MakeChecks.laidMetH_plain _ _ _ (by kernel_rfl)] at h
  exact lay_of_reads (laidMet.reads h (.head _)) (laidMet.reads h (.tail _ (.head _)))
end Go.Proofs.YtjjkikghfmnikaaGreatDoor
