/- Structs and arrays by value, and what a listed variable's cells are: field by field. -/
import Derived.OpenShut
import Derived.ProofKit
import Derived.LaidMore
import Derived.Lib.LaidU8
namespace Go.Proofs.Yteongalbljdjlaa
open Go.ChangeShapes Go.WideShapes Go.ChangeAt Go.RowKit
section
variable {H : Type} {enc : TypeId × Value → H} {P : Program} {w : World} {base : Nat} {sp : Nat → Bool} {held : Bool} {t : TypeId} {d : DataW H} {p : List MemPlace}
theorem drop_one {l : List Value} {o : Nat} {c : Value} (h : l[o]? = some c) : (l.drop o).take 1 = [c] := by
  obtain ⟨ho, rfl⟩ := List.getElem?_eq_some_iff.1 h
  rw [List.drop_eq_getElem_cons ho]; rfl
/-- A field of one cell of a struct that came in by value. -/
theorem agg_field {fs : Array Field} {cs : Array Value} (ht : P.underlying t = some (.struct fs)) (h : DataW.Trod enc P w base sp held t (.agg cs) d p) (i : Nat) (f : Field) (hf : fs[i]? = some f) (hc : P.cellsOf f.type = 1) (c : Value) (hcs : cs[f.offset]? = some c) :
    ∃ n y, DataW.trod enc P w base sp held n f.type [c] = some y := by
  obtain ⟨fuel, hfu⟩ := h
  obtain ⟨xs, n, rfl, hx, hl, hxl, hall⟩ := DataW.trod_struct ht hfu
  have h1 := hall i f hf
  have hi : i < fs.size := (Array.getElem?_eq_some_iff.1 hf).1
  obtain ⟨y, hy⟩ : ∃ y, xs[i]? = some y := ⟨xs[i]'(by omega), List.getElem?_eq_getElem (by omega)⟩
  rw [hy, hc] at h1
  have e : (((Value.agg cs).cells.toList).drop f.offset).take 1 = [c] := drop_one (by simpa [Value.cells] using hcs)
  rw [e] at h1
  exact ⟨n, y, h1⟩
/-- An element of one cell of an array that came in by value. -/
theorem agg_elem {n : Nat} {e : TypeId} {cs : Array Value} (ht : P.underlying t = some (.array n e)) (h : DataW.Trod enc P w base sp held t (.agg cs) d p) (i : Nat) (hi : i < n) (hc : P.cellsOf e = 1) (c : Value) (hcs : cs[i]? = some c) :
    ∃ n y, DataW.trod enc P w base sp held n e [c] = some y := by
  obtain ⟨fuel, hfu⟩ := h
  obtain ⟨xs, m, rfl, hx, hl, hxl, hall⟩ := DataW.trod_array ht hfu
  have h1 := hall i hi
  obtain ⟨y, hy⟩ : ∃ y, xs[i]? = some y := ⟨xs[i]'(by omega), List.getElem?_eq_getElem (by omega)⟩
  rw [hy, hc, Nat.mul_one] at h1
  have e : (((Value.agg cs).cells.toList).drop i).take 1 = [c] := drop_one (by simpa [Value.cells] using hcs)
  rw [e] at h1
  exact ⟨m, y, h1⟩
theorem okWide_array {n : Nat} {e : TypeId} {r : Reach} {b0 : Nat} {v : Value} (ht : P.underlying t = some (.array n e)) (h : Value.okWide P w r b0 t v) : ∃ cs, v = .agg cs ∧ cs.size = P.cellsOf t := by
  simp only [Value.okWide, ht] at h
  obtain ⟨cs, h1, h2, _⟩ := h
  exact ⟨cs, h1, h2⟩
theorem arr2 {cs : Array Value} (h : cs.size = 2) : ∃ c0 c1, cs = #[c0, c1] := by
  obtain ⟨l⟩ := cs
  match l, h with
  | [c0, c1], _ => exact ⟨c0, c1, rfl⟩
theorem arr6 {cs : Array Value} (h : cs.size = 6) : ∃ c0 c1 c2 c3 c4 c5, cs = #[c0, c1, c2, c3, c4, c5] := by
  obtain ⟨l⟩ := cs
  match l, h with
  | [c0, c1, c2, c3, c4, c5], _ => exact ⟨c0, c1, c2, c3, c4, c5, rfl⟩
/-- A struct's i-th datum and its cells. -/
theorem struct_elem {fuel : Nat} {fs : Array Field} {cs : List Value} {ds : List (DataW H)} (ht : P.underlying t = some (.struct fs)) (h : DataW.trod enc P w base sp held fuel t cs = some (.agg ds, p)) (i : Nat) (f : Field) (hf : fs[i]? = some f) (hc : P.cellsOf f.type = 1) :
    ∃ fuel' d q, ds[i]? = some d ∧ DataW.trod enc P w base sp held fuel' f.type ((cs.drop f.offset).take 1) = some (d, q) := by
  obtain ⟨xs, n, rfl, hx, hl, hxl, hall⟩ := DataW.trod_struct ht h
  have h1 := hall i f hf
  have hi : i < fs.size := (Array.getElem?_eq_some_iff.1 hf).1
  obtain ⟨y, hy⟩ : ∃ y, xs[i]? = some y := ⟨xs[i]'(by omega), List.getElem?_eq_getElem (by omega)⟩
  rw [hy, hc] at h1
  have e : ds = xs.map (·.1) := by have := congrArg Prod.fst hx; simpa using this
  exact ⟨n, y.1, y.2, by rw [e]; simp [hy], h1⟩
theorem cell_of_take {cs : List Value} {a n o : Nat} {v : Value} (hn : o < n) (h : ((((cs.drop a).take n).drop o).take 1) = [v]) : cs[a + o]? = some v := by
  have e := congrArg (·[0]?) h
  simp only [List.getElem?_take, List.getElem?_drop] at e
  simpa [hn] using e
theorem cell_int {fuel : Nat} {k : IntKind} {z : Int} {cs : List Value} (ht : P.underlying t = some (.int k)) (h : DataW.trod enc P w base sp held fuel t cs = some (.lit (.int k z), p)) : cs = [.int k z] := by
  obtain ⟨n, e, hx, _⟩ := DataW.trod_int ht h
  simp only [Prod.mk.injEq, DataW.lit.injEq, Lit.int.injEq, true_and] at hx
  rw [e, hx.1]
theorem cell_bool {fuel : Nat} {b : Bool} {cs : List Value} (ht : P.underlying t = some .bool) (h : DataW.trod enc P w base sp held fuel t cs = some (.lit (.bool b), p)) : cs = [.bool b] := by
  obtain ⟨n, e, hx⟩ := DataW.trod_bool ht h
  simp only [Prod.mk.injEq, DataW.lit.injEq, Lit.bool.injEq] at hx
  rw [e, hx.1]
theorem cell_string {fuel : Nat} {s : ByteArray} {cs : List Value} (ht : P.underlying t = some .string) (h : DataW.trod enc P w base sp held fuel t cs = some (.lit (.string s.data.toList), p)) : cs = [.string s] := by
  obtain ⟨n, e, hx, _⟩ := DataW.trod_string ht h
  simp only [Prod.mk.injEq, DataW.lit.injEq, Lit.string.injEq] at hx
  have : s = n := by
    cases s; cases n
    rename_i x y
    congr 1
    exact Array.toList_inj.1 hx.1
  rw [e, this]
end
end Go.Proofs.Yteongalbljdjlaa
