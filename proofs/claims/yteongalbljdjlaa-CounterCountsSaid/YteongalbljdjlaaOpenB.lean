/- What a statement's frame tells of an argument that is a slice of bytes, and of an array of 28 words. -/
import Derived.Test.YteongalbljdjlaaOpen
import Derived.Test.YteongalbljdjlaaAgg
set_option linter.unusedSimpArgs false
set_option linter.unusedVariables false
set_option maxRecDepth 100000
namespace Go.Proofs.Yteongalbljdjlaa
open Go.ChangeShapes Go.WideShapes Go.ChangeAt Go.RowKit Go.Deep
theorem arr28 {cs : Array Value} (h : cs.size = 28) : ∃ c0 c1 c2 c3 c4 c5 c6 c7 c8 c9 c10 c11 c12 c13 c14 c15 c16 c17 c18 c19 c20 c21 c22 c23 c24 c25 c26 c27, cs = #[c0, c1, c2, c3, c4, c5, c6, c7, c8, c9, c10, c11, c12, c13, c14, c15, c16, c17, c18, c19, c20, c21, c22, c23, c24, c25, c26, c27] := by
  obtain ⟨l⟩ := cs
  match l, h with
  | [c0, c1, c2, c3, c4, c5, c6, c7, c8, c9, c10, c11, c12, c13, c14, c15, c16, c17, c18, c19, c20, c21, c22, c23, c24, c25, c26, c27], _ => exact ⟨c0, c1, c2, c3, c4, c5, c6, c7, c8, c9, c10, c11, c12, c13, c14, c15, c16, c17, c18, c19, c20, c21, c22, c23, c24, c25, c26, c27, rfl⟩
section
variable {H : Type} {enc : TypeId × Value → H} {P : Program} {w : World} {base : Nat} {spare : Nat → Bool} {held : Bool}
/-- A slice of bytes that came in. -/
def IsBytes (w : World) (a : Option Addr) (len cap : Nat) (f : Nat → Int) : Prop := Row .u8 w a len f ∧ len ≤ cap ∧ cap ≤ 9223372036854775807 ∧ (a = none → cap = 0) ∧ ∀ i, 0 ≤ f i ∧ f i < 256
theorem open_bytes {t e : TypeId} {fuel : Nat} {v : Value} {x : DataW H × List MemPlace} (ht : P.underlying t = some (.slice e)) (he : P.underlying e = some (.int .u8)) (hc : P.cellsOf e = 1)
    (h : DataW.trod enc P w base spare held fuel t [v] = some x) : ∃ a l c f, v = .slice a l c ∧ IsBytes w a l c f := by
  rcases open_ints ht he hc h with ⟨hn, _⟩ | ⟨ad, l, c, zs, hcs, _, hl, hm, hz, _, hcell, hwz⟩
  · injection hn with hn _
    exact ⟨none, 0, 0, fun _ => 0, hn, Row.nil, by omega, by omega, fun _ => rfl, fun _ => ⟨by simp, by simp⟩⟩
  · injection hcs with hcs _
    have hlz : l ≤ zs.length := by rw [hz]; split <;> omega
    exact ⟨some ad, l, c, fun i => zs.getD i 0, hcs, fun i hi => ⟨ad, rfl, hcell i (by omega)⟩, hl, by unfold maxLen at hm; omega, fun h => by (cases h), fun i => by
      by_cases d : i < zs.length
      · show 0 ≤ zs.getD i 0 ∧ zs.getD i 0 < 256
        have e : zs.getD i 0 = zs[i] := by rw [List.getD_eq_getElem?_getD, List.getElem?_eq_getElem d]; rfl
        have := bounds_u8 (hwz _ (List.getElem_mem d))
        rw [e]; omega
      · show 0 ≤ zs.getD i 0 ∧ zs.getD i 0 < 256
        rw [List.getD_eq_getElem?_getD, List.getElem?_eq_none (by omega)]; simp⟩
end
end Go.Proofs.Yteongalbljdjlaa
