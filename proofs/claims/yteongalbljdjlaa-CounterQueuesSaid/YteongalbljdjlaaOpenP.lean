/- What a statement's frame tells of an argument that is a slice of pulses. -/
import Derived.Test.YteongalbljdjlaaOpen
import Derived.Test.YteongalbljdjlaaPls
set_option linter.unusedSimpArgs false
set_option linter.unusedVariables false
namespace Go.Proofs.Yteongalbljdjlaa
open Go.ChangeShapes Go.WideShapes Go.ChangeAt Go.RowKit Go.Deep
section
variable {H : Type} {enc : TypeId × Value → H} {P : Program} {w : World} {base : Nat} {spare : Nat → Bool} {held : Bool}
/-- A slice of pulses that came in. -/
def IsPulses (w : World) (a : Option Addr) (len cap : Nat) (g h : Nat → Int) : Prop :=
  Pls w a len g h ∧ len ≤ cap ∧ cap ≤ 9223372036854775807 ∧ (a = none → cap = 0)
theorem open_pulses {t e : TypeId} {f0 f1 : Field} {fuel : Nat} {a : Option Addr} {len cap : Nat} {x : DataW H × List MemPlace} (ht : P.underlying t = some (.slice e)) (he : P.underlying e = some (.struct #[f0, f1]))
    (hone : oneCellFields P #[f0, f1] = true) (hC : P.cellsOf e = 2) (h0 : P.underlying f0.type = some (.int .i64)) (h1 : P.underlying f1.type = some (.int .u8)) (h : DataW.trod enc P w base spare held fuel t [.slice a len cap] = some x) :
    ∃ g h, IsPulses w a len cap g h := by
  rcases open_pairs ht he hone hC h with ⟨rfl, rfl, rfl⟩ | ⟨ad, rfl, hl, hm, hi⟩
  · exact ⟨fun _ => 0, fun _ => 0, fun i hi => by omega, by omega, by omega, fun _ => rfl⟩
  · have each : ∀ i, ∃ p q : Int, (i < len → w.cell? (ad.add (i * 2)) = some (.int .i64 p) ∧ w.cell? ⟨(ad.add (i * 2)).block, (ad.add (i * 2)).off + 1, none⟩ = some (.int .u8 q)) := by
      intro i
      by_cases c : i < len
      · obtain ⟨v0, v1, y0, y1, n, c0, c1, t0, t1⟩ := hi i c
        obtain ⟨p, e0, _, w0⟩ := DataW.trod_int h0 t0
        obtain ⟨q, e1, _, w1⟩ := DataW.trod_int h1 t1
        injection e0 with e0 _
        injection e1 with e1 _
        subst e0 e1
        exact ⟨p, q, fun _ => ⟨c0, c1⟩⟩
      · exact ⟨0, 0, fun c' => absurd c' c⟩
    exact ⟨fun i => (each i).choose, fun i => (each i).choose_spec.choose, fun i hi => ⟨ad, rfl, (each i).choose_spec.choose_spec hi⟩, hl, by unfold maxLen at hm; omega, fun h => by cases h⟩
end
end Go.Proofs.Yteongalbljdjlaa
