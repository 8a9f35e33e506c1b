/- What a statement's frame tells of arguments that are slices of structs of two fields. -/
import Derived.Test.YteongalbljdjlaaCells
import Derived.Test.YteongalbljdjlaaBanks
import Derived.ChangeSlices
import Derived.ChangeSame
import Derived.Deep.Slices
import Derived.Deep.Fields
set_option linter.unusedSimpArgs false
set_option linter.unusedVariables false
namespace Go.Proofs.Yteongalbljdjlaa
open Go.ChangeShapes Go.WideShapes Go.ChangeAt Go.RowKit Go.Deep
section
variable {H : Type} {enc : TypeId × Value → H} {P : Program} {w : World} {base : Nat} {spare : Nat → Bool} {held : Bool}
theorem add_one_at (a : Addr) : a.add 1 = ⟨a.block, a.off + 1, none⟩ := by unfold Addr.add; rw [if_neg (by omega)]
theorem open_pairs {t e : TypeId} {f0 f1 : Field} {fuel : Nat} {a : Option Addr} {len cap : Nat} {x : DataW H × List MemPlace} (ht : P.underlying t = some (.slice e)) (he : P.underlying e = some (.struct #[f0, f1]))
    (hone : oneCellFields P #[f0, f1] = true) (hC : P.cellsOf e = 2) (h : DataW.trod enc P w base spare held fuel t [.slice a len cap] = some x) :
    (a = none ∧ len = 0 ∧ cap = 0) ∨ ∃ ad, a = some ad ∧ len ≤ cap ∧ cap ≤ maxLen ∧ ∀ i, i < len → ∃ (v0 v1 : Value) (y0 y1 : DataW H × List MemPlace) (n : Nat),
      w.cell? (ad.add (i * 2)) = some v0 ∧ w.cell? ⟨(ad.add (i * 2)).block, (ad.add (i * 2)).off + 1, none⟩ = some v1 ∧ DataW.trod enc P w base spare held n f0.type [v0] = some y0 ∧ DataW.trod enc P w base spare held n f1.type [v1] = some y1 := by
  rcases open_slice ht h with ⟨hn, _⟩ | ⟨ad, l, c, m, n, D, Pl, hcs, _, hl, hm, hmm, _, hi⟩
  · left
    injection hn with hn _
    injection hn with h1 h2 h3
    exact ⟨h1, h2, h3⟩
  · right
    injection hcs with hcs _
    injection hcs with h1 h2 h3
    subst h1 h2 h3
    refine ⟨ad, rfl, hl, hm, fun i hil => ?_⟩
    have him : i < m := by rw [hmm]; split <;> omega
    obtain ⟨cs, hc, ht'⟩ := hi i him
    rw [hC] at hc
    obtain ⟨_, hlen, hat⟩ := World.cells?_some hc
    obtain ⟨ys, k, _, _, _, hyl, hf⟩ := DataW.trod_struct he ht'
    obtain ⟨o0, k0⟩ := hone_of hone 0 f0 rfl
    obtain ⟨o1, k1⟩ := hone_of hone 1 f1 rfl
    match cs, hlen with
    | [v0, v1], _ =>
      match ys, hyl with
      | [y0, y1], _ =>
        refine ⟨v0, v1, y0, y1, k, ?_, ?_, ?_, ?_⟩
        · exact hat 0 (by omega)
        · have := hat 1 (by omega)
          rw [add_one_at] at this
          exact this
        · have := hf 0 f0 rfl
          rw [o0, k0] at this
          exact this
        · have := hf 1 f1 rfl
          rw [o1, k1] at this
          exact this
/-- A slice of cells that came in. -/
def IsCells (w : World) (a : Option Addr) (len cap : Nat) (g h : Nat → Int) : Prop :=
  Cells w a len g h ∧ len ≤ cap ∧ cap ≤ 9223372036854775807 ∧ (∀ i, -9223372036854775808 ≤ g i ∧ g i ≤ 9223372036854775807) ∧ ∀ i, 0 ≤ h i ∧ h i < 65536
theorem open_cells {t e : TypeId} {f0 f1 : Field} {fuel : Nat} {a : Option Addr} {len cap : Nat} {x : DataW H × List MemPlace} (ht : P.underlying t = some (.slice e)) (he : P.underlying e = some (.struct #[f0, f1]))
    (hone : oneCellFields P #[f0, f1] = true) (hC : P.cellsOf e = 2) (h0 : P.underlying f0.type = some (.int .i64)) (h1 : P.underlying f1.type = some (.int .u16)) (h : DataW.trod enc P w base spare held fuel t [.slice a len cap] = some x) :
    ∃ g h, IsCells w a len cap g h := by
  rcases open_pairs ht he hone hC h with ⟨rfl, rfl, rfl⟩ | ⟨ad, rfl, hl, hm, hi⟩
  · exact ⟨fun _ => 0, fun _ => 0, Cells.nil, by omega, by omega, fun _ => ⟨by simp, by simp⟩, fun _ => ⟨by simp, by simp⟩⟩
  · have each : ∀ i, ∃ p q : Int, (i < len → w.cell? (ad.add (i * 2)) = some (.int .i64 p) ∧ w.cell? ⟨(ad.add (i * 2)).block, (ad.add (i * 2)).off + 1, none⟩ = some (.int .u16 q)) ∧ (-9223372036854775808 ≤ p ∧ p ≤ 9223372036854775807) ∧ 0 ≤ q ∧ q < 65536 := by
      intro i
      by_cases c : i < len
      · obtain ⟨v0, v1, y0, y1, n, c0, c1, t0, t1⟩ := hi i c
        obtain ⟨p, e0, _, w0⟩ := DataW.trod_int h0 t0
        obtain ⟨q, e1, _, w1⟩ := DataW.trod_int h1 t1
        injection e0 with e0 _
        injection e1 with e1 _
        subst e0 e1
        have b0 := bounds_i64 w0
        have b1 := bounds_u16 w1
        exact ⟨p, q, fun _ => ⟨c0, c1⟩, by omega, by omega, by omega⟩
      · exact ⟨0, 0, fun h => absurd h c, by omega, by omega, by omega⟩
    obtain ⟨g, hg⟩ := Classical.axiomOfChoice each
    obtain ⟨k, hk⟩ := Classical.axiomOfChoice hg
    exact ⟨g, k, fun i hil => ⟨ad, rfl, (hk i).1 hil⟩, hl, by unfold maxLen at hm; omega, fun i => (hk i).2.1, fun i => (hk i).2.2⟩
/-- A slice of banks that came in. -/
def IsBanks (w : World) (a : Option Addr) (len cap : Nat) (b : BankF) : Prop := Banks w a len b ∧ len ≤ cap ∧ cap ≤ 9223372036854775807 ∧ b.Fits
/-- A slice of words that came in. -/
def IsWords (w : World) (a : Option Addr) (len cap : Nat) (f : Nat → Int) : Prop := Row .u16 w a len f ∧ len ≤ cap ∧ cap ≤ 9223372036854775807 ∧ (a = none → cap = 0) ∧ ∀ i, 0 ≤ f i ∧ f i < 65536
theorem open_words {t e : TypeId} {fuel : Nat} {v : Value} {x : DataW H × List MemPlace} (ht : P.underlying t = some (.slice e)) (he : P.underlying e = some (.int .u16)) (hc : P.cellsOf e = 1)
    (h : DataW.trod enc P w base spare held fuel t [v] = some x) : ∃ a l c f, v = .slice a l c ∧ IsWords w a l c f := by
  rcases open_ints ht he hc h with ⟨hn, _⟩ | ⟨ad, l, c, zs, hcs, _, hl, hm, hz, _, hcell, hwz⟩
  · injection hn with hn _
    exact ⟨none, 0, 0, fun _ => 0, hn, Row.nil, by omega, by omega, fun _ => rfl, fun _ => ⟨by simp, by simp⟩⟩
  · injection hcs with hcs _
    have hlz : l ≤ zs.length := by rw [hz]; split <;> omega
    exact ⟨some ad, l, c, fun i => zs.getD i 0, hcs, fun i hi => ⟨ad, rfl, hcell i (by omega)⟩, hl, by unfold maxLen at hm; omega, fun h => by (cases h), fun i => by
      by_cases d : i < zs.length
      · show 0 ≤ zs.getD i 0 ∧ zs.getD i 0 < 65536
        have e : zs.getD i 0 = zs[i] := by rw [List.getD_eq_getElem?_getD, List.getElem?_eq_getElem d]; rfl
        have := bounds_u16 (hwz _ (List.getElem_mem d))
        rw [e]; omega
      · show 0 ≤ zs.getD i 0 ∧ zs.getD i 0 < 65536
        rw [List.getD_eq_getElem?_getD, List.getElem?_eq_none (by omega)]; simp⟩
theorem open_banks {t e e1 : TypeId} {f0 f1 : Field} {fuel : Nat} {a : Option Addr} {len cap : Nat} {x : DataW H × List MemPlace} (ht : P.underlying t = some (.slice e)) (he : P.underlying e = some (.struct #[f0, f1]))
    (hone : oneCellFields P #[f0, f1] = true) (hC : P.cellsOf e = 2) (h0 : P.underlying f0.type = some (.int .i64)) (h1 : P.underlying f1.type = some (.slice e1)) (h2 : P.underlying e1 = some (.int .u16)) (hc1 : P.cellsOf e1 = 1) (h : DataW.trod enc P w base spare held fuel t [.slice a len cap] = some x) :
    ∃ b, IsBanks w a len cap b := by
  rcases open_pairs ht he hone hC h with ⟨rfl, rfl, rfl⟩ | ⟨ad, rfl, hl, hm, hi⟩
  · exact ⟨⟨fun _ => 0, fun _ => none, fun _ => 0, fun _ => 0, fun _ _ => 0⟩, Banks.nil, by omega, by omega, ⟨fun _ => ⟨by simp, by simp⟩, fun _ _ => ⟨by simp, by simp⟩, fun _ => by simp⟩⟩
  · have each : ∀ i, ∃ y : Int × Option Addr × Nat × Nat × (Nat → Int), (i < len → w.cell? (ad.add (i * 2)) = some (.int .i64 y.1) ∧ w.cell? ⟨(ad.add (i * 2)).block, (ad.add (i * 2)).off + 1, none⟩ = some (.slice y.2.1 y.2.2.1 y.2.2.2.1) ∧ Row .u16 w y.2.1 y.2.2.1 y.2.2.2.2) ∧ (-9223372036854775808 ≤ y.1 ∧ y.1 ≤ 9223372036854775807) ∧ y.2.2.1 ≤ 9223372036854775807 ∧ ∀ k, 0 ≤ y.2.2.2.2 k ∧ y.2.2.2.2 k < 65536 := by
      intro i
      by_cases c : i < len
      · obtain ⟨v0, v1, y0, y1, n, c0, c1, t0, t1⟩ := hi i c
        obtain ⟨p, e0, _, w0⟩ := DataW.trod_int h0 t0
        obtain ⟨a', l', k', f', e1, hr', hl', hk', _, hb'⟩ := open_words h1 h2 hc1 t1
        injection e0 with e0 _
        subst e0 e1
        have b0 := bounds_i64 w0
        exact ⟨(p, a', l', k', f'), fun _ => ⟨c0, c1, hr'⟩, by omega, by show l' ≤ 9223372036854775807; omega, hb'⟩
      · exact ⟨(0, none, 0, 0, fun _ => 0), fun h => absurd h c, ⟨by simp, by simp⟩, by simp, fun _ => ⟨by simp, by simp⟩⟩
    obtain ⟨y, hy⟩ := Classical.axiomOfChoice each
    exact ⟨⟨fun i => (y i).1, fun i => (y i).2.1, fun i => (y i).2.2.1, fun i => (y i).2.2.2.1, fun i => (y i).2.2.2.2⟩, fun i hil => ⟨ad, rfl, (hy i).1 hil⟩, hl, by unfold maxLen at hm; omega, ⟨fun i => (hy i).2.1, fun i k => (hy i).2.2.2 k, fun i => (hy i).2.2.1⟩⟩
end
end Go.Proofs.Yteongalbljdjlaa
