/- Slices of cells that a call makes itself by append. -/
import Derived.Test.YteongalbljdjlaaCells
import Derived.Deep.RegionLaw
set_option linter.unusedSimpArgs false
set_option linter.unusedVariables false
namespace Go.Proofs.Yteongalbljdjlaa
open Go.ChangeShapes Go.WideShapes Go.ChangeAt Go.RowKit
/-- The cells of n structs of two cells, one after the other. -/
def flat2 (p q : Nat → Value) : Nat → List Value
  | 0 => []
  | n + 1 => flat2 p q n ++ [p n, q n]
theorem flat2_len (p q : Nat → Value) (n : Nat) : (flat2 p q n).length = n * 2 := by
  induction n with
  | zero => rfl
  | succ n ih => simp [flat2, ih]; omega
theorem flat2_get (p q : Nat → Value) (n i : Nat) (h : i < n) : (flat2 p q n)[i * 2]? = some (p i) ∧ (flat2 p q n)[i * 2 + 1]? = some (q i) := by
  induction n with
  | zero => omega
  | succ n ih =>
    have hl := flat2_len p q n
    by_cases c : i = n
    · subst c
      constructor
      · show (flat2 p q i ++ [p i, q i])[i * 2]? = _
        rw [List.getElem?_append_right (by omega), hl]; simp
      · show (flat2 p q i ++ [p i, q i])[i * 2 + 1]? = _
        rw [List.getElem?_append_right (by omega), hl]
        have : i * 2 + 1 - i * 2 = 1 := by omega
        rw [this]; rfl
    · obtain ⟨h1, h2⟩ := ih (by omega)
      constructor
      · show (flat2 p q n ++ [p n, q n])[i * 2]? = _
        rw [List.getElem?_append_left (by omega)]; exact h1
      · show (flat2 p q n ++ [p n, q n])[i * 2 + 1]? = _
        rw [List.getElem?_append_left (by omega)]; exact h2
/-- v is a slice of the call's own of n structs of two cells. -/
def Own2 (T : TypeId) (w : World) (B : Nat) (v : Value) (n : Nat) (p q : Nat → Value) : Prop := w.ownsRow B T 2 v n (flat2 p q n)
theorem Own2.nil (T : TypeId) (w : World) (B : Nat) (p q : Nat → Value) : Own2 T w B (.slice none 0 0) 0 p q := World.ownsRow_nil w B T 2
theorem Own2.below {T : TypeId} {w w' : World} {B B' n : Nat} {v : Value} {p q : Nat → Value} (h : Own2 T w B v n p q) (hb : Below B' w w') (hB : w.heap.size ≤ B') : Own2 T w' B v n p q := by
  refine ⟨h.1, ?_⟩
  rcases h.2 with hn | ⟨g, cap, cur, hv, hg, hh, rest⟩
  · exact .inl hn
  · have hlt := (Array.getElem?_eq_some_iff.1 hh).1
    exact .inr ⟨g, cap, cur, hv, hg, (hb.block g (by omega)).trans hh, rest⟩
theorem Own2.alloc {T : TypeId} {w : World} {B n : Nat} {v : Value} {p q : Nat → Value} (h : Own2 T w B v n p q) (o : Obj) : Own2 T (w.alloc o) B v n p q := h.below ((Below.refl _ _).alloc (Nat.le_refl _) o) (Nat.le_refl _)
theorem Own2.cells {T : TypeId} {w : World} {B n : Nat} {v : Value} {f g : Nat → Int} (h : Own2 T w B v n (fun i => .int .i64 (f i)) (fun i => .int .u16 (g i))) :
    ∃ A c, v = .slice A n c ∧ n ≤ c ∧ c ≤ 9223372036854775807 ∧ Hid (Cells w A n f g) := by
  rcases h.2 with ⟨rfl, h0⟩ | ⟨gb, cap, cur, rfl, hb, hh, h1, h2, h3, h4⟩
  · subst h0
    exact ⟨none, 0, rfl, by omega, by omega, Cells.nil⟩
  · refine ⟨_, cap, rfl, h1, by unfold maxLen at h2; omega, fun i hi => ⟨_, rfl, ?_⟩⟩
    have e : (⟨gb, 0, none⟩ : Addr).add (i * 2) = ⟨gb, i * 2, none⟩ := by
      unfold Addr.add
      by_cases c : i = 0
      · simp [c]
      · rw [if_neg (by omega)]; simp
    rw [e]
    obtain ⟨g1, g2⟩ := flat2_get (fun i => Value.int .i64 (f i)) (fun i => Value.int .u16 (g i)) n i hi
    constructor
    · rw [World.ownsRow.cellAt (g := gb) (cap := cap) h (i * 2) (by omega)]; exact g1
    · show w.cell? ⟨gb, i * 2 + 1, none⟩ = _
      rw [World.ownsRow.cellAt (g := gb) (cap := cap) h (i * 2 + 1) (by omega)]; exact g2
/-- append of one struct of two cells, as one step of a region that draws. -/
theorem step_app2 {P : Program} {ops : Array Oper} {o : Oper} {a : Act} {w : World} {K : Act → World → Prop} {Q : Exit → Act → World → Prop} {E : Prop}
    (hg : o.guard = none) (s x : Operand) (t : TypeId) (hop : o.op = Op.call { callee := Callee.builtin Builtin.append, args := #[s, x], argTypes := #[t, t] })
    (e : TypeId) (z : Value) (bytes : Nat) (ht : P.underlying t = some (.slice e)) (hinfo : (P.info? e).map (fun i => (i.zero, i.size, i.bytes)) = some (some z, 2, bytes)) (hz2 : z.cells.size = 2)
    (w0 : World) (B : Nat) (v : Value) (n : Nat) (p q : Nat → Value) (hown : Own2 e w B v n p q) (hs : a.eval s = v) (G : Nat) (hx : a.eval x = .slice (some ⟨G, 0, none⟩) 1 1)
    (c0 : w.cell? ⟨G, 0, none⟩ = some (p n)) (c1 : w.cell? ⟨G, 1, none⟩ = some (q n)) (o0 : (p n).oneCell' = true) (o1 : (q n).oneCell' = true)
    (hlen : (n + 1) * bytes ≤ 140737488355328 ∧ n + 1 ≤ 140737488355328) (hb : Below B w0 w) (hB : B ≤ w.heap.size)
    (hK : ∀ v' w', Own2 e w' B v' (n + 1) p q → Below B w0 w' → w.grownBy w' v.ownBlock → K (a.put o.dst v') w') :
    if Region.wanted o (yielded ops a.tmps) = true then Oper.wp P o a w K Q else E := by
  have hw : Region.wanted o (yielded ops a.tmps) = true := by simp [Region.wanted, hg]
  rw [if_pos hw]
  obtain ⟨i, hi, hz, hsz, hby⟩ := info_parts hinfo
  obtain ⟨v', w', hrun, h2, h3, _⟩ := run_append_own (P := P) w B t o.type e i z 2 bytes ht hi hz hsz hby hz2 (by decide) v n (flat2 p q n) hown ⟨G, 0, none⟩ 1 1 [p n, q n] rfl
    (fun j u hu => by
      match j, hu with
      | 0, hu => simp at hu; subst hu; exact c0
      | 1, hu => simp at hu; subst hu; exact c1
      | j + 2, hu => simp at hu)
    (fun u hu => by
      simp at hu
      rcases hu with rfl | rfl
      · exact o0
      · exact o1)
    (by unfold maxLen; omega) hlen.1 hB
  unfold Oper.wp
  simp [execOp, hop, resolve, invoke, builtin, hs, hx, hrun, Result.andThen]
  exact hK v' w' h2 (Below.grown hb h3 hB (fun g hg => (World.ownsRow.lt hown g hg).1)) h3
end Go.Proofs.Yteongalbljdjlaa
