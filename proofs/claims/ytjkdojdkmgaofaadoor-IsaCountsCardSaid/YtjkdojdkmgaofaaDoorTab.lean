/- Tables: slices of the call's own that hold known values, made of one or two literals. -/
import Derived.Test.YtjkdojdkmgaofaaDoorApp
set_option linter.unusedSimpArgs false
set_option linter.unusedVariables false
namespace Go.Proofs.YtjkdojdkmgaofaaDoor
open Go.ChangeShapes Go.WideShapes Go.ChangeAt Go.RowKit
/-- The call returns a slice of its own with the values f 0, .., f (n - 1), and writes nothing that was there. -/
def RetTab (n : Nat) (f : Nat → Value) (w : World) (e : Ending) (w' : World) : Prop := ∃ g c, e = .returned (.slice (some ⟨g, 0, none⟩) n c) ∧ w.heap.size ≤ g ∧ g < w'.heap.size ∧ (∀ i, i < n → w'.cell? ⟨g, i, none⟩ = some (f i)) ∧ Below w.heap.size w w'
theorem ret_tab {T : TypeId} {n : Nat} {f : Nat → Value} {w w' : World} {v : Value} (hn : 0 < n) (ho : OwnV T w' w.heap.size v (vlst n f)) (hb : Below w.heap.size w w') : RetTab n f w (.returned v) w' := by
  unfold OwnV at ho
  rw [vlst_len] at ho
  have ho0 := ho
  obtain ⟨hlen, hcase⟩ := ho
  rcases hcase with ⟨hv, h0⟩ | ⟨g, cap, cur, hv, hBg, hheap, h1, h2, h3, h4⟩
  · omega
  subst hv
  refine ⟨g, cap, rfl, hBg, (Array.getElem?_eq_some_iff.1 hheap).1, fun i hi => ?_, hb⟩
  rw [World.ownsRow.cellAt (g := g) (cap := cap) ho0 i (by omega), vlst_get _ _ _ hi]
/-- append(x, y...) for slices of one-cell values. -/
theorem app_vals {P : Program} {ops : Array Oper} {rest : List Oper} {o : Oper} {a : Act} {Q : Exit → Act → World → Prop} (hgd : o.guard = none) (s x : Operand) (t : TypeId)
    (ho : o.op = .call { callee := .builtin .append, args := #[s, x], argTypes := #[t, t] })
    (z : Value) (e : TypeId) (bytes : Nat) (ht : P.underlying t = some (.slice e)) (hinfo : (P.info? e).map (fun i => (i.zero, i.size, i.bytes)) = some (some z, 1, bytes)) (hz1 : z.cells.size = 1)
    (w0 wr : World) (B : Nat) (v : Value) (l : List Value) (ad : Addr) (m c : Nat) (news : List Value) (hown : OwnV e wr B v l) (hs : a.eval s = v) (hx : a.eval x = .slice (some ad) m c)
    (hl : news.length = m) (hnews : ∀ j u, news[j]? = some u → wr.cell? (ad.add j) = some u) (h1 : ∀ u ∈ news, u.oneCell' = true)
    (hlen : (l.length + m) * bytes ≤ 140737488355328 ∧ l.length + m ≤ 140737488355328) (hb : Below B w0 wr) (hB : B ≤ wr.heap.size)
    (h : ∀ v' w', OwnV e w' B v' (l ++ news) → Below B w0 w' → B ≤ w'.heap.size → wpList P ops Q rest (a.put o.dst v') w') :
    wpList P ops Q (o :: rest) a wr := by
  obtain ⟨i, hi, hz, hsz, hby⟩ := info_parts hinfo
  refine wpList_append_own _ hgd s x t ho B e i z 1 bytes ht hi hz hsz hby hz1 (by decide) v l.length l hs hown ad m c news hx (by omega) hnews h1 (by unfold maxLen; omega) hlen.1 hB ?_
  intro v' w' h2 h3 h4
  refine h v' w' ?_ ?_ ?_
  · unfold OwnV; rw [List.length_append, hl]; exact h2
  · exact Below.grown hb h3 hB (fun g hg => (World.ownsRow.lt hown g hg).1)
  · have := h3.size; omega
/-- The same of two literals, X and Y, that were just written out. -/
theorem app_lits {P : Program} {ops : Array Oper} {rest : List Oper} {o : Oper} {a : Act} {Q : Exit → Act → World → Prop} (hgd : o.guard = none) (s x : Operand) (t : TypeId)
    (ho : o.op = .call { callee := .builtin .append, args := #[s, x], argTypes := #[t, t] })
    (z : Value) (e : TypeId) (bytes : Nat) (ht : P.underlying t = some (.slice e)) (hinfo : (P.info? e).map (fun i => (i.zero, i.size, i.bytes)) = some (some z, 1, bytes)) (hz1 : z.cells.size = 1)
    (w : World) (X Y : Array Value) (n m : Nat) (hX : X.size = n) (hY : Y.size = m) (f : Nat → Value) (hf : X.toList ++ Y.toList = vlst (n + m) f)
    (hs : a.eval s = .slice (some ⟨w.heap.size, 0, none⟩) n n) (hx : a.eval x = .slice (some ⟨w.heap.size + 1, 0, none⟩) m m)
    (h1 : ∀ u ∈ Y.toList, u.oneCell' = true) (hlen : (n + m) * bytes ≤ 140737488355328 ∧ n + m ≤ 140737488355328)
    (h : ∀ v' w', OwnV e w' w.heap.size v' (vlst (n + m) f) → Below w.heap.size w w' → wpList P ops Q rest (a.put o.dst v') w') :
    wpList P ops Q (o :: rest) a ((w.alloc (.cells X e)).alloc (.cells Y e)) := by
  subst hX
  subst hY
  have hown : OwnV e ((w.alloc (.cells X e)).alloc (.cells Y e)) w.heap.size (.slice (some ⟨w.heap.size, 0, none⟩) X.size X.size) X.toList := by
    unfold OwnV
    rw [Array.length_toList]
    exact World.ownsRow.alloc (World.ownsRow_lit w X X.size (Nat.le_refl _) (by unfold maxLen; omega) (by simp)) _
  refine app_vals hgd s x t ho z e bytes ht hinfo hz1 w _ w.heap.size _ X.toList ⟨w.heap.size + 1, 0, none⟩ Y.size Y.size Y.toList hown hs hx (by simp) ?_ h1 (by rw [Array.length_toList]; exact hlen) (((Below.refl _ _).alloc (Nat.le_refl _) _).alloc (by simp) _) (by simp; omega) ?_
  · intro j u hu
    have e1 : (⟨w.heap.size + 1, 0, none⟩ : Addr).add j = ⟨w.heap.size + 1, j, none⟩ := by unfold Addr.add; by_cases c : j = 0 <;> simp [c]
    rw [e1, World.cell?_alloc_at _ _ _ _ (by simp)]
    rw [Array.getElem?_toList] at hu
    exact hu
  · intro v' w' h2 h3 _
    rw [hf] at h2
    exact h v' w' h2 h3
end Go.Proofs.YtjkdojdkmgaofaaDoor
