/- Slices of pairs of numbers, the call's own or not. -/
import Derived.Test.YteongalbljdjlaaCells2
import Derived.Test.YteongalbljdjlaaBlk
import Derived.Lib.Hide
import Derived.Maps.AppendAt
import Derived.Laws.AppendOwnNone
set_option linter.unusedSimpArgs false
set_option linter.unusedVariables false
namespace Go.Proofs.Yteongalbljdjlaa
open Go.ChangeShapes Go.WideShapes Go.ChangeAt Go.RowKit
/-- A slice of the call's own whose elements are pairs of numbers. -/
def OwnP (k1 k2 : IntKind) (T : TypeId) (w : World) (B : Nat) (v : Value) (L : List (Int × Int)) : Prop := Own2 T w B v L.length (fun i => .int k1 (L.getD i (0, 0)).1) (fun i => .int k2 (L.getD i (0, 0)).2)
theorem OwnP.nil (k1 k2 : IntKind) (T : TypeId) (w : World) (B : Nat) : OwnP k1 k2 T w B (.slice none 0 0) [] := Own2.nil _ _ _ _ _
theorem OwnP.below {k1 k2 : IntKind} {T : TypeId} {w w' : World} {B B' : Nat} {v : Value} {L : List (Int × Int)} (h : OwnP k1 k2 T w B v L) (hb : Below B' w w') (hB : w.heap.size ≤ B') : OwnP k1 k2 T w' B v L := Own2.below h hb hB
theorem OwnP.one (k1 k2 : IntKind) (T : TypeId) (w : World) (B g : Nat) (x y : Int) (hB : B ≤ w.heap.size) (hg : w.heap.size = g) : OwnP k1 k2 T (w.alloc (.cells #[.int k1 x, .int k2 y] T)) B (.slice (some ⟨g, 0, none⟩) 1 1) [(x, y)] := by
  subst hg
  have := World.ownsRow_lit w (e := T) (size := 2) (base := B) #[.int k1 x, .int k2 y] 1 hB (by unfold maxLen; omega) rfl
  exact this
theorem OwnP.low {k1 k2 : IntKind} {T : TypeId} {w : World} {B B' : Nat} {v : Value} {L : List (Int × Int)} (h : OwnP k1 k2 T w B v L) (hB : B' ≤ B) : OwnP k1 k2 T w B' v L := by
  refine ⟨h.1, ?_⟩
  rcases h.2 with hn | ⟨g, cap, cur, hv, hb, rest⟩
  · exact .inl hn
  · exact .inr ⟨g, cap, cur, hv, by omega, rest⟩
/-- How a list of pairs is read. -/
def Prs (k1 k2 : IntKind) (w : World) (A : Option Addr) (L : List (Int × Int)) : Prop := ∀ i, i < L.length → ∃ g, A = some ⟨g, 0, none⟩ ∧ w.cell? ⟨g, i * 2, none⟩ = some (.int k1 (L.getD i (0, 0)).1) ∧ w.cell? ⟨g, i * 2 + 1, none⟩ = some (.int k2 (L.getD i (0, 0)).2)
theorem OwnP.prs {k1 k2 : IntKind} {T : TypeId} {w : World} {B : Nat} {v : Value} {L : List (Int × Int)} (h : OwnP k1 k2 T w B v L) : ∃ A c, v = .slice A L.length c ∧ Prs k1 k2 w A L := by
  have h0 : w.ownsRow B T 2 v L.length _ := h
  rcases h.2 with ⟨rfl, e⟩ | ⟨g, cap, cur, rfl, hb, hh, h1, h2, h3, h4⟩
  · exact ⟨none, 0, by rw [e], fun i hi => by omega⟩
  · refine ⟨_, cap, rfl, fun i hi => ⟨g, rfl, ?_, ?_⟩⟩
    · rw [World.ownsRow.cellAt (g := g) (cap := cap) h0 (i * 2) (by omega)]
      exact (flat2_get _ _ _ i hi).1
    · rw [World.ownsRow.cellAt (g := g) (cap := cap) h0 (i * 2 + 1) (by omega)]
      exact (flat2_get _ _ _ i hi).2
theorem Prs.drewN {k1 k2 : IntKind} {w : World} {A : Option Addr} {L : List (Int × Int)} (h : Prs k1 k2 w A L) (m : Nat) : Prs k1 k2 (w.drewN m) A L := h
theorem Prs.below {k1 k2 : IntKind} {w w' : World} {A : Option Addr} {L : List (Int × Int)} {B : Nat} (h : Prs k1 k2 w A L) (hb : Below B w w') (hB : w.heap.size ≤ B) : Prs k1 k2 w' A L := fun i hi => by
  obtain ⟨g, e, h1, h2⟩ := h i hi
  exact ⟨g, e, (hb.cell (Nat.lt_of_lt_of_le (lt_of_cell h1) hB)).trans h1, (hb.cell (Nat.lt_of_lt_of_le (lt_of_cell h2) hB)).trans h2⟩
theorem flat2_congr {p q p' q' : Nat → Value} : ∀ (n : Nat), (∀ i, i < n → p i = p' i ∧ q i = q' i) → flat2 p q n = flat2 p' q' n
  | 0, _ => rfl
  | n + 1, h => by
    unfold flat2
    rw [flat2_congr n (fun i hi => h i (by omega)), (h n (by omega)).1, (h n (by omega)).2]
theorem flat2_add (p q : Nat → Value) (n : Nat) : ∀ m, flat2 p q (n + m) = flat2 p q n ++ flat2 (fun i => p (n + i)) (fun i => q (n + i)) m
  | 0 => by simp [flat2]
  | m + 1 => by
    rw [← Nat.add_assoc]
    show flat2 p q (n + m) ++ [p (n + m), q (n + m)] = flat2 p q n ++ (flat2 (fun i => p (n + i)) (fun i => q (n + i)) m ++ [p (n + m), q (n + m)])
    rw [flat2_add p q n m, List.append_assoc]
/-- The cells of a list of pairs. -/
def pcells (k1 k2 : IntKind) (L : List (Int × Int)) : List Value := flat2 (fun i => .int k1 (L.getD i (0, 0)).1) (fun i => .int k2 (L.getD i (0, 0)).2) L.length
theorem pcells_append (k1 k2 : IntKind) (L M : List (Int × Int)) : pcells k1 k2 (L ++ M) = pcells k1 k2 L ++ pcells k1 k2 M := by
  unfold pcells
  rw [List.length_append, flat2_add]
  congr 1
  · refine flat2_congr _ (fun i hi => ?_)
    simp [List.getD_eq_getElem?_getD, List.getElem?_append_left hi]
  · refine flat2_congr _ (fun i hi => ?_)
    have e : (L ++ M)[L.length + i]? = M[i]? := by rw [List.getElem?_append_right (by omega)]; congr 1; omega
    simp [List.getD_eq_getElem?_getD, e]
theorem pcells_one (k1 k2 : IntKind) (L : List (Int × Int)) : ∀ u ∈ pcells k1 k2 L, u.oneCell' = true := by
  unfold pcells
  have : ∀ (p q : Nat → Value) n, (∀ i, (p i).oneCell' = true ∧ (q i).oneCell' = true) → ∀ u ∈ flat2 p q n, u.oneCell' = true := by
    intro p q n h
    induction n with
    | zero => intro u hu; cases hu
    | succ n ih =>
      intro u hu
      rcases List.mem_append.1 hu with hu | hu
      · exact ih u hu
      · simp at hu
        rcases hu with rfl | rfl
        · exact (h n).1
        · exact (h n).2
  exact this _ _ _ (fun i => ⟨rfl, rfl⟩)
theorem pcells_len (k1 k2 : IntKind) (L : List (Int × Int)) : (pcells k1 k2 L).length = L.length * 2 := flat2_len _ _ _
theorem OwnP.raw {k1 k2 : IntKind} {T : TypeId} {w : World} {B : Nat} {v : Value} {L : List (Int × Int)} : OwnP k1 k2 T w B v L ↔ w.ownsRow B T 2 v L.length (pcells k1 k2 L) := Iff.rfl
/-- Where the source lies. -/
theorem OwnP.src {k1 k2 : IntKind} {T : TypeId} {w : World} {B : Nat} {v : Value} {L : List (Int × Int)} (h : OwnP k1 k2 T w B v L) :
    (v = .slice none 0 0 ∧ L = []) ∨ ∃ g cap, v = .slice (some ⟨g, 0, none⟩) L.length cap ∧ B ≤ g ∧ g < w.heap.size ∧ ∀ j u, (pcells k1 k2 L)[j]? = some u → w.cell? ((⟨g, 0, none⟩ : Addr).add j) = some u := by
  rcases h with ⟨hl, ⟨rfl, h0⟩ | ⟨g, cap, cur, rfl, hg, hh, h1, h2, h3, h4⟩⟩
  · exact .inl ⟨rfl, List.length_eq_zero_iff.1 h0⟩
  · refine .inr ⟨g, cap, rfl, hg, (Array.getElem?_eq_some_iff.1 hh).1, fun j u hu => ?_⟩
    have e1 : (⟨g, 0, none⟩ : Addr).add j = ⟨g, j, none⟩ := by unfold Addr.add; by_cases c : j = 0 <;> simp [c]
    rw [e1]
    have hj : j < (pcells k1 k2 L).length := by
      rcases Nat.lt_or_ge j (pcells k1 k2 L).length with h | h
      · exact h
      · rw [List.getElem?_eq_none h] at hu; cases hu
    have h5 : cur.toList.take (L.length * 2) = pcells k1 k2 L := h4
    rw [← h5, List.getElem?_take] at hu
    rw [pcells_len] at hj
    rw [if_pos hj] at hu
    unfold World.cell?
    rw [hh]
    simpa using hu
theorem run_appP {P : Program} {w : World} (k1 k2 : IntKind) (t ty e : TypeId) (bytes : Nat) (ht : P.underlying t = some (.slice e)) (z : Value) (hinfo : (P.info? e).map (fun i => (i.zero, i.size, i.bytes)) = some (some z, 2, bytes)) (hz2 : z.cells.size = 2)
    (B Bs : Nat) (v u : Value) (L M : List (Int × Int)) (hown : OwnP k1 k2 e w B v L) (hu : OwnP k1 k2 e w Bs u M) (hlen : (L.length + M.length) * bytes ≤ 140737488355328 ∧ L.length + M.length ≤ 140737488355328) (hB : B ≤ w.heap.size) :
    ∃ v' w', (Builtin.append_ #[t, t] ty #[v, u]).run P w = .ok v' w' ∧ OwnP k1 k2 e w' B v' (L ++ M) ∧ w.grownBy w' v.ownBlock ∧ (v'.ownBlock = v.ownBlock ∨ v'.ownBlock = some w.heap.size) := by
  obtain ⟨i, hi, hz, hsz, hby⟩ := info_parts hinfo
  rcases hu.src with ⟨rfl, rfl⟩ | ⟨g, cap, rfl, hg, hlt, hc⟩
  · refine ⟨v, w, run_append_owned_none (P := P) (w := w) B t ty e i 2 ht hi v L.length _ hown, by simpa using hown, World.grownBy.refl _ _, .inl rfl⟩
  · obtain ⟨v', w', h1, h2, h3, h4, h5⟩ := run_append_own_at (P := P) (w := w) B t ty e i z 2 bytes ht hi hz hsz hby hz2 (by decide) v L.length (pcells k1 k2 L) hown ⟨g, 0, none⟩ M.length cap (pcells k1 k2 M) (pcells_len _ _ _) hc (pcells_one _ _ _) (by unfold maxLen; omega) hlen.1 hB
    refine ⟨v', w', h1, ?_, h3, h5⟩
    rw [OwnP.raw, List.length_append, pcells_append]
    exact h2
/-- append(s, x...) where both are lists of pairs of the call's own. -/
theorem step_appP {P : Program} {ops : Array Oper} {o : Oper} {a : Act} {w : World} {K : Act → World → Prop} {Q : Exit → Act → World → Prop} {E : Prop} (k1 k2 : IntKind)
    (hg : o.guard = none) (s x : Operand) (t : TypeId) (hop : o.op = Op.call { callee := Callee.builtin Builtin.append, args := #[s, x], argTypes := #[t, t] })
    (e : TypeId) (z : Value) (bytes : Nat) (ht : P.underlying t = some (.slice e)) (hinfo : (P.info? e).map (fun i => (i.zero, i.size, i.bytes)) = some (some z, 2, bytes)) (hz2 : z.cells.size = 2)
    (w0 : World) (B Bs : Nat) (v u : Value) (L M : List (Int × Int)) (hown : OwnP k1 k2 e w B v L) (hu : OwnP k1 k2 e w Bs u M) (hs : a.eval s = v) (hx : a.eval x = u)
    (hlen : (L.length + M.length) * bytes ≤ 140737488355328 ∧ L.length + M.length ≤ 140737488355328) (hb : Below B w0 w) (hB : B ≤ w.heap.size)
    (hK : ∀ v' w', OwnP k1 k2 e w' B v' (L ++ M) → Below B w0 w' → w.grownBy w' v.ownBlock → (v'.ownBlock = v.ownBlock ∨ v'.ownBlock = some w.heap.size) → K (a.put o.dst v') w') :
    if Region.wanted o (yielded ops a.tmps) = true then Oper.wp P o a w K Q else E := by
  have hw : Region.wanted o (yielded ops a.tmps) = true := by simp [Region.wanted, hg]
  rw [if_pos hw]
  obtain ⟨v', w', hrun, h2, h3, h4⟩ := run_appP (w := w) k1 k2 t o.type e bytes ht z hinfo hz2 B Bs v u L M hown hu hlen hB
  unfold Oper.wp
  simp [execOp, hop, resolve, invoke, builtin, hs, hx, hrun, Result.andThen]
  exact hK v' w' h2 (Below.grown hb h3 hB (fun g hg => (World.ownsRow.lt hown g hg).1)) h3 h4
theorem wp_appP {P : Program} {ops : Array Oper} {rest : List Oper} {o : Oper} {a : Act} {w : World} {Q : Exit → Act → World → Prop} (k1 k2 : IntKind)
    (hg : o.guard = none) (s x : Operand) (t : TypeId) (hop : o.op = Op.call { callee := Callee.builtin Builtin.append, args := #[s, x], argTypes := #[t, t] })
    (e : TypeId) (z : Value) (bytes : Nat) (ht : P.underlying t = some (.slice e)) (hinfo : (P.info? e).map (fun i => (i.zero, i.size, i.bytes)) = some (some z, 2, bytes)) (hz2 : z.cells.size = 2)
    (w0 : World) (B Bs : Nat) (v u : Value) (L M : List (Int × Int)) (hown : OwnP k1 k2 e w B v L) (hu : OwnP k1 k2 e w Bs u M) (hs : a.eval s = v) (hx : a.eval x = u)
    (hlen : (L.length + M.length) * bytes ≤ 140737488355328 ∧ L.length + M.length ≤ 140737488355328) (hb : Below B w0 w) (hB : B ≤ w.heap.size)
    (hK : ∀ v' w', OwnP k1 k2 e w' B v' (L ++ M) → Below B w0 w' → w.grownBy w' v.ownBlock → (v'.ownBlock = v.ownBlock ∨ v'.ownBlock = some w.heap.size) → wpList P ops Q rest (a.put o.dst v') w') :
    wpList P ops Q (o :: rest) a w := by
  refine wpList_plain hg fun K hKK => ?_
  obtain ⟨v', w', hrun, h2, h3, h4⟩ := run_appP (w := w) k1 k2 t o.type e bytes ht z hinfo hz2 B Bs v u L M hown hu hlen hB
  unfold Oper.wp
  simp [execOp, hop, resolve, invoke, builtin, hs, hx, hrun, Result.andThen]
  exact hKK _ _ (hK v' w' h2 (Below.grown hb h3 hB (fun g hg => (World.ownsRow.lt hown g hg).1)) h3 h4)
theorem OwnP.one' (k1 k2 : IntKind) (T : TypeId) (w : World) (g : Nat) (x y : Int) (hg : w.heap.size = g) : OwnP k1 k2 T (w.alloc (.cells #[.int k1 x, .int k2 y] T)) 0 (.slice (some ⟨g, 0, none⟩) 1 1) [(x, y)] := OwnP.one k1 k2 T w 0 g x y (Nat.zero_le _) hg
theorem OwnP.lt {k1 k2 : IntKind} {T : TypeId} {w : World} {B : Nat} {v : Value} {L : List (Int × Int)} (h : OwnP k1 k2 T w B v L) : ∀ j, v.ownBlock = some j → B ≤ j ∧ j < w.heap.size := World.ownsRow.lt h
theorem OwnP.shape {k1 k2 : IntKind} {T : TypeId} {w : World} {B : Nat} {v : Value} {L : List (Int × Int)} (h : OwnP k1 k2 T w B v L) : ∃ A n c, v = .slice A n c := by
  rcases h.src with ⟨rfl, _⟩ | ⟨g, cap, rfl, _⟩ <;> exact ⟨_, _, _, rfl⟩
theorem OwnP.drew {k1 k2 : IntKind} {T : TypeId} {w : World} {B : Nat} {v : Value} {L : List (Int × Int)} (h : OwnP k1 k2 T w B v L) : OwnP k1 k2 T w.drew B v L := h
theorem OwnP.grown {k1 k2 : IntKind} {T : TypeId} {w w' : World} {B : Nat} {v : Value} {L : List (Int × Int)} {u : Option Nat} (h : OwnP k1 k2 T w B v L) (hg : w.grownBy w' u) (hne : ∀ j, v.ownBlock = some j → u ≠ some j) : OwnP k1 k2 T w' B v L := by
  refine ⟨h.1, ?_⟩
  rcases h.2 with hn | ⟨g, cap, cur, rfl, hb, hh, rest⟩
  · exact .inl hn
  · refine .inr ⟨g, cap, cur, rfl, hb, ?_, rest⟩
    rw [hg.block g (Array.getElem?_eq_some_iff.1 hh).1 (fun c => hne g rfl c.symm)]; exact hh
end Go.Proofs.Yteongalbljdjlaa
