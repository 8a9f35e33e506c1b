/- Slices of integers that a call makes itself: what they hold, one more element appended, and how they are read. -/
import Derived.Test.YteongalbljdjlaaRow
import Derived.OwnWalk
import Derived.Laws.AppendOwn
import Derived.Laws.OwnMore
import Derived.Laws.AppendOwnNone
import Derived.Deep.OwnRows
set_option linter.unusedSimpArgs false
set_option linter.unusedVariables false
namespace Go.Proofs.Yteongalbljdjlaa
open Go.ChangeShapes Go.WideShapes Go.ChangeAt Go.RowKit
/-- v is a slice of the call's own (its block is B or a later one), its elements are the numbers l of the kind k, of the type T. -/
def Own (k : IntKind) (T : TypeId) (w : World) (B : Nat) (v : Value) (l : List Int) : Prop := w.ownsRow B T 1 v l.length (l.map (Value.int k))
/-- The call returns such a slice, and writes nothing that was there. -/
def RetOwn (k : IntKind) (T : TypeId) (l : List Int) (w : World) (e : Ending) (w' : World) : Prop := ∃ v, e = .returned v ∧ Own k T w' w.heap.size v l ∧ Below w.heap.size w w'
theorem Own.nil (k : IntKind) (T : TypeId) (w : World) (B : Nat) : Own k T w B (.slice none 0 0) [] := World.ownsRow_nil w B T 1
theorem Own.low {k : IntKind} {T : TypeId} {w : World} {B B' : Nat} {v : Value} {l : List Int} (h : Own k T w B v l) (hB : B' ≤ B) : Own k T w B' v l := by
  refine ⟨h.1, ?_⟩
  rcases h.2 with hn | ⟨g, cap, cur, hv, hb, rest⟩
  · exact .inl hn
  · exact .inr ⟨g, cap, cur, hv, by omega, rest⟩
theorem Own.below {k : IntKind} {T : TypeId} {w w' : World} {B B' : Nat} {v : Value} {l : List Int} (h : Own k T w B v l) (hb : Below B' w w') (hB : w.heap.size ≤ B') : Own k T w' B v l := by
  refine ⟨h.1, ?_⟩
  rcases h.2 with hn | ⟨g, cap, cur, hv, hg, hh, rest⟩
  · exact .inl hn
  · have hlt := (Array.getElem?_eq_some_iff.1 hh).1
    exact .inr ⟨g, cap, cur, hv, hg, (hb.block g (by omega)).trans hh, rest⟩
/-- What is to be known of such a slice in order to read it. -/
theorem Own.row {k : IntKind} {T : TypeId} {w : World} {B : Nat} {v : Value} {l : List Int} (h : Own k T w B v l) :
    ∃ A c, v = .slice A l.length c ∧ l.length ≤ c ∧ c ≤ 9223372036854775807 ∧ Row k w A l.length (fun i => l.getD i 0) := by
  rcases h.2 with ⟨rfl, h0⟩ | ⟨g, cap, cur, rfl, hb, hh, h1, h2, h3, h4⟩
  · refine ⟨none, 0, by rw [h0], by omega, by omega, ?_⟩
    rw [h0]; exact Row.nil
  · refine ⟨_, cap, rfl, h1, by unfold maxLen at h2; omega, fun i hi => ⟨_, rfl, ?_⟩⟩
    have e : (⟨g, 0, none⟩ : Addr).add i = ⟨g, i, none⟩ := by unfold Addr.add; by_cases c : i = 0 <;> simp [c]
    rw [e]
    have hc := World.ownsRow.cellAt (g := g) (cap := cap) h i (by omega)
    show _ = some (Value.int k (l.getD i 0))
    rw [hc, List.getElem?_map, List.getD_eq_getElem?_getD, List.getElem?_eq_getElem hi]; rfl
theorem Own.rowOf {k : IntKind} {T : TypeId} {w : World} {B : Nat} {v : Value} {l : List Int} (h : Own k T w B v l) (n : Nat) (f : Nat → Int) (hl : l.length = n) (hf : ∀ i, i < n → l.getD i 0 = f i) :
    ∃ A c, v = .slice A n c ∧ n ≤ c ∧ c ≤ 9223372036854775807 ∧ Hid (Row k w A n f) := by
  obtain ⟨A, c, hv, h1, h2, hr⟩ := h.row
  subst hl
  refine ⟨A, c, hv, h1, h2, fun i hi => ?_⟩
  obtain ⟨a, e, hc⟩ := hr i hi
  exact ⟨a, e, by rw [hc]; show some (Value.int k (l.getD i 0)) = _; rw [hf i hi]⟩
theorem Own.rowN {k : IntKind} {T : TypeId} {w : World} {B : Nat} {v : Value} {l : List Int} (h : Own k T w B v l) (n : Nat) (f : Nat → Int) (hl : l.length = n) (hf : ∀ i, i < n → l.getD i 0 = f i) :
    ∃ A c, v = .slice A n c ∧ n ≤ c ∧ c ≤ 9223372036854775807 ∧ (A = none → c = 0) ∧ Hid (Row k w A n f) := by
  obtain ⟨A, c, hv, h1, h2, hr⟩ := h.rowOf n f hl hf
  refine ⟨A, c, hv, h1, h2, fun e => ?_, hr⟩
  rcases h.2 with ⟨hn, _⟩ | ⟨g, cap, cur, hn, _⟩
  · rw [hn] at hv; cases hv; rfl
  · rw [hn, e] at hv; cases hv
theorem Own.rowAt {k : IntKind} {T : TypeId} {w : World} {B : Nat} {A : Option Addr} {n c : Nat} {l : List Int} (h : Own k T w B (.slice A n c) l) (f : Nat → Int) (hl : l.length = n) (hf : ∀ i, i < n → l.getD i 0 = f i) : Row k w A n f := by
  obtain ⟨A', c', e, _, _, hr⟩ := h.rowOf n f hl hf
  cases e; exact hr
theorem Own.drew {k : IntKind} {T : TypeId} {w : World} {B : Nat} {v : Value} {l : List Int} (h : Own k T w B v l) : Own k T w.drew B v l := h
theorem Own.drewN {k : IntKind} {T : TypeId} {w : World} {B : Nat} {v : Value} {l : List Int} (h : Own k T w B v l) (n : Nat) : Own k T (w.drewN n) B v l := h
theorem below_drewN {B : Nat} {a w : World} (h : Below B a w) (n : Nat) : Below B a (w.drewN n) := ⟨h.os, h.tape, h.output, h.size, h.block⟩
/-- Storing into such a slice. -/
theorem Own.form {k : IntKind} {T : TypeId} {w : World} {B : Nat} {v : Value} {l : List Int} (h : Own k T w B v l) (hl : 0 < l.length) : ∃ g c, v = .slice (some ⟨g, 0, none⟩) l.length c ∧ B ≤ g ∧ g < w.heap.size := by
  rcases h.2 with ⟨_, h0⟩ | ⟨g, cap, cur, rfl, hb, hh, _⟩
  · omega
  · exact ⟨g, cap, rfl, hb, (Array.getElem?_eq_some_iff.1 hh).1⟩
theorem Own.cell {k : IntKind} {T : TypeId} {w : World} {B g c : Nat} {l : List Int} (h : Own k T w B (.slice (some ⟨g, 0, none⟩) l.length c) l) {j : Nat} (hj : j < l.length) : w.cell? ⟨g, j, none⟩ = some (.int k (l.getD j 0)) := by
  have hc := World.ownsRow.cellAt (g := g) (cap := c) h j (by omega)
  rw [hc, List.getElem?_map, List.getD_eq_getElem?_getD, List.getElem?_eq_getElem hj]; rfl
theorem Own.free {k : IntKind} {T : TypeId} {w : World} {B g c : Nat} {l : List Int} (h : Own k T w B (.slice (some ⟨g, 0, none⟩) l.length c) l) (j : Nat) : w.frozen? ⟨g, j, none⟩ = false := World.ownsRow.frozenAt (cap := c) h j
theorem Own.set {k : IntKind} {T : TypeId} {w : World} {B g c : Nat} {l : List Int} (h : Own k T w B (.slice (some ⟨g, 0, none⟩) l.length c) l) (j : Nat) (y : Int) : Own k T (w.setCell ⟨g, j, none⟩ (.int k y)) B (.slice (some ⟨g, 0, none⟩) l.length c) (l.set j y) := by
  have := (World.ownsRow.stored (cap := c) h j (.int k y)).1
  unfold Own
  rw [List.length_set, List.map_set]; exact this
/-- The list of h 0, h 1, .., h (n - 1). -/
def lst (n : Nat) (h : Nat → Int) : List Int := (List.range n).map h
theorem lst_len (n : Nat) (h : Nat → Int) : (lst n h).length = n := by simp [lst]
theorem lst_get (n : Nat) (h : Nat → Int) (i : Nat) (hi : i < n) : (lst n h).getD i 0 = h i := by simp [lst, List.getD_eq_getElem?_getD, hi]
theorem lst_set (n : Nat) (h : Nat → Int) (j : Nat) (y : Int) : (lst n h).set j y = lst n (fun i => if i = j then y else h i) := by
  apply List.ext_getElem?
  intro i
  rw [List.getElem?_set]
  by_cases c : j = i
  · subst c
    by_cases d : j < n
    · simp [lst, d]
    · simp [lst, d]
  · have c' : ¬ i = j := fun e => c e.symm
    by_cases d : i < n
    · simp [lst, d, c, c']
    · simp [lst, d, c]
theorem lst_congr {n : Nat} {h g : Nat → Int} (e : ∀ i, i < n → h i = g i) : lst n h = lst n g := by
  unfold lst
  apply List.map_congr_left
  intro i hi
  exact e i (by simpa using hi)
theorem lst_replicate (n : Nat) (y : Int) : List.replicate n y = lst n (fun _ => y) := by
  apply List.ext_getElem?
  intro i
  by_cases c : i < n <;> simp [lst, c]
/-- make([]T, n). -/
theorem make_full {P : Program} (w0 wr : World) {ops : Array Oper} {rest : List Oper} {o : Oper} {a : Act} {Q : Exit → Act → World → Prop} (hgd : o.guard = none) (l c : Operand) (t : TypeId) (hop : o.op = Op.makeSlice t l c)
    (k : IntKind) (e : TypeId) (bytes : Nat) (ht : P.underlying t = some (.slice e)) (hinfo : (P.info? e).map (fun i => (i.zero, i.size, i.bytes)) = some (some (.int k 0), 1, bytes))
    (B n : Nat) (hl : a.eval l = .int .i64 n) (hc : a.eval c = .int .i64 n) (hlen : bytes * n ≤ 281474976710656) (hn : n ≤ 281474976710656) (hb : Below B w0 wr) (hB : B ≤ wr.heap.size)
    (h : ∀ w', Own k e w' B (.slice (some ⟨wr.heap.size, 0, none⟩) n n) (List.replicate n 0) → Below B w0 w' → wr.heap.size < w'.heap.size → wpList P ops Q rest (a.put o.dst (.slice (some ⟨wr.heap.size, 0, none⟩) n n)) w') : wpList P ops Q (o :: rest) a wr := by
  obtain ⟨i, hi, hz, hsz, hby⟩ := info_parts hinfo
  refine wpList_make_row wr hgd l c t hop e i (.int k 0) ht hi hz hsz rfl .i64 .i64 n hl hc (by rw [hby]; exact hlen) (by omega) ?_
  refine h _ ?_ (hb.alloc hB _) (by simp)
  have := World.ownsRow_lit wr (e := e) (size := 1) (base := B) (madeCells #[.int k 0] n) n hB (by unfold maxLen; omega) (by rw [size_madeCells]; simp)
  unfold Own
  rw [List.length_replicate, List.map_replicate]
  rw [toList_madeCells_one] at this
  exact this
theorem quiet_left {P : Program} {f : FuncId} {args : Array Value} {w : World} {n : Nat} {v : Value}
    (h : Calls P f args (w.drewN n) fun e w' => e = .returned v ∧ w.drewN n = w') : Calls P f args (w.drewN n) fun e w'' => e = .returned v ∧ ∃ m, w'' = w.drewN m :=
  h.mono fun _ _ ⟨he, hm⟩ => ⟨he, n, hm.symm⟩
theorem from_drew {a w : World} (h : Below a.drew.heap.size a.drew w) : Below a.heap.size a w := ⟨h.os, h.tape, h.output, h.size, h.block⟩
theorem below_from {w w0 w1 : World} (h : Below w.heap.size w w0) (k : Below w0.heap.size w0 w1) : Below w.heap.size w w1 := h.trans (k.mono h.size)
theorem from_drewN {a w : World} {m : Nat} (h : Below (a.drewN m).heap.size (a.drewN m) w) : Below a.heap.size a w := ⟨h.os, h.tape, h.output, h.size, h.block⟩
/-- A slice that is written out. -/
theorem row_lit (k : IntKind) (w : World) (l : List Int) (e : TypeId) : Row k (w.alloc (.cells (l.map (Value.int k)).toArray e)) (some ⟨w.heap.size, 0, none⟩) l.length (fun i => l.getD i 0) := by
  intro i hi
  refine ⟨_, rfl, ?_⟩
  have e1 : (⟨w.heap.size, 0, none⟩ : Addr).add i = ⟨w.heap.size, i, none⟩ := by unfold Addr.add; by_cases c : i = 0 <;> simp [c]
  rw [e1, World.cell?_alloc_at _ _ _ _ rfl]
  simp [List.getD_eq_getElem?_getD, hi]
theorem row_litAt (k : IntKind) (w : World) (l : List Int) (e : TypeId) (s : Nat) (hs : w.heap.size = s) : Row k (w.alloc (.cells (l.map (Value.int k)).toArray e)) (some ⟨s, 0, none⟩) l.length (fun i => l.getD i 0) := by
  subst hs; exact row_lit k w l e
/-- append(v, y): one element more. -/
theorem app_one {P : Program} {ops : Array Oper} {rest : List Oper} {o : Oper} {a : Act} {Q : Exit → Act → World → Prop} (hgd : o.guard = none) (s x : Operand) (t : TypeId)
    (ho : o.op = .call { callee := .builtin .append, args := #[s, x], argTypes := #[t, t] })
    (k : IntKind) (e : TypeId) (bytes : Nat) (ht : P.underlying t = some (.slice e)) (hinfo : (P.info? e).map (fun i => (i.zero, i.size, i.bytes)) = some (some (.int k 0), 1, bytes))
    (w0 wr : World) (B : Nat) (v : Value) (l : List Int) (y : Int) (hown : Own k e wr B v l) (hs : a.eval s = v) (hx : a.eval x = .slice (some ⟨wr.heap.size, 0, none⟩) 1 1)
    (hlen : (l.length + 1) * bytes ≤ 140737488355328 ∧ l.length + 1 ≤ 140737488355328) (hb : Below B w0 wr) (hB : B ≤ wr.heap.size)
    (h : ∀ v' w', Own k e w' B v' (l ++ [y]) → Below B w0 w' → B ≤ w'.heap.size → wpList P ops Q rest (a.put o.dst v') w') :
    wpList P ops Q (o :: rest) a (wr.alloc (.cells #[.int k y] e)) := by
  obtain ⟨i, hi, hz, hsz, hby⟩ := info_parts hinfo
  refine wpList_append_own _ hgd s x t ho B e i (.int k 0) 1 bytes ht hi hz hsz hby rfl (by decide) v l.length (l.map (Value.int k)) hs (World.ownsRow.alloc hown _) ⟨wr.heap.size, 0, none⟩ 1 1 [.int k y] hx rfl ?_ ?_ ?_ hlen.1 (by simp; omega) ?_
  · intro j u hu
    match j, hu with
    | 0, hu =>
      simp at hu; subst hu
      have e : (⟨wr.heap.size, 0, none⟩ : Addr).add 0 = ⟨wr.heap.size, 0, none⟩ := rfl
      rw [e, World.cell?_alloc_at _ _ _ _ rfl]; rfl
    | j + 1, hu => simp at hu
  · intro u hu; simp at hu; subst hu; rfl
  · unfold maxLen; omega
  · intro v' w' h1 h2 h3
    refine h v' w' ?_ ?_ ?_
    · unfold Own; rw [List.length_append, List.map_append]; exact h1
    · exact Below.grown (hb.alloc hB _) h2 (by simp; omega) (fun g hg => (World.ownsRow.lt hown g hg).1)
    · have := h2.size; simp at this; omega
/-- append(v, src...): all elements of a slice that is read. -/
theorem app_row {P : Program} {ops : Array Oper} {rest : List Oper} {o : Oper} {a : Act} {Q : Exit → Act → World → Prop} (hgd : o.guard = none) (s x : Operand) (t : TypeId)
    (ho : o.op = .call { callee := .builtin .append, args := #[s, x], argTypes := #[t, t] })
    (k : IntKind) (e : TypeId) (bytes : Nat) (ht : P.underlying t = some (.slice e)) (hinfo : (P.info? e).map (fun i => (i.zero, i.size, i.bytes)) = some (some (.int k 0), 1, bytes))
    (w0 wr : World) (B : Nat) (v : Value) (l : List Int) (A : Option Addr) (n c : Nat) (f : Nat → Int) (hown : Own k e wr B v l) (hr : Row k wr A n f) (hnil : A = none → c = 0) (hs : a.eval s = v) (hx : a.eval x = .slice A n c)
    (hlen : (l.length + n) * bytes ≤ 140737488355328 ∧ l.length + n ≤ 140737488355328) (hb : Below B w0 wr) (hB : B ≤ wr.heap.size)
    (h : ∀ v' w', Own k e w' B v' (l ++ lst n f) → Below B w0 w' → wr.grownBy w' v.ownBlock → wpList P ops Q rest (a.put o.dst v') w') :
    wpList P ops Q (o :: rest) a wr := by
  obtain ⟨i, hi, hz, hsz, hby⟩ := info_parts hinfo
  cases A with
  | none =>
    have hn : n = 0 := by
      by_cases c : n = 0
      · exact c
      · obtain ⟨_, e, _⟩ := hr 0 (by omega); cases e
    subst hn
    have hc := hnil rfl
    subst hc
    refine wpList_append_own_none hgd s x t ho B e i 1 ht hi v l.length (l.map (Value.int k)) hs hown hx ?_
    refine h v wr ?_ hb (World.grownBy.refl _ _)
    simpa [lst] using hown
  | some ad =>
    refine wpList_append_own _ hgd s x t ho B e i (.int k 0) 1 bytes ht hi hz hsz hby rfl (by decide) v l.length (l.map (Value.int k)) hs hown ad n c ((lst n f).map (Value.int k)) hx (by simp [lst]) ?_ ?_ ?_ hlen.1 hB ?_
    · intro j u hu
      by_cases hj : j < n
      · simp [lst, hj] at hu
        subst hu
        exact hr.at_ hj
      · simp [lst, hj] at hu
    · intro u hu
      simp at hu
      obtain ⟨y, _, rfl⟩ := hu; rfl
    · unfold maxLen; omega
    · intro v' w' h1 h2 h3
      refine h v' w' ?_ ?_ ?_
      · unfold Own; rw [List.length_append, List.map_append, lst_len]; exact h1
      · exact Below.grown hb h2 hB (fun g hg => (World.ownsRow.lt hown g hg).1)
      · exact h2
theorem below_of_grown {w w' : World} (h : w.grownBy w' none) : Below w.heap.size w w' := ⟨h.os, h.tape, h.output, h.size, fun k hk => h.block k hk (by simp)⟩
/-- The call returns such a slice and an error number, and writes nothing that was there. -/
def RetOwnE (k : IntKind) (T : TypeId) (l : List Int) (x : Int) (w : World) (e : Ending) (w' : World) : Prop := ∃ v, e = .returned (.tuple #[v, .int .i64 x]) ∧ Own k T w' w.heap.size v l ∧ Below w.heap.size w w'
/-! ### slices of any one-cell values -/
def OwnV (T : TypeId) (w : World) (B : Nat) (v : Value) (l : List Value) : Prop := w.ownsRow B T 1 v l.length l
theorem Own.toV {k : IntKind} {T : TypeId} {w : World} {B : Nat} {v : Value} {l : List Int} (h : Own k T w B v l) : OwnV T w B v (l.map (Value.int k)) := by unfold OwnV; rw [List.length_map]; exact h
theorem OwnV.below {T : TypeId} {w w' : World} {B B' : Nat} {v : Value} {l : List Value} (h : OwnV T w B v l) (hb : Below B' w w') (hB : w.heap.size ≤ B') : OwnV T w' B v l := by
  refine ⟨h.1, ?_⟩
  rcases h.2 with hn | ⟨g, cap, cur, hv, hg, hh, rest⟩
  · exact .inl hn
  · have hlt := (Array.getElem?_eq_some_iff.1 hh).1
    exact .inr ⟨g, cap, cur, hv, hg, (hb.block g (by omega)).trans hh, rest⟩
theorem OwnV.cell {T : TypeId} {w : World} {B g c : Nat} {l : List Value} (h : OwnV T w B (.slice (some ⟨g, 0, none⟩) l.length c) l) {j : Nat} (hj : j < l.length) : w.cell? ⟨g, j, none⟩ = l[j]? := World.ownsRow.cellAt (g := g) (cap := c) h j (by omega)
theorem OwnV.free {T : TypeId} {w : World} {B g c : Nat} {l : List Value} (h : OwnV T w B (.slice (some ⟨g, 0, none⟩) l.length c) l) (j : Nat) : w.frozen? ⟨g, j, none⟩ = false := World.ownsRow.frozenAt (cap := c) h j
theorem OwnV.set {T : TypeId} {w : World} {B g c : Nat} {l : List Value} (h : OwnV T w B (.slice (some ⟨g, 0, none⟩) l.length c) l) (j : Nat) (y : Value) : OwnV T (w.setCell ⟨g, j, none⟩ y) B (.slice (some ⟨g, 0, none⟩) l.length c) (l.set j y) := by
  have := (World.ownsRow.stored (cap := c) h j y).1
  unfold OwnV
  rw [List.length_set]; exact this
theorem OwnV.lt {T : TypeId} {w : World} {B g c n : Nat} {l : List Value} (h : OwnV T w B (.slice (some ⟨g, 0, none⟩) n c) l) : B ≤ g ∧ g < w.heap.size := World.ownsRow.lt h g rfl
/-- A store into another block keeps the slice. -/
theorem OwnV.other {T : TypeId} {w : World} {B : Nat} {v : Value} {l : List Value} (h : OwnV T w B v l) {p : Addr} (hp : v.ownBlock ≠ some p.block) (y : Value) : OwnV T (w.setCell p y) B v l := by
  refine ⟨h.1, ?_⟩
  rcases h.2 with hn | ⟨g, cap, cur, rfl, hg, hh, rest⟩
  · exact .inl hn
  · refine .inr ⟨g, cap, cur, rfl, hg, ?_, rest⟩
    rw [Below.heap_setCell _ _ _ _ (fun e => hp (by rw [← e]; rfl))]; exact hh
theorem Own.other {k : IntKind} {T : TypeId} {w : World} {B : Nat} {v : Value} {l : List Int} (h : Own k T w B v l) {p : Addr} (hp : v.ownBlock ≠ some p.block) (y : Value) : Own k T (w.setCell p y) B v l := by
  have := OwnV.other h.toV hp y
  unfold OwnV at this
  rw [List.length_map] at this
  exact this
def vlst (n : Nat) (h : Nat → Value) : List Value := (List.range n).map h
theorem vlst_len (n : Nat) (h : Nat → Value) : (vlst n h).length = n := by simp [vlst]
theorem vlst_get (n : Nat) (h : Nat → Value) (i : Nat) (hi : i < n) : (vlst n h)[i]? = some (h i) := by simp [vlst, hi]
theorem vlst_set (n : Nat) (h : Nat → Value) (j : Nat) (y : Value) : (vlst n h).set j y = vlst n (fun i => if i = j then y else h i) := by
  apply List.ext_getElem?
  intro i
  rw [List.getElem?_set]
  by_cases c : j = i
  · subst c
    by_cases d : j < n
    · simp [vlst, d]
    · simp [vlst, d]
  · have c' : ¬ i = j := fun e => c e.symm
    by_cases d : i < n
    · simp [vlst, d, c, c']
    · simp [vlst, d, c]
theorem vlst_congr {n : Nat} {h g : Nat → Value} (e : ∀ i, i < n → h i = g i) : vlst n h = vlst n g := by
  unfold vlst
  apply List.map_congr_left
  intro i hi
  exact e i (by simpa using hi)
theorem vlst_replicate (n : Nat) (y : Value) : List.replicate n y = vlst n (fun _ => y) := by
  apply List.ext_getElem?
  intro i
  by_cases c : i < n <;> simp [vlst, c]
/-- make([]T, n), T of one cell. -/
theorem make_fullV {P : Program} (w0 wr : World) {ops : Array Oper} {rest : List Oper} {o : Oper} {a : Act} {Q : Exit → Act → World → Prop} (hgd : o.guard = none) (l c : Operand) (t : TypeId) (hop : o.op = Op.makeSlice t l c)
    (z : Value) (e : TypeId) (bytes : Nat) (ht : P.underlying t = some (.slice e)) (hinfo : (P.info? e).map (fun i => (i.zero, i.size, i.bytes)) = some (some z, 1, bytes)) (hz1 : z.cells = #[z])
    (B n : Nat) (hl : a.eval l = .int .i64 n) (hc : a.eval c = .int .i64 n) (hlen : bytes * n ≤ 281474976710656) (hn : n ≤ 281474976710656) (hb : Below B w0 wr) (hB : B ≤ wr.heap.size)
    (h : ∀ w', OwnV e w' B (.slice (some ⟨wr.heap.size, 0, none⟩) n n) (List.replicate n z) → Below B w0 w' → Below wr.heap.size wr w' → wr.heap.size < w'.heap.size → wpList P ops Q rest (a.put o.dst (.slice (some ⟨wr.heap.size, 0, none⟩) n n)) w') : wpList P ops Q (o :: rest) a wr := by
  obtain ⟨i, hi, hz, hsz, hby⟩ := info_parts hinfo
  refine wpList_make_row wr hgd l c t hop e i z ht hi hz hsz hz1 .i64 .i64 n hl hc (by rw [hby]; exact hlen) (by omega) ?_
  refine h _ ?_ (hb.alloc hB _) ((Below.refl _ _).alloc (Nat.le_refl _) _) (by simp)
  have := World.ownsRow_lit wr (e := e) (size := 1) (base := B) (madeCells #[z] n) n hB (by unfold maxLen; omega) (by rw [size_madeCells]; simp)
  unfold OwnV
  rw [List.length_replicate]
  rw [toList_madeCells_one] at this
  exact this
/-! ### an array of the call's own, its content by the index -/
def ArrV (T : TypeId) (w : World) (B g n c : Nat) (h : Nat → Value) : Prop := OwnV T w B (.slice (some ⟨g, 0, none⟩) n c) (vlst n h)
def Arr (k : IntKind) (T : TypeId) (w : World) (B g n c : Nat) (h : Nat → Int) : Prop := ArrV T w B g n c (fun i => .int k (h i))
section
variable {k : IntKind} {T : TypeId} {w w' : World} {B B' g n c : Nat} {h : Nat → Value} {f : Nat → Int}
theorem ArrV.cell (o : ArrV T w B g n c h) {j : Nat} (hj : j < n) : w.cell? ⟨g, j, none⟩ = some (h j) := by
  unfold ArrV at o
  have := OwnV.cell (g := g) (c := c) (l := vlst n h) (by rw [vlst_len]; exact o) (j := j) (by rw [vlst_len]; exact hj)
  rw [this, vlst_get n h j hj]
theorem ArrV.free (o : ArrV T w B g n c h) (j : Nat) : w.frozen? ⟨g, j, none⟩ = false := by
  unfold ArrV at o
  exact OwnV.free (g := g) (c := c) (l := vlst n h) (by rw [vlst_len]; exact o) j
theorem ArrV.set (o : ArrV T w B g n c h) (j : Nat) (y : Value) : ArrV T (w.setCell ⟨g, j, none⟩ y) B g n c (fun i => if i = j then y else h i) := by
  unfold ArrV at o ⊢
  have := OwnV.set (g := g) (c := c) (l := vlst n h) (by rw [vlst_len]; exact o) j y
  rw [vlst_set, vlst_len] at this
  exact this
theorem ArrV.other (o : ArrV T w B g n c h) {p : Addr} (hp : g ≠ p.block) (y : Value) : ArrV T (w.setCell p y) B g n c h := OwnV.other o (by unfold Value.ownBlock; intro e; apply hp; injection e) y
theorem ArrV.below (o : ArrV T w B g n c h) (hb : Below B' w w') (hB : w.heap.size ≤ B') : ArrV T w' B g n c h := OwnV.below o hb hB
theorem ArrV.drewN (o : ArrV T w B g n c h) (m : Nat) : ArrV T (w.drewN m) B g n c h := o
theorem ArrV.lt (o : ArrV T w B g n c h) : B ≤ g ∧ g < w.heap.size := OwnV.lt o
theorem ArrV.congr {h' : Nat → Value} (o : ArrV T w B g n c h) (e : ∀ i, i < n → h i = h' i) : ArrV T w B g n c h' := by
  unfold ArrV at o ⊢; rw [← vlst_congr e]; exact o
theorem Arr.cell (o : Arr k T w B g n c f) {j : Nat} (hj : j < n) : w.cell? ⟨g, j, none⟩ = some (.int k (f j)) := ArrV.cell o hj
theorem Arr.free (o : Arr k T w B g n c f) (j : Nat) : w.frozen? ⟨g, j, none⟩ = false := ArrV.free o j
theorem Arr.set (o : Arr k T w B g n c f) (j : Nat) (y : Int) : Arr k T (w.setCell ⟨g, j, none⟩ (.int k y)) B g n c (fun i => if i = j then y else f i) :=
  (ArrV.set o j (.int k y)).congr fun i _ => by by_cases e : i = j <;> simp [e]
theorem Arr.other (o : Arr k T w B g n c f) {p : Addr} (hp : g ≠ p.block) (y : Value) : Arr k T (w.setCell p y) B g n c f := ArrV.other o hp y
theorem Arr.below (o : Arr k T w B g n c f) (hb : Below B' w w') (hB : w.heap.size ≤ B') : Arr k T w' B g n c f := ArrV.below o hb hB
theorem Arr.drewN (o : Arr k T w B g n c f) (m : Nat) : Arr k T (w.drewN m) B g n c f := o
theorem Arr.lt (o : Arr k T w B g n c f) : B ≤ g ∧ g < w.heap.size := OwnV.lt o
theorem Arr.row (o : Arr k T w B g n c f) : Row k w (some ⟨g, 0, none⟩) n f := fun i hi => ⟨_, rfl, by
  have e : (⟨g, 0, none⟩ : Addr).add i = ⟨g, i, none⟩ := by unfold Addr.add; by_cases c : i = 0 <;> simp [c]
  rw [e]; exact o.cell hi⟩
theorem Arr.of_own {l : List Int} (o : Own k T w B (.slice (some ⟨g, 0, none⟩) n c) l) (hl : l = lst n f) : Arr k T w B g n c f := by
  subst hl
  have := o.toV
  unfold Arr ArrV
  rw [show vlst n (fun i => Value.int k (f i)) = (lst n f).map (Value.int k) by simp [vlst, lst]]
  exact this
theorem Arr.to_own (o : Arr k T w B g n c f) : Own k T w B (.slice (some ⟨g, 0, none⟩) n c) (lst n f) := by
  unfold Arr ArrV OwnV at o
  unfold Own
  rw [vlst_len] at o
  rw [lst_len, show (lst n f).map (Value.int k) = vlst n (fun i => Value.int k (f i)) by simp [vlst, lst]]
  exact o
theorem Arr.mk_own {v : Value} (o : Own k T w B v (lst n f)) (hn : 0 < n) : ∃ g c, v = .slice (some ⟨g, 0, none⟩) n c ∧ B ≤ g ∧ Arr k T w B g n c f := by
  obtain ⟨g, c, rfl, hb, _⟩ := o.form (by rw [lst_len]; exact hn)
  rw [lst_len] at o
  exact ⟨g, c, by rw [lst_len], hb, Arr.of_own o rfl⟩
end
end Go.Proofs.Yteongalbljdjlaa
