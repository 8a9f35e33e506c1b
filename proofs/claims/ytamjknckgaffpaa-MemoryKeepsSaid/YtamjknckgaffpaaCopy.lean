/- copy into a part of an array of the call's own. -/
import Derived.Test.YtamjknckgaffpaaApp
import Derived.Laws.CopyOwn
set_option linter.unusedSimpArgs false
set_option linter.unusedVariables false
namespace Go.Proofs.Ytamjknckgaffpaa
open Go.ChangeShapes Go.WideShapes Go.ChangeAt Go.RowKit
theorem splice_get {α : Type} (L : List α) (off : Nat) (cs : List α) (hf : off + cs.length ≤ L.length) (i : Nat) : (splice L off cs)[i]? = if off ≤ i ∧ i < off + cs.length then cs[i - off]? else L[i]? := by
  have hl : (L.take off).length = off := by simp; omega
  unfold splice
  by_cases h1 : i < off
  · rw [if_neg (by omega), List.getElem?_append_left (by omega), List.getElem?_take, if_pos h1]
  · rw [List.getElem?_append_right (by omega), hl]
    by_cases h2 : i < off + cs.length
    · rw [if_pos (by omega), List.getElem?_append_left (by omega)]
    · rw [if_neg (by omega), List.getElem?_append_right (by omega), List.getElem?_drop]
      congr 1; omega
theorem Arr.congr {k : IntKind} {T : TypeId} {w : World} {B g n c : Nat} {f f' : Nat → Int} (o : Arr k T w B g n c f) (e : ∀ i, i < n → f i = f' i) : Arr k T w B g n c f' := Arr.of_own o.to_own (lst_congr e)
/-- The goal stands at the operation that writes slot s. -/
theorem at_slot {P : Program} {ops : Array Oper} {rest : List Oper} {a : Act} {w : World} {Q : Exit → Act → World → Prop} (s : Nat) {op : Op} {ty : TypeId} {pos : String} {after : Array Edge} {gd : Option (Nat × Bool)}
    (h : wpList P ops Q (⟨some s, op, ty, pos, after, gd⟩ :: rest) a w) : wpList P ops Q (⟨some s, op, ty, pos, after, gd⟩ :: rest) a w := h
theorem Arr.open_ {k : IntKind} {e : TypeId} {w : World} {B g n c : Nat} {f : Nat → Int} (oa : Arr k e w B g n c f) :
    ∃ cur : Array Value, B ≤ g ∧ w.heap[g]? = some (.cells cur e (0, 0)) ∧ n ≤ c ∧ c ≤ maxLen ∧ cur.toList.length = c ∧ cur.toList.take n = (lst n f).map (Value.int k) := by
  have o1 := oa.to_own
  unfold Own at o1
  rw [lst_len] at o1
  obtain ⟨hlen, hcase⟩ := o1
  rcases hcase with ⟨hv, _⟩ | ⟨g', cap, cur, hv, hBg, hheap, hn, hcap, hsize, htake⟩
  · cases hv
  cases hv
  rw [Nat.mul_one] at hsize htake
  exact ⟨cur, hBg, hheap, hn, hcap, by simpa using hsize, htake⟩
theorem Arr.spliced {k : IntKind} {e : TypeId} {w' : World} {B g n c off q : Nat} {f h : Nat → Int} {cur : Array Value} (hBg : B ≤ g) (hn : n ≤ c) (hcap : c ≤ maxLen) (hcsz : cur.toList.length = c) (htake : cur.toList.take n = (lst n f).map (Value.int k)) (hfit : off + q ≤ n)
    (hw : w'.heap[g]? = some (.cells (splice cur.toList off ((lst q h).map (Value.int k))).toArray e (0, 0))) : Arr k e w' B g n c (fun i => if off ≤ i ∧ i < off + q then h (i - off) else f i) := by
  have hcl : ((lst q h).map (Value.int k)).length = q := by simp [lst]
  refine Arr.of_own ?_ rfl
  unfold Own
  rw [lst_len]
  refine ⟨by simp [lst], .inr ⟨g, c, (splice cur.toList off ((lst q h).map (Value.int k))).toArray, rfl, hBg, hw, hn, hcap, ?_, ?_⟩⟩
  · rw [List.size_toArray, length_splice _ _ _ (by rw [hcl, hcsz]; omega), hcsz]; simp
  · rw [List.toList_toArray, Nat.mul_one]
    apply List.ext_getElem?
    intro p
    by_cases hq : p < n
    · rw [List.getElem?_take, if_pos hq, splice_get _ _ _ (by rw [hcl, hcsz]; omega), hcl]
      have h2 : cur.toList[p]? = some (Value.int k (f p)) := by
        have h3 : (cur.toList.take n)[p]? = ((lst n f).map (Value.int k))[p]? := by rw [htake]
        rw [List.getElem?_take, if_pos hq] at h3
        rw [h3]; simp [lst, hq]
      by_cases c1 : off ≤ p ∧ p < off + q
      · have c2 : p - off < q := by omega
        rw [if_pos c1]
        simp [lst, hq, c1, c2]
      · rw [if_neg c1, h2]
        simp [lst, hq]
        intro h4 h5; exact absurd ⟨h4, h5⟩ c1
    · rw [List.getElem?_take, if_neg hq]; simp [lst, hq]
theorem src_cells {k : IntKind} {w : World} {A : Option Addr} {m q : Nat} {h : Nat → Int} (hr : Row k w A m h) (hq : q ≤ m) {P : Prop} (hP : P) : 0 < ((lst q h).map (Value.int k)).length → P ∧ ∃ ad, A = some ad ∧ ∀ j v, ((lst q h).map (Value.int k))[j]? = some v → w.cell? (ad.add j) = some v := by
  intro hp
  have hcl : ((lst q h).map (Value.int k)).length = q := by simp [lst]
  rw [hcl] at hp
  obtain ⟨ad, rfl, _⟩ := hr 0 (by omega)
  refine ⟨hP, ad, rfl, fun j v hj => ?_⟩
  by_cases hjl : j < q
  · simp [lst, hjl] at hj
    subst hj
    exact hr.at_ (by omega)
  · simp [lst, hjl] at hj
theorem src_one (k : IntKind) (q : Nat) (h : Nat → Int) : ∀ v ∈ (lst q h).map (Value.int k), v.oneCell' = true := by
  intro v hv
  simp at hv
  obtain ⟨y, _, rfl⟩ := hv; rfl
/-- copy(dst, src): dst is a part of an array of the call's own, src a slice that is read; q is the shorter length. -/
theorem copy_arr {P : Program} {ops : Array Oper} {rest : List Oper} {o : Oper} {a : Act} {Q : Exit → Act → World → Prop} (hgd : o.guard = none) (d s : Operand) (dT sT : TypeId)
    (ho : o.op = .call { callee := .builtin .copy, args := #[d, s], argTypes := #[dT, sT] })
    (k : IntKind) (e : TypeId) (bytes : Nat) (hu : P.underlying dT = some (.slice e)) (hinfo : (P.info? e).map (fun i => (i.zero, i.size, i.bytes)) = some (some (.int k 0), 1, bytes))
    (w0 wr : World) (B g n c off dl dc : Nat) (f : Nat → Int) (A : Option Addr) (m mc : Nat) (h : Nat → Int) (oa : Arr k e wr B g n c f) (hr : Row k wr A m h)
    (hd : a.eval d = .slice (some ⟨g, off, none⟩) dl dc) (hs : a.eval s = .slice A m mc) (q : Nat) (hq : q = Nat.min m dl) (hfit : off + q ≤ n) (hb : Below B w0 wr)
    (hh : ∀ w', Arr k e w' B g n c (fun i => if off ≤ i ∧ i < off + q then h (i - off) else f i) → Below B w0 w' → wpList P ops Q rest (a.put o.dst (goInt q)) w') :
    wpList P ops Q (o :: rest) a wr := by
  obtain ⟨i, hi, hz, hsz, hby⟩ := info_parts hinfo
  obtain ⟨cur, hBg, hheap, hn, hcap, hcsz, htake⟩ := oa.open_
  have hcl : ((lst q h).map (Value.int k)).length = q := by simp [lst]
  have hqm : q ≤ m := by rw [hq]; exact Nat.min_le_left _ _
  refine wpList_copy_splice hgd d s dT sT ho e hu (by rw [hi]; simp [hsz]) (some ⟨g, off, none⟩) A dl dc m mc hd hs g off cur.toList e (by simpa using hheap) ((lst q h).map (Value.int k)) (by rw [hcl, hq]) (src_cells hr hqm rfl) (by rw [hcl]; omega) (src_one k q h) B w0 hb hBg ?_
  intro w' hw hb'
  rw [hcl]
  exact hh w' (Arr.spliced hBg hn hcap hcsz htake hfit hw.out) hb'
/-- The same as one step of a region that draws. -/
theorem step_copy_arr {P : Program} {ops : Array Oper} {o : Oper} {a : Act} {wr : World} {K : Act → World → Prop} {Q : Exit → Act → World → Prop} {E : Prop} (hgd : o.guard = none) (d s : Operand) (dT sT : TypeId)
    (ho : o.op = .call { callee := .builtin .copy, args := #[d, s], argTypes := #[dT, sT] })
    (k : IntKind) (e : TypeId) (bytes : Nat) (hu : P.underlying dT = some (.slice e)) (hinfo : (P.info? e).map (fun i => (i.zero, i.size, i.bytes)) = some (some (.int k 0), 1, bytes))
    (w0 : World) (B g n c off dl dc : Nat) (f : Nat → Int) (A : Option Addr) (m mc : Nat) (h : Nat → Int) (oa : Arr k e wr B g n c f) (hr : Row k wr A m h)
    (hd : a.eval d = .slice (some ⟨g, off, none⟩) dl dc) (hs : a.eval s = .slice A m mc) (q : Nat) (hq : q = Nat.min m dl) (hfit : off + q ≤ n) (hb : Below B w0 wr)
    (hh : ∀ w', Arr k e w' B g n c (fun i => if off ≤ i ∧ i < off + q then h (i - off) else f i) → Below B w0 w' → K (a.put o.dst (goInt q)) w') :
    if Region.wanted o (yielded ops a.tmps) = true then Oper.wp P o a wr K Q else E := by
  obtain ⟨i, hi, hz, hsz, hby⟩ := info_parts hinfo
  obtain ⟨cur, hBg, hheap, hn, hcap, hcsz, htake⟩ := oa.open_
  have hcl : ((lst q h).map (Value.int k)).length = q := by simp [lst]
  have hqm : q ≤ m := by rw [hq]; exact Nat.min_le_left _ _
  refine step_copy_splice hgd d s dT sT ho e hu (by rw [hi]; simp [hsz]) (some ⟨g, off, none⟩) A dl dc m mc hd hs g off cur.toList e (by simpa using hheap) ((lst q h).map (Value.int k)) (by rw [hcl, hq]) (src_cells hr hqm rfl) (by rw [hcl]; omega) (src_one k q h) B w0 hb hBg ?_
  intro w' hw hb'
  rw [hcl]
  exact hh w' (Arr.spliced hBg hn hcap hcsz htake hfit hw.out) hb'
end Go.Proofs.Ytamjknckgaffpaa
