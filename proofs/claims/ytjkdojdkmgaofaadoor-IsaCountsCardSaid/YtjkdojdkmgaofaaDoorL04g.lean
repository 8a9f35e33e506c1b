/- Layer 4: the program's functions and the reference's answer the same. -/
import Derived.Test.YtjkdojdkmgaofaaDoorL04f
set_option linter.unusedSimpArgs false
set_option linter.unusedVariables false
namespace Go.Proofs.YtjkdojdkmgaofaaDoor
open Go.ChangeShapes Go.WideShapes Go.ChangeAt Go.RowKit
def Hit (s : ByteArray) (i : Nat) : Prop := i < 39 ∧ nm i = s
def Miss (s : ByteArray) : Prop := ∀ i, i < 39 → nm i ≠ s
theorem hit_or_miss (s : ByteArray) : (∃ i, Hit s i) ∨ Miss s := by
  by_cases h : ∃ i, Hit s i
  · exact .inl h
  · exact .inr (fun i hi e => h ⟨i, hi, e⟩)
/-- A call that returns an instruction and an error. -/
def OpRet (f : FuncId) (args : Array Value) (c0 : Int) (n : ByteArray) (b : Bool) (q x y er : Int) : Prop := ∀ w, Lay w → Calls Tryd.prog f args w fun e w' => e = .returned (.tuple #[.agg #[.int .u8 c0, .string n, .bool b, .int .u8 q, .int .i64 x, .int .i64 y], .int .i64 er]) ∧ Below w.heap.size w w'
theorem find_both (s : ByteArray) (hl : s.size ≤ maxLen) : ∃ c0 n b q x y er, OpRet 14 #[.string s] c0 n b q x y er ∧ OpRet 15 #[.string s] c0 n b q x y er := by
  rcases hit_or_miss s with ⟨i, h39, hs⟩ | h
  · exact ⟨_, _, _, _, _, _, _, fun w hL => Find_hit s i h39 hs w hL, fun w _ => rFind_hit s i h39 hs w⟩
  · exact ⟨_, _, _, _, _, _, _, fun w hL => Find_miss s h hl w hL, fun w _ => rFind_miss s h w⟩
theorem of_both (c : Int) (h0 : 0 ≤ c) (h1 : c ≤ 255) : ∃ c0 n b q x y er, OpRet 16 #[.int .u8 c] c0 n b q x y er ∧ OpRet 17 #[.int .u8 c] c0 n b q x y er := by
  by_cases h : 1 ≤ c ∧ c ≤ 39
  · obtain ⟨i, hi⟩ := Int.eq_ofNat_of_zero_le (show 0 ≤ c - 1 by omega)
    try simp only [Int.ofNat_eq_natCast] at hi
    exact ⟨_, _, _, _, _, _, _, fun w hL => Of_yes c i (by omega) hi w hL, fun w _ => rOf_yes c i (by omega) hi w⟩
  · exact ⟨_, _, _, _, _, _, _, fun w _ => Of_no c h h0 h1 w, fun w _ => rOf_no c h w⟩
/-- A call that returns a word and an error. -/
def WdRet (f : FuncId) (args : Array Value) (v er : Int) : Prop := ∀ w, Lay w → Calls Tryd.prog f args w fun e w' => e = .returned (.tuple #[.int .u16 v, .int .i64 er]) ∧ Below w.heap.size w w'
theorem enc_both (c0 : Int) (n : ByteArray) (b : Bool) (q x y k : Int) (h0 : 0 ≤ c0) (h1 : c0 ≤ 255) (k0 : -9223372036854775808 ≤ k) (k1 : k ≤ 9223372036854775807) : ∃ v er, WdRet 21 #[.agg #[.int .u8 c0, .string n, .bool b, .int .u8 q, .int .i64 x, .int .i64 y], .int .i64 k] v er ∧ WdRet 22 #[.agg #[.int .u8 c0, .string n, .bool b, .int .u8 q, .int .i64 x, .int .i64 y], .int .i64 k] v er := by
  by_cases h : 1 ≤ c0 ∧ c0 ≤ 39
  · obtain ⟨i, hi⟩ := Int.eq_ofNat_of_zero_le (show 0 ≤ c0 - 1 by omega)
    try simp only [Int.ofNat_eq_natCast] at hi
    exact ⟨_, _, fun w hL => Encode_yes c0 n b q x y i (by omega) hi k k0 k1 w hL, fun w _ => rEncode_yes c0 n b q x y i (by omega) hi k k0 k1 w⟩
  · exact ⟨_, _, fun w _ => Encode_no c0 n b q x y h h0 h1 k k0 k1 w, fun w _ => rEncode_no c0 n b q x y h k w⟩
/-- The six cells of an instruction. -/
def OpAt (w : World) (g : Nat) (c0 : Int) (n : ByteArray) (b : Bool) (q x y : Int) : Prop := w.cell? ⟨g, 0, none⟩ = some (.int .u8 c0) ∧ w.cell? ⟨g, 1, none⟩ = some (.string n) ∧ w.cell? ⟨g, 2, none⟩ = some (.bool b) ∧ w.cell? ⟨g, 3, none⟩ = some (.int .u8 q) ∧ w.cell? ⟨g, 4, none⟩ = some (.int .i64 x) ∧ w.cell? ⟨g, 5, none⟩ = some (.int .i64 y)
theorem OpAt.below {w w' : World} {g B : Nat} {c0 : Int} {n : ByteArray} {b : Bool} {q x y : Int} (h : OpAt w g c0 n b q x y) (hb : Below B w w') (hg : g < B) : OpAt w' g c0 n b q x y :=
  ⟨(hb.cell (p := ⟨g, 0, none⟩) hg).trans h.1, (hb.cell (p := ⟨g, 1, none⟩) hg).trans h.2.1, (hb.cell (p := ⟨g, 2, none⟩) hg).trans h.2.2.1, (hb.cell (p := ⟨g, 3, none⟩) hg).trans h.2.2.2.1, (hb.cell (p := ⟨g, 4, none⟩) hg).trans h.2.2.2.2.1, (hb.cell (p := ⟨g, 5, none⟩) hg).trans h.2.2.2.2.2⟩
theorem OpAt.alloc (w : World) (T : TypeId) (c0 : Int) (n : ByteArray) (b : Bool) (q x y : Int) : OpAt (w.alloc (.cells #[.int .u8 c0, .string n, .bool b, .int .u8 q, .int .i64 x, .int .i64 y] T)) w.heap.size c0 n b q x y := by
  refine ⟨?_, ?_, ?_, ?_, ?_, ?_⟩ <;> (rw [World.cell?_alloc_at _ _ _ _ rfl]; rfl)
end Go.Proofs.YtjkdojdkmgaofaaDoor
