/- Bit operations on 16-bit numbers, as division and remainder. -/
import Derived.WalkKit
import Derived.ProofKit
import Derived.Laws.BitsAllLaws
import Derived.OpenShut
import Derived.Outline
import Derived.Laws.EntriesVeiled
import Derived.Handy
import Derived.Deep.QuietTactic
import Derived.BigQuiet
import Derived.Lib.Hide
import Derived.WalkSmall
import Derived.Below
namespace Go.Proofs.YtfndbdcapliclaaGreatDoor
open Go.RowKit
theorem ret_int {k : IntKind} {a b : Int} (h : a = b) : Ending.returned (.int k a) = .returned (.int k b) := by rw [h]
theorem ret_bool {a b : Bool} (h : a = b) : Ending.returned (.bool a) = .returned (.bool b) := by rw [h]
theorem ret_tup2 {k k' : IntKind} {a b c d : Int} (h : a = b) (h' : c = d) : Ending.returned (.tuple #[.int k a, .int k' c]) = .returned (.tuple #[.int k b, .int k' d]) := by rw [h, h']
theorem and15 (a : Int) (h0 : 0 ≤ a) (h1 : a < 65536) : bits .and .u16 a 32767 = a % 32768 := by
  have := bits_mask .u16 16 (by decide) (fun n h h' => IntWalk.u16_in n (by omega)) 15 (by decide) a h0 (by omega)
  simpa using this
theorem and1 (a : Int) (h0 : 0 ≤ a) (h1 : a < 65536) : bits .and .u16 a 1 = a % 2 := by
  have := bits_mask .u16 16 (by decide) (fun n h h' => IntWalk.u16_in n (by omega)) 1 (by decide) a h0 (by omega)
  simpa using this
theorem and7 (a : Int) (h0 : 0 ≤ a) (h1 : a < 65536) : bits .and .u16 a 127 = a % 128 := by
  have := bits_mask .u16 16 (by decide) (fun n h h' => IntWalk.u16_in n (by omega)) 7 (by decide) a h0 (by omega)
  simpa using this
theorem and14 (a : Int) (h0 : 0 ≤ a) (h1 : a < 65536) : bits .and .u16 a 16383 = a % 16384 := by
  have := bits_mask .u16 16 (by decide) (fun n h h' => IntWalk.u16_in n (by omega)) 14 (by decide) a h0 (by omega)
  simpa using this
theorem nat_and_bit (a i : Nat) : a &&& 2 ^ i = a / 2 ^ i % 2 * 2 ^ i := by
  apply Nat.eq_of_testBit_eq
  intro j
  rw [Nat.mul_comm, Nat.testBit_and, Nat.testBit_two_pow, Nat.testBit_two_pow_mul]
  by_cases h : i = j
  · subst h; simp [Nat.testBit, Nat.shiftRight_eq_div_pow]
  · simp [h]
    intro hj
    have hk : j - i ≠ 0 := by omega
    obtain ⟨k, hk⟩ : ∃ k, j - i = k + 1 := ⟨j - i - 1, by omega⟩
    rw [hk, Nat.testBit_succ]
    have : a / 2 ^ i % 2 / 2 = 0 := by omega
    rw [this]; simp
theorem andBit14 (a : Int) (h0 : 0 ≤ a) (h1 : a < 65536) : bits .and .u16 a 16384 = a / 16384 % 2 * 16384 := by
  have h := u16_and a 16384 h0 h1 (by omega) (by omega)
  rw [h]
  have := nat_and_bit a.toNat 14
  simp at this
  simp [this]
  omega
theorem andBit15 (a : Int) (h0 : 0 ≤ a) (h1 : a < 65536) : bits .and .u16 a 32768 = a / 32768 * 32768 := by
  have h := u16_and a 32768 h0 h1 (by omega) (by omega)
  rw [h]
  have := nat_and_bit a.toNat 15
  simp at this
  simp [this]
  omega
theorem andSigns (a : Int) (h0 : 0 ≤ a) (h1 : a < 65536) : bits .and .u16 a 49152 = a / 16384 * 16384 := by
  have h := u16_and a 49152 h0 h1 (by omega) (by omega)
  rw [h]
  have e : a.toNat &&& 49152 = a.toNat / 16384 * 16384 := by
    have h1 : (49152 : Nat) = 2 ^ 14 * 3 := by decide
    have h2 : a.toNat = 2 ^ 14 * (a.toNat / 16384) + a.toNat % 16384 := by omega
    apply Nat.eq_of_testBit_eq
    intro j
    rw [Nat.mul_comm, show (16384 : Nat) = 2 ^ 14 from rfl, h1, Nat.testBit_and, Nat.testBit_two_pow_mul, Nat.testBit_two_pow_mul, Nat.testBit_div_two_pow]
    by_cases hj : 14 ≤ j
    · obtain ⟨k, rfl⟩ : ∃ k, j = k + 14 := ⟨j - 14, by omega⟩
      simp
      intro ht
      have : k < 2 := by
        by_cases hk : k < 2
        · exact hk
        · exfalso
          have := Nat.testBit_lt_two_pow (x := a.toNat) (i := k + 14) (Nat.lt_of_lt_of_le (show a.toNat < 2 ^ 16 by omega) (Nat.pow_le_pow_right (by decide) (by omega)))
          simp [this] at ht
      match k, this with
      | 0, _ => rfl
      | 1, _ => rfl
    · simp [hj]
  simp [e]
  omega
theorem or_join (i : Nat) (x y : Int) (hx₀ : 0 ≤ x) (hx : x % 2 ^ i = 0) (hx₁ : x < 65536) (hy₀ : 0 ≤ y) (hy : y < 2 ^ i) (hy₁ : y < 65536) : bits .or .u16 x y = x + y :=
  bits_join .u16 16 (by decide) (fun n h h' => IntWalk.u16_in n (by omega)) i x y hx₀ hx hx₁ hy₀ hy hy₁
theorem or_join' (i : Nat) (x y : Int) (hx₀ : 0 ≤ x) (hx : x % 2 ^ i = 0) (hx₁ : x < 65536) (hy₀ : 0 ≤ y) (hy : y < 2 ^ i) (hy₁ : y < 65536) : bits .or .u16 y x = y + x := by
  have := or_join i x y hx₀ hx hx₁ hy₀ hy hy₁
  rw [show bits .or .u16 y x = bits .or .u16 x y by unfold bits; simp only [BitVec.or_comm], this]; omega
end Go.Proofs.YtfndbdcapliclaaGreatDoor

/- Small lemmas: worlds that only grow, cells of older blocks, results. -/
set_option linter.unusedSimpArgs false
set_option linter.unusedVariables false
namespace Go.Proofs.YtfndbdcapliclaaGreatDoor
open Go.ChangeShapes Go.WideShapes Go.ChangeAt Go.RowKit

theorem cell_old {w : World} {o : Obj} {b k : Nat} (h : b < w.heap.size) : (w.alloc o).cell? ⟨b, k, none⟩ = w.cell? ⟨b, k, none⟩ := ((Below.refl w.heap.size w).alloc (Nat.le_refl _) o).cell (p := ⟨b, k, none⟩) h
theorem tmod_bd (n m : Int) (h : 0 < m) : -m < n.tmod m ∧ n.tmod m < m := ⟨Int.lt_tmod_of_pos n h, Int.tmod_lt_of_pos n h⟩
theorem size_drewN (w : World) (n : Nat) : (w.drewN n).heap.size = w.heap.size := rfl
theorem bcell {W w1 : World} (hb : Below W.heap.size W w1) : (∀ b o, b < W.heap.size → w1.cell? ⟨b, o, none⟩ = W.cell? ⟨b, o, none⟩) ∧ (∀ b o, b < W.heap.size → w1.frozen? ⟨b, o, none⟩ = W.frozen? ⟨b, o, none⟩) :=
  ⟨fun b o h => hb.cell (p := ⟨b, o, none⟩) h, fun b o h => hb.frozen (p := ⟨b, o, none⟩) h⟩
end Go.Proofs.YtfndbdcapliclaaGreatDoor

/- Plain functions of layer 4: the instructions, their words and what words mean. -/
set_option linter.unusedSimpArgs false
set_option linter.unusedVariables false
namespace Go.Proofs.YtfndbdcapliclaaGreatDoor
open Go.RowKit
/-- The names, kinds, bases and cycles of the instructions, in their order. -/
def nmL : List ByteArray := [⟨#[84, 67]⟩, ⟨#[69, 88, 84, 69, 78, 68]⟩, ⟨#[73, 78, 72, 73, 78, 84]⟩, ⟨#[82, 69, 76, 73, 78, 84]⟩, ⟨#[67, 67, 83]⟩, ⟨#[84, 67, 70]⟩, ⟨#[68, 65, 83]⟩, ⟨#[76, 88, 67, 72]⟩, ⟨#[73, 78, 67, 82]⟩, ⟨#[65, 68, 83]⟩, ⟨#[67, 65]⟩, ⟨#[67, 83]⟩, ⟨#[73, 78, 68, 69, 88]⟩, ⟨#[82, 69, 83, 85, 77, 69]⟩, ⟨#[68, 88, 67, 72]⟩, ⟨#[84, 83]⟩, ⟨#[88, 67, 72]⟩, ⟨#[65, 68]⟩, ⟨#[77, 65, 83, 75]⟩, ⟨#[82, 69, 65, 68]⟩, ⟨#[87, 82, 73, 84, 69]⟩, ⟨#[82, 65, 78, 68]⟩, ⟨#[87, 65, 78, 68]⟩, ⟨#[82, 79, 82]⟩, ⟨#[87, 79, 82]⟩, ⟨#[82, 88, 79, 82]⟩, ⟨#[69, 68, 82, 85, 80, 84]⟩, ⟨#[68, 86]⟩, ⟨#[66, 90, 70]⟩, ⟨#[77, 83, 85]⟩, ⟨#[81, 88, 67, 72]⟩, ⟨#[65, 85, 71]⟩, ⟨#[68, 73, 77]⟩, ⟨#[68, 67, 65]⟩, ⟨#[68, 67, 83]⟩, ⟨#[88, 73, 78, 68, 69, 88]⟩, ⟨#[83, 85]⟩, ⟨#[66, 90, 77, 70]⟩, ⟨#[77, 80]⟩]
def kdL : List Int := [3, 0, 0, 0, 1, 2, 1, 1, 1, 1, 3, 3, 1, 0, 1, 1, 1, 3, 3, 4, 4, 4, 4, 4, 4, 4, 4, 1, 2, 1, 1, 1, 1, 3, 3, 3, 1, 2, 3]
def bsL : List Int := [0, 6, 4, 3, 4096, 4096, 8192, 9216, 10240, 11264, 12288, 16384, 20480, 20495, 21504, 22528, 23552, 24576, 28672, 0, 512, 1024, 1536, 2048, 2560, 3072, 3584, 4096, 4096, 8192, 9216, 10240, 11264, 12288, 16384, 20480, 24576, 24576, 28672]
def cyL : List Int := [1, 1, 1, 1, 2, 1, 3, 2, 2, 2, 2, 2, 2, 2, 3, 2, 2, 2, 2, 2, 2, 2, 2, 2, 2, 2, 3, 6, 2, 2, 2, 2, 2, 3, 3, 2, 2, 2, 3]
def nm (i : Nat) : ByteArray := nmL.getD i ByteArray.empty
def kd (i : Nat) : Int := kdL.getD i 0
def bs (i : Nat) : Int := bsL.getD i 0
def cy (i : Nat) : Int := cyL.getD i 0
/-- Bits, least and greatest operand of a kind. -/
def bt (k : Int) : Int := if k = 1 then 10 else if k = 2 then 12 else if k = 3 then 12 else if k = 4 then 9 else 0
def lo (k : Int) : Int := if k = 2 then 1024 else 0
def hi (k : Int) : Int := if k = 1 then 1023 else if k = 2 then 4095 else if k = 3 then 4095 else if k = 4 then 511 else 0
/-- Instruction i as a value; no instruction. -/
def opV (i : Nat) : Value := .agg #[.int .u8 ((i + 1 : Nat) : Int), .string (nm i), .bool (decide (19 ≤ i)), .int .u8 (kd i), .int .i64 (bt (kd i)), .int .i64 (cy i)]
def op0 : Value := .agg #[.int .u8 0, .string ⟨#[]⟩, .bool false, .int .u8 0, .int .i64 0, .int .i64 0]
/-- The operand k is reserved for instruction i. -/
def rsv (i : Nat) (k : Int) : Prop := (i = 0 ∧ (k = 3 ∨ k = 4 ∨ k = 6)) ∨ (i = 12 ∧ k = 15)
instance (i : Nat) (k : Int) : Decidable (rsv i k) := by unfold rsv; infer_instance
def encOk (i : Nat) (k : Int) : Prop := lo (kd i) ≤ k ∧ k ≤ hi (kd i) ∧ ¬ rsv i k
instance (i : Nat) (k : Int) : Decidable (encOk i k) := by unfold encOk; infer_instance
/-- What Of and Encode answer. -/
def mOfV (c : Int) : Value := if 1 ≤ c ∧ c ≤ 39 then opV (c - 1).toNat else op0
def mOfE (c : Int) : Int := if 1 ≤ c ∧ c ≤ 39 then 0 else 7
def mEncV (c k : Int) : Int := if 1 ≤ c ∧ c ≤ 39 ∧ encOk (c - 1).toNat k then bs (c - 1).toNat + k else 0
def mEncE (c k : Int) : Int := if 1 ≤ c ∧ c ≤ 39 then (if encOk (c - 1).toNat k then 0 else 3) else 7
theorem kd_bd : ∀ i, i < 39 → 0 ≤ kd i ∧ kd i ≤ 4 := by decide
theorem bs_bd : ∀ i, i < 39 → 0 ≤ bs i ∧ bs i ≤ 28672 := by decide
theorem cy_bd : ∀ i, i < 39 → 1 ≤ cy i ∧ cy i ≤ 6 := by decide
theorem bs_hi : ∀ i, i < 39 → 0 ≤ lo (kd i) ∧ lo (kd i) ≤ hi (kd i) ∧ hi (kd i) ≤ 4095 ∧ bs i + hi (kd i) ≤ 32767 := by decide
theorem nm_TC : ∀ i, i < 39 → (nm i = ⟨#[84, 67]⟩ ↔ i = 0) := by decide
theorem nm_INDEX : ∀ i, i < 39 → (nm i = ⟨#[73, 78, 68, 69, 88]⟩ ↔ i = 12) := by decide
theorem nm_inj : ∀ i, i < 39 → ∀ j, j < 39 → nm i = nm j → i = j := by decide
end Go.Proofs.YtfndbdcapliclaaGreatDoor

/- Slices of integers that are read: each of the first n places holds a number. -/
set_option linter.unusedSimpArgs false
set_option linter.unusedVariables false
namespace Go.Proofs.YtfndbdcapliclaaGreatDoor
open Go.ChangeShapes Go.WideShapes Go.ChangeAt Go.RowKit
/-- The slice at A has in its first n places the numbers f 0, f 1, .. of the kind k. -/
def Row (k : IntKind) (w : World) (A : Option Addr) (n : Nat) (f : Nat → Int) : Prop := ∀ i, i < n → ∃ a, A = some a ∧ w.cell? (a.add i) = some (.int k (f i))
theorem add_block (a : Addr) (i : Nat) : (a.add i).block = a.block := by unfold Addr.add; by_cases h : i = 0 <;> simp [h]
theorem lt_of_cell {w : World} {p : Addr} {v : Value} (h : w.cell? p = some v) : p.block < w.heap.size := by
  by_cases c : p.block < w.heap.size
  · exact c
  · exfalso
    have : w.heap[p.block]? = none := by rw [Array.getElem?_eq_none]; omega
    simp [World.cell?, this] at h
theorem Row.below {k : IntKind} {w w' : World} {A : Option Addr} {n : Nat} {f : Nat → Int} {B : Nat} (h : Row k w A n f) (hb : Below B w w') (hB : w.heap.size ≤ B) : Row k w' A n f := by
  intro i hi
  obtain ⟨a, e, hc⟩ := h i hi
  exact ⟨a, e, (hb.cell (Nat.lt_of_lt_of_le (lt_of_cell hc) hB)).trans hc⟩
theorem Row.drewN {k : IntKind} {w : World} {A : Option Addr} {n : Nat} {f : Nat → Int} (h : Row k w A n f) (m : Nat) : Row k (w.drewN m) A n f := h
theorem Row.take {k : IntKind} {w : World} {A : Option Addr} {n m : Nat} {f : Nat → Int} (h : Row k w A n f) (hm : m ≤ n) : Row k w A m f := fun i hi => h i (by omega)
theorem Row.nil {k : IntKind} {w : World} {A : Option Addr} {f : Nat → Int} : Row k w A 0 f := fun i hi => by omega
theorem Row.open_ {k : IntKind} {w : World} {A : Option Addr} {n : Nat} {f : Nat → Int} (h : Row k w A n f) (hn : 0 < n) : ∃ a, A = some a ∧ ∀ i, i < n → w.cell? (a.add i) = some (.int k (f i)) := by
  obtain ⟨a, rfl, _⟩ := h 0 hn
  refine ⟨a, rfl, fun i hi => ?_⟩
  obtain ⟨b, e, hc⟩ := h i hi
  cases e; exact hc
theorem Row.at_ {k : IntKind} {w : World} {a : Addr} {n : Nat} {f : Nat → Int} (h : Row k w (some a) n f) {i : Nat} (hi : i < n) : w.cell? (a.add i) = some (.int k (f i)) := by
  obtain ⟨b, e, hc⟩ := h i hi
  cases e; exact hc
theorem rowCase {k : IntKind} {w : World} {A : Option Addr} {n : Nat} {f : Nat → Int} (h : Row k w A n f) : Hid (Row k w A n f) ∧ (Hid (n = 0) ∨ ∃ a, A = some a) := by
  refine ⟨h, ?_⟩
  by_cases c : n = 0
  · exact .inl c
  · obtain ⟨a, e, _⟩ := h 0 (by omega); exact .inr ⟨a, e⟩
/-- What a statement's frame tells of a slice of integers that came in. -/
theorem row_of {k : IntKind} {w : World} {a : Option Addr} {len cap : Nat} {zs : List Int}
    (h : (a = none ∧ len = 0 ∧ cap = 0 ∧ zs = []) ∨ ∃ x, a = some x ∧ len ≤ cap ∧ cap ≤ maxLen ∧ zs.length = cap ∧ (∀ i, i < zs.length → w.cell? (x.add i) = some (.int k (zs.getD i 0))) ∧ ∀ n ∈ zs, (Lit.int k n).wf = true) :
    Row k w a len (fun i => zs.getD i 0) ∧ len ≤ cap ∧ cap ≤ 9223372036854775807 ∧ (cap = 0 ∨ ∃ x, a = some x) ∧ ∀ i, (Lit.int k (zs.getD i 0)).wf = true ∨ zs.length ≤ i := by
  rcases h with ⟨rfl, rfl, rfl, rfl⟩ | ⟨x, rfl, h1, h2, h3, h4, h5⟩
  · exact ⟨Row.nil, Nat.le_refl _, by omega, .inl rfl, fun i => .inr (Nat.zero_le _)⟩
  · refine ⟨fun i hi => ⟨x, rfl, h4 i (by omega)⟩, h1, by unfold maxLen at h2; omega, .inr ⟨x, rfl⟩, fun i => ?_⟩
    by_cases c : i < zs.length
    · left
      have e : zs.getD i 0 = zs[i] := by rw [List.getD_eq_getElem?_getD, List.getElem?_eq_getElem c]; rfl
      rw [e]; exact h5 _ (List.getElem_mem c)
    · right; omega
theorem getD_u16 {zs : List Int} (h : ∀ i, (Lit.int .u16 (zs.getD i 0)).wf = true ∨ zs.length ≤ i) (i : Nat) : 0 ≤ zs.getD i 0 ∧ zs.getD i 0 < 65536 := by
  rcases h i with h | h
  · have := bounds_u16 h; omega
  · rw [List.getD_eq_getElem?_getD, List.getElem?_eq_none h]; simp
theorem getD_u8 {zs : List Int} (h : ∀ i, (Lit.int .u8 (zs.getD i 0)).wf = true ∨ zs.length ≤ i) (i : Nat) : 0 ≤ zs.getD i 0 ∧ zs.getD i 0 < 256 := by
  rcases h i with h | h
  · have := bounds_u8 h; omega
  · rw [List.getD_eq_getElem?_getD, List.getElem?_eq_none h]; simp
theorem getD_i64 {zs : List Int} (h : ∀ i, (Lit.int .i64 (zs.getD i 0)).wf = true ∨ zs.length ≤ i) (i : Nat) : -9223372036854775808 ≤ zs.getD i 0 ∧ zs.getD i 0 ≤ 9223372036854775807 := by
  rcases h i with h | h
  · have := bounds_i64 h; omega
  · rw [List.getD_eq_getElem?_getD, List.getElem?_eq_none h]; simp
end Go.Proofs.YtfndbdcapliclaaGreatDoor
