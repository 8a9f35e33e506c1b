/- Plain functions of layer 4: the instructions, their words and what words mean. -/
import Derived.Test.YtmmpifcfhjdfnaaBase
set_option linter.unusedSimpArgs false
set_option linter.unusedVariables false
namespace Go.Proofs.Ytmmpifcfhjdfnaa
open Go.RowKit
/-- The names, kinds, bases and cycles of the instructions, in their order. -/
def nmL : List ByteArray := [⟨#[84, 67]⟩, ⟨#[69, 88, 84, 69, 78, 68]⟩, ⟨#[73, 78, 72, 73, 78, 84]⟩, ⟨#[82, 69, 76, 73, 78, 84]⟩, ⟨#[67, 67, 83]⟩, ⟨#[84, 67, 70]⟩, ⟨#[68, 65, 83]⟩, ⟨#[76, 88, 67, 72]⟩, ⟨#[73, 78, 67, 82]⟩, ⟨#[65, 68, 83]⟩, ⟨#[67, 65]⟩, ⟨#[67, 83]⟩, ⟨#[73, 78, 68, 69, 88]⟩, ⟨#[82, 69, 83, 85, 77, 69]⟩, ⟨#[68, 88, 67, 72]⟩, ⟨#[84, 83]⟩, ⟨#[88, 67, 72]⟩, ⟨#[65, 68]⟩, ⟨#[77, 65, 83, 75]⟩, ⟨#[82, 69, 65, 68]⟩, ⟨#[87, 82, 73, 84, 69]⟩, ⟨#[82, 65, 78, 68]⟩, ⟨#[87, 65, 78, 68]⟩, ⟨#[82, 79, 82]⟩, ⟨#[87, 79, 82]⟩, ⟨#[82, 88, 79, 82]⟩, ⟨#[69, 68, 82, 85, 80, 84]⟩, ⟨#[68, 86]⟩, ⟨#[66, 90, 70]⟩, ⟨#[77, 83, 85]⟩, ⟨#[81, 88, 67, 72]⟩, ⟨#[65, 85, 71]⟩, ⟨#[68, 73, 77]⟩, ⟨#[68, 67, 65]⟩, ⟨#[68, 67, 83]⟩, ⟨#[88, 73, 78, 68, 69, 88]⟩, ⟨#[83, 85]⟩, ⟨#[66, 90, 77, 70]⟩, ⟨#[77, 80]⟩]
def kdL : List Int := [3, 0, 0, 0, 1, 2, 1, 1, 1, 1, 3, 3, 1, 0, 1, 1, 1, 3, 3, 4, 4, 4, 4, 4, 4, 4, 4, 1, 2, 1, 1, 1, 1, 3, 3, 3, 1, 2, 3]
def bsL : List Int := [0, 6, 4, 3, 4096, 4096, 8192, 9216, 10240, 11264, 12288, 16384, 20480, 20495, 21504, 22528, 23552, 24576, 28672, 0, 512, 1024, 1536, 2048, 2560, 3072, 3584, 4096, 4096, 8192, 9216, 10240, 11264, 12288, 16384, 20480, 24576, 24576, 28672]
def cyL : List Int := [1, 1, 1, 1, 2, 1, 3, 2, 2, 2, 2, 2, 2, 2, 3, 2, 2, 2, 2, 2, 2, 2, 2, 2, 2, 2, 3, 6, 2, 2, 2, 2, 2, 3, 3, 2, 2, 2, 3]
def nm (i : Nat) : ByteArray := nmL.getD i ByteArray.empty
def kd (i : Nat) : Int := kdL.getD i 0
def bs (i : Nat) : Int := bsL.getD i 0
def cy (i : Nat) : Int := cyL.getD i 0
/-- Bits, least and greatest operand of a kind. -/
def bt (k : Int) : Int := if k = 1 then 10 else if k = 2 then 12 else if k = 3 then 12 else if k = 4 then 9 else 0
def lo (k : Int) : Int := if k = 2 then 1024 else 0
def hi (k : Int) : Int := if k = 1 then 1023 else if k = 2 then 4095 else if k = 3 then 4095 else if k = 4 then 511 else 0
/-- Instruction i as a value; no instruction. -/
def opV (i : Nat) : Value := .agg #[.int .u8 ((i + 1 : Nat) : Int), .string (nm i), .bool (decide (19 ≤ i)), .int .u8 (kd i), .int .i64 (bt (kd i)), .int .i64 (cy i)]
def op0 : Value := .agg #[.int .u8 0, .string ⟨#[]⟩, .bool false, .int .u8 0, .int .i64 0, .int .i64 0]
/-- The operand k is reserved for instruction i. -/
def rsv (i : Nat) (k : Int) : Prop := (i = 0 ∧ (k = 3 ∨ k = 4 ∨ k = 6)) ∨ (i = 12 ∧ k = 15)
instance (i : Nat) (k : Int) : Decidable (rsv i k) := by unfold rsv; infer_instance
def encOk (i : Nat) (k : Int) : Prop := lo (kd i) ≤ k ∧ k ≤ hi (kd i) ∧ ¬ rsv i k
instance (i : Nat) (k : Int) : Decidable (encOk i k) := by unfold encOk; infer_instance
/-- What Of and Encode answer. -/
def mOfV (c : Int) : Value := if 1 ≤ c ∧ c ≤ 39 then opV (c - 1).toNat else op0
def mOfE (c : Int) : Int := if 1 ≤ c ∧ c ≤ 39 then 0 else 7
def mEncV (c k : Int) : Int := if 1 ≤ c ∧ c ≤ 39 ∧ encOk (c - 1).toNat k then bs (c - 1).toNat + k else 0
def mEncE (c k : Int) : Int := if 1 ≤ c ∧ c ≤ 39 then (if encOk (c - 1).toNat k then 0 else 3) else 7
theorem kd_bd : ∀ i, i < 39 → 0 ≤ kd i ∧ kd i ≤ 4 := by decide
theorem bs_bd : ∀ i, i < 39 → 0 ≤ bs i ∧ bs i ≤ 28672 := by decide
theorem cy_bd : ∀ i, i < 39 → 1 ≤ cy i ∧ cy i ≤ 6 := by decide
theorem bs_hi : ∀ i, i < 39 → 0 ≤ lo (kd i) ∧ lo (kd i) ≤ hi (kd i) ∧ hi (kd i) ≤ 4095 ∧ bs i + hi (kd i) ≤ 32767 := by decide
theorem nm_TC : ∀ i, i < 39 → (nm i = ⟨#[84, 67]⟩ ↔ i = 0) := by decide
theorem nm_INDEX : ∀ i, i < 39 → (nm i = ⟨#[73, 78, 68, 69, 88]⟩ ↔ i = 12) := by decide
theorem nm_inj : ∀ i, i < 39 → ∀ j, j < 39 → nm i = nm j → i = j := by decide
end Go.Proofs.Ytmmpifcfhjdfnaa
