/- Bit operations on 16-bit numbers, as division and remainder. -/
import Derived.WalkKit
import Derived.ProofKit
import Derived.Laws.BitsAllLaws
import Derived.OpenShut
import Derived.Outline
import Derived.Laws.EntriesVeiled
import Derived.Handy
import Derived.Deep.QuietTactic
import Derived.BigQuiet
import Derived.Lib.Hide
import Derived.WalkSmall
namespace Go.Proofs.YtjjkikghfmnikaaGreatDoor
open Go.RowKit
theorem ret_int {k : IntKind} {a b : Int} (h : a = b) : Ending.returned (.int k a) = .returned (.int k b) := by rw [h]
theorem ret_bool {a b : Bool} (h : a = b) : Ending.returned (.bool a) = .returned (.bool b) := by rw [h]
theorem ret_tup2 {k k' : IntKind} {a b c d : Int} (h : a = b) (h' : c = d) : Ending.returned (.tuple #[.int k a, .int k' c]) = .returned (.tuple #[.int k b, .int k' d]) := by rw [h, h']
theorem and15 (a : Int) (h0 : 0 ≤ a) (h1 : a < 65536) : bits .and .u16 a 32767 = a % 32768 := by
  have := bits_mask .u16 16 (by decide) (fun n h h' => IntWalk.u16_in n (by omega)) 15 (by decide) a h0 (by omega)
  simpa using this
theorem and1 (a : Int) (h0 : 0 ≤ a) (h1 : a < 65536) : bits .and .u16 a 1 = a % 2 := by
  have := bits_mask .u16 16 (by decide) (fun n h h' => IntWalk.u16_in n (by omega)) 1 (by decide) a h0 (by omega)
  simpa using this
theorem and7 (a : Int) (h0 : 0 ≤ a) (h1 : a < 65536) : bits .and .u16 a 127 = a % 128 := by
  have := bits_mask .u16 16 (by decide) (fun n h h' => IntWalk.u16_in n (by omega)) 7 (by decide) a h0 (by omega)
  simpa using this
theorem and14 (a : Int) (h0 : 0 ≤ a) (h1 : a < 65536) : bits .and .u16 a 16383 = a % 16384 := by
  have := bits_mask .u16 16 (by decide) (fun n h h' => IntWalk.u16_in n (by omega)) 14 (by decide) a h0 (by omega)
  simpa using this
theorem nat_and_bit (a i : Nat) : a &&& 2 ^ i = a / 2 ^ i % 2 * 2 ^ i := by
  apply Nat.eq_of_testBit_eq
  intro j
  rw [Nat.mul_comm, Nat.testBit_and, Nat.testBit_two_pow, Nat.testBit_two_pow_mul]
  by_cases h : i = j
  · subst h; simp [Nat.testBit, Nat.shiftRight_eq_div_pow]
  · simp [h]
    intro hj
    have hk : j - i ≠ 0 := by omega
    obtain ⟨k, hk⟩ : ∃ k, j - i = k + 1 := ⟨j - i - 1, by omega⟩
    rw [hk, Nat.testBit_succ]
    have : a / 2 ^ i % 2 / 2 = 0 := by omega
    rw [this]; simp
theorem andBit14 (a : Int) (h0 : 0 ≤ a) (h1 : a < 65536) : bits .and .u16 a 16384 = a / 16384 % 2 * 16384 := by
  have h := u16_and a 16384 h0 h1 (by omega) (by omega)
  rw [h]
  have := nat_and_bit a.toNat 14
  simp at this
  simp [this]
  omega
theorem andBit15 (a : Int) (h0 : 0 ≤ a) (h1 : a < 65536) : bits .and .u16 a 32768 = a / 32768 * 32768 := by
  have h := u16_and a 32768 h0 h1 (by omega) (by omega)
  rw [h]
  have := nat_and_bit a.toNat 15
  simp at this
  simp [this]
  omega
theorem andSigns (a : Int) (h0 : 0 ≤ a) (h1 : a < 65536) : bits .and .u16 a 49152 = a / 16384 * 16384 := by
  have h := u16_and a 49152 h0 h1 (by omega) (by omega)
  rw [h]
  have e : a.toNat &&& 49152 = a.toNat / 16384 * 16384 := by
    have h1 : (49152 : Nat) = 2 ^ 14 * 3 := by decide
    have h2 : a.toNat = 2 ^ 14 * (a.toNat / 16384) + a.toNat % 16384 := by omega
    apply Nat.eq_of_testBit_eq
    intro j
    rw [Nat.mul_comm, show (16384 : Nat) = 2 ^ 14 from rfl, h1, Nat.testBit_and, Nat.testBit_two_pow_mul, Nat.testBit_two_pow_mul, Nat.testBit_div_two_pow]
    by_cases hj : 14 ≤ j
    · obtain ⟨k, rfl⟩ : ∃ k, j = k + 14 := ⟨j - 14, by omega⟩
      simp
      intro ht
      have : k < 2 := by
        by_cases hk : k < 2
        · exact hk
        · exfalso
          have := Nat.testBit_lt_two_pow (x := a.toNat) (i := k + 14) (Nat.lt_of_lt_of_le (show a.toNat < 2 ^ 16 by omega) (Nat.pow_le_pow_right (by decide) (by omega)))
          simp [this] at ht
      match k, this with
      | 0, _ => rfl
      | 1, _ => rfl
    · simp [hj]
  simp [e]
  omega
theorem or_join (i : Nat) (x y : Int) (hx₀ : 0 ≤ x) (hx : x % 2 ^ i = 0) (hx₁ : x < 65536) (hy₀ : 0 ≤ y) (hy : y < 2 ^ i) (hy₁ : y < 65536) : bits .or .u16 x y = x + y :=
  bits_join .u16 16 (by decide) (fun n h h' => IntWalk.u16_in n (by omega)) i x y hx₀ hx hx₁ hy₀ hy hy₁
theorem or_join' (i : Nat) (x y : Int) (hx₀ : 0 ≤ x) (hx : x % 2 ^ i = 0) (hx₁ : x < 65536) (hy₀ : 0 ≤ y) (hy : y < 2 ^ i) (hy₁ : y < 65536) : bits .or .u16 y x = y + x := by
  have := or_join i x y hx₀ hx hx₁ hy₀ hy hy₁
  rw [show bits .or .u16 y x = bits .or .u16 x y by unfold bits; simp only [BitVec.or_comm], this]; omega
end Go.Proofs.YtjjkikghfmnikaaGreatDoor

/- Small lemmas: worlds that only grow, cells of older blocks, results. -/
set_option linter.unusedSimpArgs false
set_option linter.unusedVariables false
namespace Go.Proofs.YtjjkikghfmnikaaGreatDoor
open Go.ChangeShapes Go.WideShapes Go.ChangeAt Go.RowKit

theorem cell_old {w : World} {o : Obj} {b k : Nat} (h : b < w.heap.size) : (w.alloc o).cell? ⟨b, k, none⟩ = w.cell? ⟨b, k, none⟩ := ((Below.refl w.heap.size w).alloc (Nat.le_refl _) o).cell (p := ⟨b, k, none⟩) h
theorem tmod_bd (n m : Int) (h : 0 < m) : -m < n.tmod m ∧ n.tmod m < m := ⟨Int.lt_tmod_of_pos n h, Int.tmod_lt_of_pos n h⟩
theorem size_drewN (w : World) (n : Nat) : (w.drewN n).heap.size = w.heap.size := rfl
theorem bcell {W w1 : World} (hb : Below W.heap.size W w1) : (∀ b o, b < W.heap.size → w1.cell? ⟨b, o, none⟩ = W.cell? ⟨b, o, none⟩) ∧ (∀ b o, b < W.heap.size → w1.frozen? ⟨b, o, none⟩ = W.frozen? ⟨b, o, none⟩) :=
  ⟨fun b o h => hb.cell (p := ⟨b, o, none⟩) h, fun b o h => hb.frozen (p := ⟨b, o, none⟩) h⟩
end Go.Proofs.YtjjkikghfmnikaaGreatDoor

/- Plain functions of layer 4: the instructions, their words and what words mean. -/
set_option linter.unusedSimpArgs false
set_option linter.unusedVariables false
namespace Go.Proofs.YtjjkikghfmnikaaGreatDoor
open Go.RowKit
/-- The names, kinds, bases and cycles of the instructions, in their order. -/
def nmL : List ByteArray := [⟨#[84, 67]⟩, ⟨#[69, 88, 84, 69, 78, 68]⟩, ⟨#[73, 78, 72, 73, 78, 84]⟩, ⟨#[82, 69, 76, 73, 78, 84]⟩, ⟨#[67, 67, 83]⟩, ⟨#[84, 67, 70]⟩, ⟨#[68, 65, 83]⟩, ⟨#[76, 88, 67, 72]⟩, ⟨#[73, 78, 67, 82]⟩, ⟨#[65, 68, 83]⟩, ⟨#[67, 65]⟩, ⟨#[67, 83]⟩, ⟨#[73, 78, 68, 69, 88]⟩, ⟨#[82, 69, 83, 85, 77, 69]⟩, ⟨#[68, 88, 67, 72]⟩, ⟨#[84, 83]⟩, ⟨#[88, 67, 72]⟩, ⟨#[65, 68]⟩, ⟨#[77, 65, 83, 75]⟩, ⟨#[82, 69, 65, 68]⟩, ⟨#[87, 82, 73, 84, 69]⟩, ⟨#[82, 65, 78, 68]⟩, ⟨#[87, 65, 78, 68]⟩, ⟨#[82, 79, 82]⟩, ⟨#[87, 79, 82]⟩, ⟨#[82, 88, 79, 82]⟩, ⟨#[69, 68, 82, 85, 80, 84]⟩, ⟨#[68, 86]⟩, ⟨#[66, 90, 70]⟩, ⟨#[77, 83, 85]⟩, ⟨#[81, 88, 67, 72]⟩, ⟨#[65, 85, 71]⟩, ⟨#[68, 73, 77]⟩, ⟨#[68, 67, 65]⟩, ⟨#[68, 67, 83]⟩, ⟨#[88, 73, 78, 68, 69, 88]⟩, ⟨#[83, 85]⟩, ⟨#[66, 90, 77, 70]⟩, ⟨#[77, 80]⟩]
def kdL : List Int := [3, 0, 0, 0, 1, 2, 1, 1, 1, 1, 3, 3, 1, 0, 1, 1, 1, 3, 3, 4, 4, 4, 4, 4, 4, 4, 4, 1, 2, 1, 1, 1, 1, 3, 3, 3, 1, 2, 3]
def bsL : List Int := [0, 6, 4, 3, 4096, 4096, 8192, 9216, 10240, 11264, 12288, 16384, 20480, 20495, 21504, 22528, 23552, 24576, 28672, 0, 512, 1024, 1536, 2048, 2560, 3072, 3584, 4096, 4096, 8192, 9216, 10240, 11264, 12288, 16384, 20480, 24576, 24576, 28672]
def cyL : List Int := [1, 1, 1, 1, 2, 1, 3, 2, 2, 2, 2, 2, 2, 2, 3, 2, 2, 2, 2, 2, 2, 2, 2, 2, 2, 2, 3, 6, 2, 2, 2, 2, 2, 3, 3, 2, 2, 2, 3]
def nm (i : Nat) : ByteArray := nmL.getD i ByteArray.empty
def kd (i : Nat) : Int := kdL.getD i 0
def bs (i : Nat) : Int := bsL.getD i 0
def cy (i : Nat) : Int := cyL.getD i 0
/-- Bits, least and greatest operand of a kind. -/
def bt (k : Int) : Int := if k = 1 then 10 else if k = 2 then 12 else if k = 3 then 12 else if k = 4 then 9 else 0
def lo (k : Int) : Int := if k = 2 then 1024 else 0
def hi (k : Int) : Int := if k = 1 then 1023 else if k = 2 then 4095 else if k = 3 then 4095 else if k = 4 then 511 else 0
/-- Instruction i as a value; no instruction. -/
def opV (i : Nat) : Value := .agg #[.int .u8 ((i + 1 : Nat) : Int), .string (nm i), .bool (decide (19 ≤ i)), .int .u8 (kd i), .int .i64 (bt (kd i)), .int .i64 (cy i)]
def op0 : Value := .agg #[.int .u8 0, .string ⟨#[]⟩, .bool false, .int .u8 0, .int .i64 0, .int .i64 0]
/-- The operand k is reserved for instruction i. -/
def rsv (i : Nat) (k : Int) : Prop := (i = 0 ∧ (k = 3 ∨ k = 4 ∨ k = 6)) ∨ (i = 12 ∧ k = 15)
instance (i : Nat) (k : Int) : Decidable (rsv i k) := by unfold rsv; infer_instance
def encOk (i : Nat) (k : Int) : Prop := lo (kd i) ≤ k ∧ k ≤ hi (kd i) ∧ ¬ rsv i k
instance (i : Nat) (k : Int) : Decidable (encOk i k) := by unfold encOk; infer_instance
/-- What Of and Encode answer. -/
def mOfV (c : Int) : Value := if 1 ≤ c ∧ c ≤ 39 then opV (c - 1).toNat else op0
def mOfE (c : Int) : Int := if 1 ≤ c ∧ c ≤ 39 then 0 else 7
def mEncV (c k : Int) : Int := if 1 ≤ c ∧ c ≤ 39 ∧ encOk (c - 1).toNat k then bs (c - 1).toNat + k else 0
def mEncE (c k : Int) : Int := if 1 ≤ c ∧ c ≤ 39 then (if encOk (c - 1).toNat k then 0 else 3) else 7
theorem kd_bd : ∀ i, i < 39 → 0 ≤ kd i ∧ kd i ≤ 4 := by decide
theorem bs_bd : ∀ i, i < 39 → 0 ≤ bs i ∧ bs i ≤ 28672 := by decide
theorem cy_bd : ∀ i, i < 39 → 1 ≤ cy i ∧ cy i ≤ 6 := by decide
theorem bs_hi : ∀ i, i < 39 → 0 ≤ lo (kd i) ∧ lo (kd i) ≤ hi (kd i) ∧ hi (kd i) ≤ 4095 ∧ bs i + hi (kd i) ≤ 32767 := by decide
theorem nm_TC : ∀ i, i < 39 → (nm i = ⟨#[84, 67]⟩ ↔ i = 0) := by decide
theorem nm_INDEX : ∀ i, i < 39 → (nm i = ⟨#[73, 78, 68, 69, 88]⟩ ↔ i = 12) := by decide
theorem nm_inj : ∀ i, i < 39 → ∀ j, j < 39 → nm i = nm j → i = j := by decide
end Go.Proofs.YtjjkikghfmnikaaGreatDoor

/- Plain facts for layer 2: the number of ones of a number, its parity, and inverting one bit. -/
set_option linter.unusedSimpArgs false
set_option linter.unusedVariables false
namespace Go.Proofs.YtjjkikghfmnikaaGreatDoor
open Go.RowKit
def onesN : Nat → Nat → Nat
  | 0, _ => 0
  | b + 1, n => onesN b n + n / 2 ^ b % 2
theorem onesN_succ (b n : Nat) : onesN (b + 1) n = onesN b n + n / 2 ^ b % 2 := rfl
def odds (b : Nat) (s : Int) : Bool := onesN b s.toNat % 2 == 1
def pPut (s : Int) : Int := if odds 15 s = true then s % 32768 else s % 32768 + 32768
def xorB (s : Int) (k : Nat) : Int := ((s.toNat ^^^ 2 ^ k : Nat) : Int)
def fV (s k : Int) : Int := if k < 0 ∨ 15 < k then 0 else xorB s k.toNat
def fE (k : Int) : Int := if k < 0 ∨ 15 < k then 3 else 0
theorem odds_zero (s : Int) : odds 0 s = false := rfl
theorem odds_succ1 (k : Nat) (s : Int) (h0 : 0 ≤ s) (h : s / 2 ^ k % 2 = 1) : odds (k + 1) s = !odds k s := by
  have e : s.toNat / 2 ^ k % 2 = 1 := by
    obtain ⟨n, rfl⟩ := Int.eq_ofNat_of_zero_le h0
    have : ((n / 2 ^ k % 2 : Nat) : Int) = 1 := by rw [← h]; simp
    simp only [Int.ofNat_eq_natCast, Int.toNat_natCast]; omega
  unfold odds
  rw [onesN_succ, e]
  by_cases c : onesN k s.toNat % 2 = 1
  · have : (onesN k s.toNat + 1) % 2 = 0 := by omega
    simp [c, this]
  · have d : onesN k s.toNat % 2 = 0 := by omega
    have : (onesN k s.toNat + 1) % 2 = 1 := by omega
    simp [d, this]
theorem odds_succ0 (k : Nat) (s : Int) (h0 : 0 ≤ s) (h : ¬ s / 2 ^ k % 2 = 1) : odds (k + 1) s = odds k s := by
  have e : s.toNat / 2 ^ k % 2 = 0 := by
    obtain ⟨n, rfl⟩ := Int.eq_ofNat_of_zero_le h0
    have : ¬ ((n / 2 ^ k % 2 : Nat) : Int) = 1 := by intro c; apply h; rw [← c]; simp
    have : ¬ n / 2 ^ k % 2 = 1 := by intro c; apply this; rw [c]; rfl
    simp only [Int.ofNat_eq_natCast, Int.toNat_natCast]; omega
  unfold odds
  rw [onesN_succ, e]; simp
theorem onesN_le (b n : Nat) : onesN b n ≤ b := by
  induction b with
  | zero => simp [onesN]
  | succ b ih => rw [onesN_succ]; have := Nat.mod_lt (n / 2 ^ b) (show 2 > 0 by decide); omega
theorem onesN_stop (j b n : Nat) (h : n / 2 ^ j = 0) (hb : j ≤ b) : onesN b n = onesN j n := by
  induction b with
  | zero => have : j = 0 := by omega
            subst this; rfl
  | succ b ih =>
    by_cases c : j = b + 1
    · rw [c]
    · have hj : j ≤ b := by omega
      rw [onesN_succ, ih hj]
      have : n / 2 ^ b = 0 := by
        apply Nat.div_eq_of_lt
        have h1 : n < 2 ^ j := by
          by_cases c : n < 2 ^ j
          · exact c
          · exfalso
            have := Nat.div_pos (Nat.le_of_not_lt c) (Nat.two_pow_pos j)
            omega
        exact Nat.lt_of_lt_of_le h1 (Nat.pow_le_pow_right (by decide) hj)
      rw [this]; simp
theorem onesN_mod (b n : Nat) : ∀ c, b ≤ c → onesN b (n % 2 ^ c) = onesN b n := by
  induction b with
  | zero => intro c _; rfl
  | succ b ih =>
    intro c hc
    rw [onesN_succ, onesN_succ, ih c (by omega)]
    congr 1
    obtain ⟨d, rfl⟩ : ∃ d, c = b + (d + 1) := ⟨c - b - 1, by omega⟩
    rw [Nat.pow_add, Nat.mod_mul_right_div_self, Nat.pow_succ, Nat.mod_mul_left_mod]
theorem odds_low (s : Int) (h0 : 0 ≤ s) : odds 15 (s % 32768) = odds 15 s := by
  obtain ⟨n, rfl⟩ := Int.eq_ofNat_of_zero_le h0
  unfold odds
  have : ((n : Int) % 32768).toNat = n % 2 ^ 15 := by simp; omega
  rw [this, onesN_mod 15 n 15 (by omega)]; simp
theorem odds16 (s : Int) (h0 : 0 ≤ s) (h1 : s < 65536) : odds 16 s = if s < 32768 then odds 15 s else !odds 15 s := by
  by_cases c : s < 32768
  · rw [if_pos c]; apply odds_succ0 15 s h0; omega
  · rw [if_neg c]; apply odds_succ1 15 s h0; omega
theorem pPut_bd (s : Int) (h0 : 0 ≤ s) : 0 ≤ pPut s ∧ pPut s < 65536 := by unfold pPut; split <;> omega
theorem pPut_mod (s : Int) (h0 : 0 ≤ s) : pPut s % 32768 = s % 32768 := by unfold pPut; split <;> omega
theorem pPut_odds (s : Int) (h0 : 0 ≤ s) : odds 16 (pPut s) = true := by
  have b := pPut_bd s h0
  rw [odds16 _ b.1 b.2]
  have e : odds 15 (pPut s) = odds 15 s := by rw [← odds_low _ b.1, pPut_mod s h0, odds_low s h0]
  rw [e]
  unfold pPut
  split
  · rename_i c; rw [if_pos (by omega), c]
  · rename_i c; rw [if_neg (by omega)]; simp at c; simp [c]
theorem testBit_ones (b n k : Nat) : onesN b (n ^^^ 2 ^ k) % 2 = (onesN b n + if k < b then 1 else 0) % 2 := by
  induction b with
  | zero => simp [onesN]
  | succ b ih =>
    have e : (n ^^^ 2 ^ k) / 2 ^ b % 2 = if k = b then 1 - n / 2 ^ b % 2 else n / 2 ^ b % 2 := by
      have h1 := Nat.testBit_xor n (2 ^ k) b
      rw [Nat.testBit_two_pow, Nat.testBit_eq_decide_div_mod_eq, Nat.testBit_eq_decide_div_mod_eq] at h1
      have m1 := Nat.mod_lt ((n ^^^ 2 ^ k) / 2 ^ b) (show 2 > 0 by decide)
      have m2 := Nat.mod_lt (n / 2 ^ b) (show 2 > 0 by decide)
      by_cases c : k = b
      · rw [if_pos c]; simp [c] at h1 ⊢
        by_cases d : n / 2 ^ b % 2 = 1
        · simp [d] at h1; rw [d]; omega
        · simp [d] at h1; omega
      · rw [if_neg c]; simp [c] at h1
        by_cases d : n / 2 ^ b % 2 = 1
        · simp [d] at h1; omega
        · simp [d] at h1; omega
    rw [onesN_succ, onesN_succ, Nat.add_mod, ih, e]
    have m2 := Nat.mod_lt (n / 2 ^ b) (show 2 > 0 by decide)
    by_cases c : k = b
    · rw [if_pos c, if_neg (by omega), if_pos (by omega)]; omega
    · rw [if_neg c]
      by_cases d : k < b
      · rw [if_pos d, if_pos (by omega)]; omega
      · rw [if_neg d, if_neg (by omega)]; omega
theorem xorB_bd (s : Int) (h0 : 0 ≤ s) (h1 : s < 65536) (k : Nat) (hk : k ≤ 15) : 0 ≤ xorB s k ∧ xorB s k < 65536 := by
  unfold xorB
  refine ⟨by omega, ?_⟩
  have h2 : s.toNat < 2 ^ 16 := by omega
  have h3 : 2 ^ k < 2 ^ 16 := Nat.pow_lt_pow_right (by decide) (by omega)
  have := Nat.xor_lt_two_pow h2 h3
  omega
theorem xorB_odds (s : Int) (k : Nat) (hk : k ≤ 15) : odds 16 (xorB s k) = !odds 16 s := by
  unfold odds xorB
  rw [Int.toNat_natCast, testBit_ones, if_pos (by omega)]
  by_cases c : onesN 16 s.toNat % 2 = 1
  · have : (onesN 16 s.toNat + 1) % 2 = 0 := by omega
    simp [c, this]
  · have d : onesN 16 s.toNat % 2 = 0 := by omega
    have : (onesN 16 s.toNat + 1) % 2 = 1 := by omega
    simp [d, this]
theorem xorB_back (s : Int) (h0 : 0 ≤ s) (k : Nat) : xorB (xorB s k) k = s := by
  unfold xorB
  rw [Int.toNat_natCast, Nat.xor_assoc, Nat.xor_self, Nat.xor_zero]; omega
theorem xorB_ne (s : Int) (h0 : 0 ≤ s) (k : Nat) (hk : k ≤ 15) : xorB s k ≠ s := by
  intro h
  have := xorB_odds s k hk
  rw [h] at this
  cases h : odds 16 s <;> simp [h] at this
theorem xor_mod2 (a b : Nat) : (a ^^^ b) % 2 = (a + b) % 2 := by
  have h := Nat.testBit_xor a b 0
  rw [Nat.testBit_zero, Nat.testBit_zero, Nat.testBit_zero] at h
  have m := Nat.mod_two_eq_zero_or_one (a ^^^ b)
  by_cases c : a % 2 = 1
  · by_cases d : b % 2 = 1
    · rw [decide_eq_true c, decide_eq_true d] at h
      have : ¬ (a ^^^ b) % 2 = 1 := of_decide_eq_false h
      omega
    · rw [decide_eq_true c, decide_eq_false d] at h
      have : (a ^^^ b) % 2 = 1 := of_decide_eq_true h
      omega
  · by_cases d : b % 2 = 1
    · rw [decide_eq_false c, decide_eq_true d] at h
      have : (a ^^^ b) % 2 = 1 := of_decide_eq_true h
      omega
    · rw [decide_eq_false c, decide_eq_false d] at h
      have : ¬ (a ^^^ b) % 2 = 1 := of_decide_eq_false h
      omega
theorem xorN (k : Nat) : ∀ n : Nat, n ^^^ 2 ^ k = if n / 2 ^ k % 2 = 1 then n - 2 ^ k else n + 2 ^ k := by
  induction k with
  | zero =>
    intro n
    have h1 := Nat.xor_div_two (a := n) (b := 1)
    have h2 : (n ^^^ 1) % 2 = (n + 1) % 2 := by
      exact xor_mod2 n 1
    simp at h1
    simp
    split <;> omega
  | succ k ih =>
    intro n
    have h1 := Nat.xor_div_two (a := n) (b := 2 ^ (k + 1))
    have h2 := xor_mod2 n (2 ^ (k + 1))
    have e1 : 2 ^ (k + 1) / 2 = 2 ^ k := by rw [Nat.pow_succ]; omega
    have e2 : 2 ^ (k + 1) = 2 * 2 ^ k := by rw [Nat.pow_succ]; omega
    rw [e1, ih (n / 2), Nat.div_div_eq_div_mul, ← e2] at h1
    have p := Nat.two_pow_pos k
    have g : n / 2 ^ (k + 1) % 2 = 1 → 2 ^ (k + 1) ≤ n := by
      intro h
      by_cases c : 2 ^ (k + 1) ≤ n
      · exact c
      · rw [Nat.div_eq_of_lt (by omega)] at h; simp at h
    split at h1
    · rename_i c; rw [if_pos c]; have := g c; omega
    · rename_i c; rw [if_neg c]; omega
theorem xorB_eq (s : Int) (h0 : 0 ≤ s) (k : Nat) : xorB s k = if s / 2 ^ k % 2 = 1 then s - 2 ^ k else s + 2 ^ k := by
  obtain ⟨n, rfl⟩ := Int.eq_ofNat_of_zero_le h0
  unfold xorB
  have e : ((n : Int) / 2 ^ k % 2 = 1) ↔ (n / 2 ^ k % 2 = 1) := by
    have : (n : Int) / 2 ^ k % 2 = ((n / 2 ^ k % 2 : Nat) : Int) := by simp
    rw [this]; omega
  have p : ((2 ^ k : Nat) : Int) = 2 ^ k := by simp
  simp only [Int.ofNat_eq_natCast, Int.toNat_natCast, xorN, e]
  split
  · rename_i c
    have g : 2 ^ k ≤ n := by
      by_cases d : 2 ^ k ≤ n
      · exact d
      · rw [Nat.div_eq_of_lt (by omega)] at c; simp at c
    omega
  · omega
theorem flip_facts (x q : Int) (h0 : 0 ≤ x) (h1 : x < 65536) (q0 : 0 ≤ q) (q1 : q < 16) : ∃ y, fV x q = y ∧ fE q = 0 ∧ fV y q = x ∧ y ≠ x ∧ 0 ≤ y ∧ y < 65536 ∧ odds 16 y = !odds 16 x := by
  have e : ∀ z, fV z q = xorB z q.toNat := fun z => by unfold fV; rw [if_neg (by omega)]
  have k : q.toNat ≤ 15 := by omega
  refine ⟨_, e x, by unfold fE; rw [if_neg (by omega)], by rw [e]; exact xorB_back x h0 _, xorB_ne x h0 _ k, (xorB_bd x h0 h1 _ k).1, (xorB_bd x h0 h1 _ k).2, xorB_odds x _ k⟩
theorem kpar : pPut 0 = 32768 ∧ pPut 1 = 1 ∧ pPut 3 = 32771 ∧ pPut 32767 = 32767 ∧ pPut 65535 = 32767 ∧ fV 1 15 = 32769 ∧ fE 15 = 0 ∧ fV 1 16 = 0 ∧ fE 16 = 3 ∧ fV 1 0 = 0 ∧ fE 0 = 0 ∧ fV 1 (-1) = 0 ∧ fE (-1) = 3 := by decide
theorem kodd : odds 15 0 = false ∧ odds 15 7 = true ∧ odds 15 32769 = true ∧ odds 15 32771 = false ∧ odds 16 32768 = true ∧ odds 16 32769 = false ∧ odds 16 0 = false ∧ odds 16 65535 = false ∧ odds 16 1 = true ∧ odds 16 3 = false := by decide
-- the count of right words among those with the parity bit set
def cntP : Nat → Nat
  | 0 => 0
  | n + 1 => cntP n + if odds 15 n = true then 0 else 1
theorem odds_pair (n : Nat) : odds 15 ((2 * n + 1 : Nat) : Int) = !odds 15 ((2 * n : Nat) : Int) := by
  unfold odds
  simp only [Int.toNat_natCast]
  have e : 2 * n + 1 = (2 * n) ^^^ 2 ^ 0 := by rw [xorN]; simp
  rw [e, testBit_ones, if_pos (by omega)]
  by_cases c : onesN 15 (2 * n) % 2 = 1
  · have : (onesN 15 (2 * n) + 1) % 2 = 0 := by omega
    simp [c, this]
  · have d : onesN 15 (2 * n) % 2 = 0 := by omega
    have : (onesN 15 (2 * n) + 1) % 2 = 1 := by omega
    simp [d, this]
theorem cntP_two (n : Nat) : cntP (2 * n) = n := by
  induction n with
  | zero => rfl
  | succ n ih =>
    have e : 2 * (n + 1) = 2 * n + 1 + 1 := by omega
    rw [e]
    unfold cntP
    unfold cntP
    rw [ih, odds_pair]
    cases odds 15 ((2 * n : Nat) : Int) <;> simp
theorem cntP_le (n : Nat) : cntP n ≤ n := by
  induction n with
  | zero => simp [cntP]
  | succ n ih => unfold cntP; split <;> omega
end Go.Proofs.YtjjkikghfmnikaaGreatDoor
