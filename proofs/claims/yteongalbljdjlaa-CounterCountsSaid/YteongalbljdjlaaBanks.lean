/- Slices of banks that are read; what Fixed makes of them. -/
import Derived.Test.YteongalbljdjlaaApp
import Derived.Test.YteongalbljdjlaaP02
set_option linter.unusedSimpArgs false
set_option linter.unusedVariables false
namespace Go.Proofs.Yteongalbljdjlaa
open Go.ChangeShapes Go.WideShapes Go.ChangeAt Go.RowKit
/-- What is known of a list of banks: each one's number, and its words. -/
structure BankF where
  num : Nat → Int
  wa : Nat → Option Addr
  wn : Nat → Nat
  wc : Nat → Nat
  wf : Nat → Nat → Int
/-- The slice at A has in its first n places such banks. -/
def Banks (w : World) (A : Option Addr) (n : Nat) (b : BankF) : Prop := ∀ i, i < n → ∃ a, A = some a ∧ w.cell? (a.add (i * 2)) = some (.int .i64 (b.num i)) ∧ w.cell? ⟨(a.add (i * 2)).block, (a.add (i * 2)).off + 1, none⟩ = some (.slice (b.wa i) (b.wn i) (b.wc i)) ∧ Row .u16 w (b.wa i) (b.wn i) (b.wf i)
/-- The numbers fit their kinds. -/
structure BankF.Fits (b : BankF) : Prop where
  num : ∀ i, -9223372036854775808 ≤ b.num i ∧ b.num i ≤ 9223372036854775807
  wf : ∀ i k, 0 ≤ b.wf i k ∧ b.wf i k < 65536
  wn : ∀ i, b.wn i ≤ 9223372036854775807
theorem Banks.below {w w' : World} {A : Option Addr} {n : Nat} {b : BankF} {B : Nat} (hc : Banks w A n b) (hb : Below B w w') (hB : w.heap.size ≤ B) : Banks w' A n b := by
  intro i hi
  obtain ⟨a, e, h1, h2, h3⟩ := hc i hi
  exact ⟨a, e, (hb.cell (Nat.lt_of_lt_of_le (lt_of_cell h1) hB)).trans h1, (hb.cell (Nat.lt_of_lt_of_le (lt_of_cell h2) hB)).trans h2, h3.below hb hB⟩
theorem Banks.take {w : World} {A : Option Addr} {n m : Nat} {b : BankF} (hc : Banks w A n b) (hm : m ≤ n) : Banks w A m b := fun i hi => hc i (by omega)
theorem Banks.drewN {w : World} {A : Option Addr} {n : Nat} {b : BankF} (hc : Banks w A n b) (m : Nat) : Banks (w.drewN m) A n b := hc
theorem Banks.nil {w : World} {A : Option Addr} {b : BankF} : Banks w A 0 b := fun i hi => by omega
theorem Banks.at_ {w : World} {a : Addr} {n : Nat} {b : BankF} (hc : Banks w (some a) n b) {i : Nat} (hi : i < n) : w.cell? (a.add (i * 2)) = some (.int .i64 (b.num i)) ∧ w.cell? ⟨(a.add (i * 2)).block, (a.add (i * 2)).off + 1, none⟩ = some (.slice (b.wa i) (b.wn i) (b.wc i)) ∧ Row .u16 w (b.wa i) (b.wn i) (b.wf i) := by
  obtain ⟨x, e, h1⟩ := hc i hi
  cases e; exact h1
theorem banksCase {w : World} {A : Option Addr} {n : Nat} {b : BankF} (hc : Banks w A n b) : Hid (Banks w A n b) ∧ (Hid (n = 0) ∨ ∃ a, A = some a) := by
  refine ⟨hc, ?_⟩
  by_cases c : n = 0
  · exact .inl c
  · obtain ⟨a, e, _⟩ := hc 0 (by omega); exact .inr ⟨a, e⟩
theorem banks_lit1 {W : World} {g : Nat} {b : BankF} (c0 : W.cell? ⟨g, 0, none⟩ = some (.int .i64 (b.num 0))) (c1 : W.cell? ⟨g, 1, none⟩ = some (.slice (b.wa 0) (b.wn 0) (b.wc 0))) (r : Row .u16 W (b.wa 0) (b.wn 0) (b.wf 0)) : Banks W (some ⟨g, 0, none⟩) 1 b := by
  intro i hi
  have e : i = 0 := by omega
  subst e
  exact ⟨_, rfl, c0, c1, r⟩
theorem banks_lit2 {W : World} {g : Nat} {b : BankF} (c0 : W.cell? ⟨g, 0, none⟩ = some (.int .i64 (b.num 0))) (c1 : W.cell? ⟨g, 1, none⟩ = some (.slice (b.wa 0) (b.wn 0) (b.wc 0))) (r : Row .u16 W (b.wa 0) (b.wn 0) (b.wf 0)) (c2 : W.cell? ⟨g, 2, none⟩ = some (.int .i64 (b.num 1))) (c3 : W.cell? ⟨g, 3, none⟩ = some (.slice (b.wa 1) (b.wn 1) (b.wc 1))) (r1 : Row .u16 W (b.wa 1) (b.wn 1) (b.wf 1)) : Banks W (some ⟨g, 0, none⟩) 2 b := by
  intro i hi
  have h : i = 0 ∨ i = 1 := by omega
  rcases h with rfl | rfl
  · exact ⟨_, rfl, c0, c1, r⟩
  · exact ⟨_, rfl, c2, c3, r1⟩
open Classical in
/-- The error of bank i. -/
noncomputable def chk (b : BankF) (i : Nat) : Int :=
  if ¬ (0 ≤ b.num i ∧ b.num i ≤ 35) then 3 else if ∃ k, k < i ∧ b.num k = b.num i then 8 else if 1024 < b.wn i then 4 else if ∃ k, k < b.wn i ∧ 32767 < b.wf i k then 3 else 0
theorem chk_range {b : BankF} {i : Nat} (h : ¬ (0 ≤ b.num i ∧ b.num i ≤ 35)) : chk b i = 3 := by unfold chk; rw [if_pos h]
theorem chk_dup {b : BankF} {i : Nat} (h : 0 ≤ b.num i ∧ b.num i ≤ 35) (k : Nat) (hk : k < i) (hd : b.num k = b.num i) : chk b i = 8 := by
  unfold chk; rw [if_neg (by simp; exact h), if_pos ⟨k, hk, hd⟩]
theorem chk_long {b : BankF} {i : Nat} (h : 0 ≤ b.num i ∧ b.num i ≤ 35) (hd : ∀ k, k < i → b.num k ≠ b.num i) (hl : 1024 < b.wn i) : chk b i = 4 := by
  unfold chk; rw [if_neg (by simp; exact h), if_neg (fun ⟨k, h1, h2⟩ => hd k h1 h2), if_pos hl]
theorem chk_word {b : BankF} {i : Nat} (h : 0 ≤ b.num i ∧ b.num i ≤ 35) (hd : ∀ k, k < i → b.num k ≠ b.num i) (hl : ¬ 1024 < b.wn i) (k : Nat) (hk : k < b.wn i) (hw : 32767 < b.wf i k) : chk b i = 3 := by
  unfold chk; rw [if_neg (by simp; exact h), if_neg (fun ⟨k, h1, h2⟩ => hd k h1 h2), if_neg hl, if_pos ⟨k, hk, hw⟩]
theorem chk_ok {b : BankF} {i : Nat} (h : 0 ≤ b.num i ∧ b.num i ≤ 35) (hd : ∀ k, k < i → b.num k ≠ b.num i) (hl : ¬ 1024 < b.wn i) (hw : ∀ k, k < b.wn i → b.wf i k ≤ 32767) : chk b i = 0 := by
  unfold chk; rw [if_neg (by simp; exact h), if_neg (fun ⟨k, h1, h2⟩ => hd k h1 h2), if_neg hl, if_neg (fun ⟨k, h1, h2⟩ => by have := hw k h1; omega)]
theorem chk_zero {b : BankF} {i : Nat} (h : chk b i = 0) : 0 ≤ b.num i ∧ b.num i ≤ 35 ∧ (∀ k, k < i → b.num k ≠ b.num i) ∧ b.wn i ≤ 1024 ∧ ∀ k, k < b.wn i → b.wf i k ≤ 32767 := by
  unfold chk at h
  by_cases c1 : 0 ≤ b.num i ∧ b.num i ≤ 35
  · rw [if_neg (by simp; exact c1)] at h
    by_cases c2 : ∃ k, k < i ∧ b.num k = b.num i
    · rw [if_pos c2] at h; omega
    · rw [if_neg c2] at h
      by_cases c3 : 1024 < b.wn i
      · rw [if_pos c3] at h; omega
      · rw [if_neg c3] at h
        by_cases c4 : ∃ k, k < b.wn i ∧ 32767 < b.wf i k
        · rw [if_pos c4] at h; omega
        · exact ⟨c1.1, c1.2, fun k hk e => c2 ⟨k, hk, e⟩, by omega, fun k hk => by
            by_cases c5 : b.wf i k ≤ 32767
            · exact c5
            · exact absurd ⟨k, hk, by omega⟩ c4⟩
  · rw [if_pos c1] at h; omega
theorem chk_bd (b : BankF) (i : Nat) : 0 ≤ chk b i ∧ chk b i ≤ 8 := by
  unfold chk
  split
  · omega
  · split
    · omega
    · split
      · omega
      · split <;> omega
/-- All banks before i are right. -/
def banksOk (b : BankF) (n : Nat) : Prop := ∀ i, i < n → chk b i = 0
theorem banksOk_dec (b : BankF) (n : Nat) : banksOk b n ∨ ∃ i, i < n ∧ chk b i ≠ 0 ∧ banksOk b i := by
  induction n with
  | zero => exact .inl (fun i hi => by omega)
  | succ n ih =>
    rcases ih with h | ⟨i, hi, hb, hk⟩
    · by_cases c : chk b n = 0
      · exact .inl (fun i hi => by
          by_cases e : i = n
          · subst e; exact c
          · exact h i (by omega))
      · exact .inr ⟨n, by omega, c, h⟩
    · exact .inr ⟨i, by omega, hb, hk⟩
/-- Fixed memory after the first i banks, and the first k words of bank i. -/
def fixW (b : BankF) (i k : Nat) (f : Nat → Int) : Nat → Int := fun p => if 1024 * (b.num i).toNat ≤ p ∧ p < 1024 * (b.num i).toNat + k then pPut (b.wf i (p - 1024 * (b.num i).toNat)) else f p
def fixF (b : BankF) : Nat → Nat → Int
  | 0 => fun _ => 32768
  | i + 1 => fixW b i (b.wn i) (fixF b i)
theorem fixW_zero (b : BankF) (i : Nat) (f : Nat → Int) : fixW b i 0 f = f := by
  funext p; unfold fixW; rw [if_neg (by omega)]
theorem fixW_succ (b : BankF) (i k : Nat) (f : Nat → Int) : (fun p => if p = 1024 * (b.num i).toNat + k then pPut (b.wf i k) else fixW b i k f p) = fixW b i (k + 1) f := by
  funext p
  unfold fixW
  by_cases c : p = 1024 * (b.num i).toNat + k
  · rw [if_pos c, if_pos (by omega)]
    have : p - 1024 * (b.num i).toNat = k := by omega
    rw [this]
  · rw [if_neg c]
    by_cases d : 1024 * (b.num i).toNat ≤ p ∧ p < 1024 * (b.num i).toNat + k
    · rw [if_pos d, if_pos (by omega)]
    · rw [if_neg d, if_neg (by omega)]
theorem fixF_succ (b : BankF) (i : Nat) : fixF b (i + 1) = fixW b i (b.wn i) (fixF b i) := rfl
open Classical in
noncomputable def mFixE (b : BankF) (n : Nat) : Int := if h : ∃ i, i < n ∧ chk b i ≠ 0 ∧ banksOk b i then chk b (Classical.choose h) else 0
open Classical in
noncomputable def mFixL (b : BankF) (n : Nat) : List Int := if banksOk b n then lst 36864 (fixF b n) else []
theorem mFix_ok {b : BankF} {n : Nat} (h : banksOk b n) : mFixL b n = lst 36864 (fixF b n) ∧ mFixE b n = 0 := by
  unfold mFixL mFixE
  rw [if_pos h, dif_neg (fun ⟨i, h1, h2, _⟩ => h2 (h i h1))]; exact ⟨rfl, rfl⟩
theorem mFix_bad {b : BankF} {n i : Nat} (hi : i < n) (hc : chk b i ≠ 0) (hk : banksOk b i) : mFixL b n = [] ∧ mFixE b n = chk b i := by
  have hx : ∃ i, i < n ∧ chk b i ≠ 0 ∧ banksOk b i := ⟨i, hi, hc, hk⟩
  refine ⟨by unfold mFixL; rw [if_neg (fun h => hc (h i hi))], ?_⟩
  unfold mFixE
  rw [dif_pos hx]
  have s := Classical.choose_spec hx
  have e : Classical.choose hx = i := by
    generalize Classical.choose hx = j at s
    by_cases c1 : j < i
    · exact absurd (hk j c1) s.2.1
    · by_cases c2 : i < j
      · exact absurd (s.2.2 i c2) hc
      · omega
  rw [e]
end Go.Proofs.Yteongalbljdjlaa
