/- Layer 4: how many words each instruction has. -/
import Derived.Test.YtjkdojdkmgaofaaDoorP04c
set_option linter.unusedSimpArgs false
set_option linter.unusedVariables false
namespace Go.Proofs.YtjkdojdkmgaofaaDoor
open Go.RowKit
/-- How often each code occurs among the first z words, in both tables. -/
def cntF : Nat → Nat → Int
  | 0 => fun _ => 0
  | z + 1 => fun p => cntF z p + (if p = decI z false + 1 then 1 else 0) + (if p = decI z true + 1 then 1 else 0)
theorem cntF_succ (z p : Nat) : cntF (z + 1) p = cntF z p + (if p = decI z false + 1 then 1 else 0) + (if p = decI z true + 1 then 1 else 0) := rfl
theorem cntF_bd (z p : Nat) : 0 ≤ cntF z p ∧ cntF z p ≤ 2 * z := by
  induction z with
  | zero => exact ⟨Int.le_refl _, by show (0 : Int) ≤ _; omega⟩
  | succ z ih => rw [cntF_succ]; split <;> split <;> omega
theorem cntF_two (z i j : Nat) (hi : decI z false = i) (hj : decI z true = j) (hij : i ≠ j) :
    (fun p => if p = j + 1 then cntF z (j + 1) + 1 else if p = i + 1 then cntF z (i + 1) + 1 else cntF z p) = cntF (z + 1) := by
  funext p
  rw [cntF_succ, hi, hj]
  by_cases c1 : p = j + 1
  · subst c1
    rw [if_pos rfl, if_neg (by omega), if_pos rfl]; omega
  · rw [if_neg c1, if_neg c1]
    by_cases c2 : p = i + 1
    · subst c2; rw [if_pos rfl, if_pos rfl]; omega
    · rw [if_neg c2, if_neg c2]; omega
theorem step_one (i z : Nat) (h39 : i < 39) (hz : z ≤ 32767) : cntF (z + 1) (i + 1) = cntF z (i + 1) + (if encOk i (z - bs i) then 1 else 0) := by
  rw [cntF_succ]
  have l := decI_low z
  have h := decI_high z
  have s := fun e => dec_ok (z : Int) (by omega) (by omega) e
  by_cases c : encOk i (z - bs i)
  · rw [if_pos c]
    have d := dec_one h39 rfl c
    by_cases e : 19 ≤ i
    · rw [decide_eq_true e] at d
      rw [if_neg (by omega), if_pos (by omega)]; omega
    · rw [decide_eq_false e] at d
      rw [if_pos (by omega), if_neg (by omega)]; omega
  · rw [if_neg c]
    have n1 : ¬ i + 1 = decI z false + 1 := fun e => c (by have := s false; rw [show decI z false = i by omega] at this; exact this)
    have n2 : ¬ i + 1 = decI z true + 1 := fun e => c (by have := s true; rw [show decI z true = i by omega] at this; exact this)
    rw [if_neg n1, if_neg n2]; omega
/-- The same, without counting. -/
def clF (i : Nat) (z : Int) : Int :=
  (if z ≤ bs i + lo (kd i) then 0 else if z ≤ bs i + hi (kd i) then z - (bs i + lo (kd i)) else hi (kd i) - lo (kd i) + 1)
  - (if i = 0 then (if 3 < z then 1 else 0) + (if 4 < z then 1 else 0) + (if 6 < z then 1 else 0) else 0) - (if i = 12 then (if 20495 < z then 1 else 0) else 0)
theorem clF_step (i : Nat) (h39 : i < 39) (z : Nat) (hz : z ≤ 32767) : clF i ((z : Int) + 1) = clF i z + (if encOk i (z - bs i) then 1 else 0) := by
  have b := bs_hi i h39
  have b2 := bs_bd i h39
  by_cases c0 : i = 0
  · subst c0
    have e : encOk 0 (z - bs 0) ↔ (z : Int) ≤ 4095 ∧ ¬ ((z : Int) = 3 ∨ (z : Int) = 4 ∨ (z : Int) = 6) := by
      show (0 ≤ (z : Int) - 0 ∧ (z : Int) - 0 ≤ 4095 ∧ ¬ rsv 0 ((z : Int) - 0)) ↔ _
      unfold rsv; omega
    have L : bs 0 + lo (kd 0) = 0 := rfl
    have H : bs 0 + hi (kd 0) = 4095 := rfl
    have W : hi (kd 0) - lo (kd 0) + 1 = 4096 := rfl
    unfold clF
    rw [L, H, W, if_pos (rfl : (0 : Nat) = 0), if_pos (rfl : (0 : Nat) = 0), if_neg (show ¬ (0 : Nat) = 12 by decide)]
    by_cases c : encOk 0 (z - bs 0)
    · rw [if_pos c]; have := e.1 c; repeat (first | omega | split)
    · rw [if_neg c]; have : ¬ ((z : Int) ≤ 4095 ∧ ¬ ((z : Int) = 3 ∨ (z : Int) = 4 ∨ (z : Int) = 6)) := fun q => c (e.2 q); repeat (first | omega | split)
  by_cases c1 : i = 12
  · subst c1
    have e : encOk 12 (z - bs 12) ↔ 20480 ≤ (z : Int) ∧ (z : Int) ≤ 21503 ∧ ¬ (z : Int) = 20495 := by
      show (0 ≤ (z : Int) - 20480 ∧ (z : Int) - 20480 ≤ 1023 ∧ ¬ rsv 12 ((z : Int) - 20480)) ↔ _
      unfold rsv; omega
    have L : bs 12 + lo (kd 12) = 20480 := rfl
    have H : bs 12 + hi (kd 12) = 21503 := rfl
    have W : hi (kd 12) - lo (kd 12) + 1 = 1024 := rfl
    unfold clF
    rw [L, H, W, if_neg (show ¬ (12 : Nat) = 0 by decide), if_pos (rfl : (12 : Nat) = 12), if_pos (rfl : (12 : Nat) = 12)]
    by_cases c : encOk 12 (z - bs 12)
    · rw [if_pos c]; have := e.1 c; repeat (first | omega | split)
    · rw [if_neg c]; have : ¬ (20480 ≤ (z : Int) ∧ (z : Int) ≤ 21503 ∧ ¬ (z : Int) = 20495) := fun q => c (e.2 q); repeat (first | omega | split)
  · have e : encOk i (z - bs i) ↔ bs i + lo (kd i) ≤ (z : Int) ∧ (z : Int) ≤ bs i + hi (kd i) := by
      unfold encOk rsv
      omega
    unfold clF
    rw [if_neg c0, if_neg c1, if_neg c0, if_neg c1]
    by_cases c : encOk i (z - bs i)
    · rw [if_pos c]; have := e.1 c; repeat (first | omega | split)
    · rw [if_neg c]; have : ¬ (bs i + lo (kd i) ≤ (z : Int) ∧ (z : Int) ≤ bs i + hi (kd i)) := fun q => c (e.2 q); repeat (first | omega | split)
theorem cnt_cl (i : Nat) (h39 : i < 39) (z : Nat) (hz : z ≤ 32768) : cntF z (i + 1) = clF i z := by
  induction z with
  | zero =>
    have b := bs_hi i h39
    have b2 := bs_bd i h39
    show (0 : Int) = _
    unfold clF
    rw [if_pos (by omega)]
    repeat (first | omega | split)
  | succ z ih => rw [step_one i z h39 (by omega), ih (by omega), show ((z + 1 : Nat) : Int) = (z : Int) + 1 by omega, clF_step i h39 z (by omega)]
/-- How many words instruction i has. -/
theorem cnt_all (i : Nat) (h39 : i < 39) : cntF 32768 (i + 1) = hi (kd i) - lo (kd i) + 1 - (if i = 0 then 3 else 0) - (if i = 12 then 1 else 0) := by
  have b := bs_hi i h39
  have b2 := bs_bd i h39
  rw [cnt_cl i h39 32768 (by omega)]
  unfold clF
  repeat (first | omega | split)
end Go.Proofs.YtjkdojdkmgaofaaDoor
