/- Layer 4: which instruction a word is. -/
import Derived.Test.YtjkdojdkmgaofaaDoorP04
set_option linter.unusedSimpArgs false
set_option linter.unusedVariables false
namespace Go.Proofs.YtjkdojdkmgaofaaDoor
open Go.RowKit
/-- The instruction of the word w. -/
def decI (w : Int) (e : Bool) : Nat :=
  if e = false then
    if w = 3 then 3 else if w = 4 then 2 else if w = 6 then 1 else if w < 4096 then 0 else if w < 5120 then 4 else if w < 8192 then 5 else if w < 9216 then 6 else if w < 10240 then 7 else if w < 11264 then 8 else if w < 12288 then 9 else if w < 16384 then 10 else if w < 20480 then 11 else if w = 20495 then 13 else if w < 21504 then 12 else if w < 22528 then 14 else if w < 23552 then 15 else if w < 24576 then 16 else if w < 28672 then 17 else 18
  else
    if w < 512 then 19 else if w < 1024 then 20 else if w < 1536 then 21 else if w < 2048 then 22 else if w < 2560 then 23 else if w < 3072 then 24 else if w < 3584 then 25 else if w < 4096 then 26 else if w < 5120 then 27 else if w < 8192 then 28 else if w < 9216 then 29 else if w < 10240 then 30 else if w < 11264 then 31 else if w < 12288 then 32 else if w < 16384 then 33 else if w < 20480 then 34 else if w < 24576 then 35 else if w < 25600 then 36 else if w < 28672 then 37 else 38
theorem ite_both {c : Prop} [Decidable c] {α : Type} {P : α → Prop} {a b : α} (h1 : c → P a) (h2 : ¬ c → P b) : P (if c then a else b) := by
  by_cases h : c
  · rw [if_pos h]; exact h1 h
  · rw [if_neg h]; exact h2 h
theorem decI_low (w : Int) : decI w false < 19 := by
  unfold decI; rw [if_pos rfl]
  repeat (first | (show _ < _; decide) | refine ite_both (P := fun x => x < 19) (fun _ => ?_) (fun _ => ?_))
theorem decI_high (w : Int) : 19 ≤ decI w true ∧ decI w true < 39 := by
  unfold decI; rw [if_neg (by decide)]
  repeat (first | (show _ ∧ _; decide) | refine ite_both (P := fun x => 19 ≤ x ∧ x < 39) (fun _ => ?_) (fun _ => ?_))
theorem decI_lt (w : Int) (e : Bool) : decI w e < 39 := by
  cases e
  · have := decI_low w; omega
  · exact (decI_high w).2
theorem decI_ext (w : Int) (e : Bool) : decide (19 ≤ decI w e) = e := by
  cases e
  · have h := decI_low w
    simp; omega
  · have h := decI_high w
    simp; omega
theorem encOk_mk {i : Nat} {k : Int} (b l h : Int) (hl : lo (kd i) = l) (hh : hi (kd i) = h) (h1 : l ≤ k) (h2 : k ≤ h) (hr : ¬ rsv i k) : encOk i k := by
  unfold encOk; rw [hl, hh]; exact ⟨h1, h2, hr⟩
/-- The words of each instruction. -/
def Span (i : Nat) (w : Int) : Prop := match i with
  | 0 => 0 ≤ w ∧ w ≤ 4095 ∧ w ≠ 3 ∧ w ≠ 4 ∧ w ≠ 6
  | 1 => 6 ≤ w ∧ w ≤ 6
  | 2 => 4 ≤ w ∧ w ≤ 4
  | 3 => 3 ≤ w ∧ w ≤ 3
  | 4 => 4096 ≤ w ∧ w ≤ 5119
  | 5 => 5120 ≤ w ∧ w ≤ 8191
  | 6 => 8192 ≤ w ∧ w ≤ 9215
  | 7 => 9216 ≤ w ∧ w ≤ 10239
  | 8 => 10240 ≤ w ∧ w ≤ 11263
  | 9 => 11264 ≤ w ∧ w ≤ 12287
  | 10 => 12288 ≤ w ∧ w ≤ 16383
  | 11 => 16384 ≤ w ∧ w ≤ 20479
  | 12 => 20480 ≤ w ∧ w ≤ 21503 ∧ w ≠ 20495
  | 13 => 20495 ≤ w ∧ w ≤ 20495
  | 14 => 21504 ≤ w ∧ w ≤ 22527
  | 15 => 22528 ≤ w ∧ w ≤ 23551
  | 16 => 23552 ≤ w ∧ w ≤ 24575
  | 17 => 24576 ≤ w ∧ w ≤ 28671
  | 18 => 28672 ≤ w ∧ w ≤ 32767
  | 19 => 0 ≤ w ∧ w ≤ 511
  | 20 => 512 ≤ w ∧ w ≤ 1023
  | 21 => 1024 ≤ w ∧ w ≤ 1535
  | 22 => 1536 ≤ w ∧ w ≤ 2047
  | 23 => 2048 ≤ w ∧ w ≤ 2559
  | 24 => 2560 ≤ w ∧ w ≤ 3071
  | 25 => 3072 ≤ w ∧ w ≤ 3583
  | 26 => 3584 ≤ w ∧ w ≤ 4095
  | 27 => 4096 ≤ w ∧ w ≤ 5119
  | 28 => 5120 ≤ w ∧ w ≤ 8191
  | 29 => 8192 ≤ w ∧ w ≤ 9215
  | 30 => 9216 ≤ w ∧ w ≤ 10239
  | 31 => 10240 ≤ w ∧ w ≤ 11263
  | 32 => 11264 ≤ w ∧ w ≤ 12287
  | 33 => 12288 ≤ w ∧ w ≤ 16383
  | 34 => 16384 ≤ w ∧ w ≤ 20479
  | 35 => 20480 ≤ w ∧ w ≤ 24575
  | 36 => 24576 ≤ w ∧ w ≤ 25599
  | 37 => 25600 ≤ w ∧ w ≤ 28671
  | 38 => 28672 ≤ w ∧ w ≤ 32767
  | _ => False
theorem span_iff (i : Nat) (hi39 : i < 39) (w : Int) : encOk i (w - bs i) ↔ Span i w := by
  have h : i = 0 ∨ i = 1 ∨ i = 2 ∨ i = 3 ∨ i = 4 ∨ i = 5 ∨ i = 6 ∨ i = 7 ∨ i = 8 ∨ i = 9 ∨ i = 10 ∨ i = 11 ∨ i = 12 ∨ i = 13 ∨ i = 14 ∨ i = 15 ∨ i = 16 ∨ i = 17 ∨ i = 18 ∨ i = 19 ∨ i = 20 ∨ i = 21 ∨ i = 22 ∨ i = 23 ∨ i = 24 ∨ i = 25 ∨ i = 26 ∨ i = 27 ∨ i = 28 ∨ i = 29 ∨ i = 30 ∨ i = 31 ∨ i = 32 ∨ i = 33 ∨ i = 34 ∨ i = 35 ∨ i = 36 ∨ i = 37 ∨ i = 38 := by omega
  rcases h with rfl | rfl | rfl | rfl | rfl | rfl | rfl | rfl | rfl | rfl | rfl | rfl | rfl | rfl | rfl | rfl | rfl | rfl | rfl | rfl | rfl | rfl | rfl | rfl | rfl | rfl | rfl | rfl | rfl | rfl | rfl | rfl | rfl | rfl | rfl | rfl | rfl | rfl | rfl
  · show (0 ≤ w - 0 ∧ w - 0 ≤ 4095 ∧ ¬ rsv 0 (w - 0)) ↔ (0 ≤ w ∧ w ≤ 4095 ∧ w ≠ 3 ∧ w ≠ 4 ∧ w ≠ 6)
    unfold rsv; omega
  · show (0 ≤ w - 6 ∧ w - 6 ≤ 0 ∧ ¬ rsv 1 (w - 6)) ↔ (6 ≤ w ∧ w ≤ 6)
    unfold rsv; omega
  · show (0 ≤ w - 4 ∧ w - 4 ≤ 0 ∧ ¬ rsv 2 (w - 4)) ↔ (4 ≤ w ∧ w ≤ 4)
    unfold rsv; omega
  · show (0 ≤ w - 3 ∧ w - 3 ≤ 0 ∧ ¬ rsv 3 (w - 3)) ↔ (3 ≤ w ∧ w ≤ 3)
    unfold rsv; omega
  · show (0 ≤ w - 4096 ∧ w - 4096 ≤ 1023 ∧ ¬ rsv 4 (w - 4096)) ↔ (4096 ≤ w ∧ w ≤ 5119)
    unfold rsv; omega
  · show (1024 ≤ w - 4096 ∧ w - 4096 ≤ 4095 ∧ ¬ rsv 5 (w - 4096)) ↔ (5120 ≤ w ∧ w ≤ 8191)
    unfold rsv; omega
  · show (0 ≤ w - 8192 ∧ w - 8192 ≤ 1023 ∧ ¬ rsv 6 (w - 8192)) ↔ (8192 ≤ w ∧ w ≤ 9215)
    unfold rsv; omega
  · show (0 ≤ w - 9216 ∧ w - 9216 ≤ 1023 ∧ ¬ rsv 7 (w - 9216)) ↔ (9216 ≤ w ∧ w ≤ 10239)
    unfold rsv; omega
  · show (0 ≤ w - 10240 ∧ w - 10240 ≤ 1023 ∧ ¬ rsv 8 (w - 10240)) ↔ (10240 ≤ w ∧ w ≤ 11263)
    unfold rsv; omega
  · show (0 ≤ w - 11264 ∧ w - 11264 ≤ 1023 ∧ ¬ rsv 9 (w - 11264)) ↔ (11264 ≤ w ∧ w ≤ 12287)
    unfold rsv; omega
  · show (0 ≤ w - 12288 ∧ w - 12288 ≤ 4095 ∧ ¬ rsv 10 (w - 12288)) ↔ (12288 ≤ w ∧ w ≤ 16383)
    unfold rsv; omega
  · show (0 ≤ w - 16384 ∧ w - 16384 ≤ 4095 ∧ ¬ rsv 11 (w - 16384)) ↔ (16384 ≤ w ∧ w ≤ 20479)
    unfold rsv; omega
  · show (0 ≤ w - 20480 ∧ w - 20480 ≤ 1023 ∧ ¬ rsv 12 (w - 20480)) ↔ (20480 ≤ w ∧ w ≤ 21503 ∧ w ≠ 20495)
    unfold rsv; omega
  · show (0 ≤ w - 20495 ∧ w - 20495 ≤ 0 ∧ ¬ rsv 13 (w - 20495)) ↔ (20495 ≤ w ∧ w ≤ 20495)
    unfold rsv; omega
  · show (0 ≤ w - 21504 ∧ w - 21504 ≤ 1023 ∧ ¬ rsv 14 (w - 21504)) ↔ (21504 ≤ w ∧ w ≤ 22527)
    unfold rsv; omega
  · show (0 ≤ w - 22528 ∧ w - 22528 ≤ 1023 ∧ ¬ rsv 15 (w - 22528)) ↔ (22528 ≤ w ∧ w ≤ 23551)
    unfold rsv; omega
  · show (0 ≤ w - 23552 ∧ w - 23552 ≤ 1023 ∧ ¬ rsv 16 (w - 23552)) ↔ (23552 ≤ w ∧ w ≤ 24575)
    unfold rsv; omega
  · show (0 ≤ w - 24576 ∧ w - 24576 ≤ 4095 ∧ ¬ rsv 17 (w - 24576)) ↔ (24576 ≤ w ∧ w ≤ 28671)
    unfold rsv; omega
  · show (0 ≤ w - 28672 ∧ w - 28672 ≤ 4095 ∧ ¬ rsv 18 (w - 28672)) ↔ (28672 ≤ w ∧ w ≤ 32767)
    unfold rsv; omega
  · show (0 ≤ w - 0 ∧ w - 0 ≤ 511 ∧ ¬ rsv 19 (w - 0)) ↔ (0 ≤ w ∧ w ≤ 511)
    unfold rsv; omega
  · show (0 ≤ w - 512 ∧ w - 512 ≤ 511 ∧ ¬ rsv 20 (w - 512)) ↔ (512 ≤ w ∧ w ≤ 1023)
    unfold rsv; omega
  · show (0 ≤ w - 1024 ∧ w - 1024 ≤ 511 ∧ ¬ rsv 21 (w - 1024)) ↔ (1024 ≤ w ∧ w ≤ 1535)
    unfold rsv; omega
  · show (0 ≤ w - 1536 ∧ w - 1536 ≤ 511 ∧ ¬ rsv 22 (w - 1536)) ↔ (1536 ≤ w ∧ w ≤ 2047)
    unfold rsv; omega
  · show (0 ≤ w - 2048 ∧ w - 2048 ≤ 511 ∧ ¬ rsv 23 (w - 2048)) ↔ (2048 ≤ w ∧ w ≤ 2559)
    unfold rsv; omega
  · show (0 ≤ w - 2560 ∧ w - 2560 ≤ 511 ∧ ¬ rsv 24 (w - 2560)) ↔ (2560 ≤ w ∧ w ≤ 3071)
    unfold rsv; omega
  · show (0 ≤ w - 3072 ∧ w - 3072 ≤ 511 ∧ ¬ rsv 25 (w - 3072)) ↔ (3072 ≤ w ∧ w ≤ 3583)
    unfold rsv; omega
  · show (0 ≤ w - 3584 ∧ w - 3584 ≤ 511 ∧ ¬ rsv 26 (w - 3584)) ↔ (3584 ≤ w ∧ w ≤ 4095)
    unfold rsv; omega
  · show (0 ≤ w - 4096 ∧ w - 4096 ≤ 1023 ∧ ¬ rsv 27 (w - 4096)) ↔ (4096 ≤ w ∧ w ≤ 5119)
    unfold rsv; omega
  · show (1024 ≤ w - 4096 ∧ w - 4096 ≤ 4095 ∧ ¬ rsv 28 (w - 4096)) ↔ (5120 ≤ w ∧ w ≤ 8191)
    unfold rsv; omega
  · show (0 ≤ w - 8192 ∧ w - 8192 ≤ 1023 ∧ ¬ rsv 29 (w - 8192)) ↔ (8192 ≤ w ∧ w ≤ 9215)
    unfold rsv; omega
  · show (0 ≤ w - 9216 ∧ w - 9216 ≤ 1023 ∧ ¬ rsv 30 (w - 9216)) ↔ (9216 ≤ w ∧ w ≤ 10239)
    unfold rsv; omega
  · show (0 ≤ w - 10240 ∧ w - 10240 ≤ 1023 ∧ ¬ rsv 31 (w - 10240)) ↔ (10240 ≤ w ∧ w ≤ 11263)
    unfold rsv; omega
  · show (0 ≤ w - 11264 ∧ w - 11264 ≤ 1023 ∧ ¬ rsv 32 (w - 11264)) ↔ (11264 ≤ w ∧ w ≤ 12287)
    unfold rsv; omega
  · show (0 ≤ w - 12288 ∧ w - 12288 ≤ 4095 ∧ ¬ rsv 33 (w - 12288)) ↔ (12288 ≤ w ∧ w ≤ 16383)
    unfold rsv; omega
  · show (0 ≤ w - 16384 ∧ w - 16384 ≤ 4095 ∧ ¬ rsv 34 (w - 16384)) ↔ (16384 ≤ w ∧ w ≤ 20479)
    unfold rsv; omega
  · show (0 ≤ w - 20480 ∧ w - 20480 ≤ 4095 ∧ ¬ rsv 35 (w - 20480)) ↔ (20480 ≤ w ∧ w ≤ 24575)
    unfold rsv; omega
  · show (0 ≤ w - 24576 ∧ w - 24576 ≤ 1023 ∧ ¬ rsv 36 (w - 24576)) ↔ (24576 ≤ w ∧ w ≤ 25599)
    unfold rsv; omega
  · show (1024 ≤ w - 24576 ∧ w - 24576 ≤ 4095 ∧ ¬ rsv 37 (w - 24576)) ↔ (25600 ≤ w ∧ w ≤ 28671)
    unfold rsv; omega
  · show (0 ≤ w - 28672 ∧ w - 28672 ≤ 4095 ∧ ¬ rsv 38 (w - 28672)) ↔ (28672 ≤ w ∧ w ≤ 32767)
    unfold rsv; omega
theorem span_dec (i : Nat) (hi39 : i < 39) (w : Int) (h : Span i w) : decI w (decide (19 ≤ i)) = i := by
  have e : i = 0 ∨ i = 1 ∨ i = 2 ∨ i = 3 ∨ i = 4 ∨ i = 5 ∨ i = 6 ∨ i = 7 ∨ i = 8 ∨ i = 9 ∨ i = 10 ∨ i = 11 ∨ i = 12 ∨ i = 13 ∨ i = 14 ∨ i = 15 ∨ i = 16 ∨ i = 17 ∨ i = 18 ∨ i = 19 ∨ i = 20 ∨ i = 21 ∨ i = 22 ∨ i = 23 ∨ i = 24 ∨ i = 25 ∨ i = 26 ∨ i = 27 ∨ i = 28 ∨ i = 29 ∨ i = 30 ∨ i = 31 ∨ i = 32 ∨ i = 33 ∨ i = 34 ∨ i = 35 ∨ i = 36 ∨ i = 37 ∨ i = 38 := by omega
  rcases e with rfl | rfl | rfl | rfl | rfl | rfl | rfl | rfl | rfl | rfl | rfl | rfl | rfl | rfl | rfl | rfl | rfl | rfl | rfl | rfl | rfl | rfl | rfl | rfl | rfl | rfl | rfl | rfl | rfl | rfl | rfl | rfl | rfl | rfl | rfl | rfl | rfl | rfl | rfl
  · change 0 ≤ w ∧ w ≤ 4095 ∧ w ≠ 3 ∧ w ≠ 4 ∧ w ≠ 6 at h
    show decI w false = 0
    unfold decI
    rw [if_pos rfl]
    repeat (first | rfl | (exfalso; omega) | rw [if_neg (by omega)] | rw [if_pos (by omega)])
  · change 6 ≤ w ∧ w ≤ 6 at h
    show decI w false = 1
    unfold decI
    rw [if_pos rfl]
    repeat (first | rfl | (exfalso; omega) | rw [if_neg (by omega)] | rw [if_pos (by omega)])
  · change 4 ≤ w ∧ w ≤ 4 at h
    show decI w false = 2
    unfold decI
    rw [if_pos rfl]
    repeat (first | rfl | (exfalso; omega) | rw [if_neg (by omega)] | rw [if_pos (by omega)])
  · change 3 ≤ w ∧ w ≤ 3 at h
    show decI w false = 3
    unfold decI
    rw [if_pos rfl]
    repeat (first | rfl | (exfalso; omega) | rw [if_neg (by omega)] | rw [if_pos (by omega)])
  · change 4096 ≤ w ∧ w ≤ 5119 at h
    show decI w false = 4
    unfold decI
    rw [if_pos rfl]
    repeat (first | rfl | (exfalso; omega) | rw [if_neg (by omega)] | rw [if_pos (by omega)])
  · change 5120 ≤ w ∧ w ≤ 8191 at h
    show decI w false = 5
    unfold decI
    rw [if_pos rfl]
    repeat (first | rfl | (exfalso; omega) | rw [if_neg (by omega)] | rw [if_pos (by omega)])
  · change 8192 ≤ w ∧ w ≤ 9215 at h
    show decI w false = 6
    unfold decI
    rw [if_pos rfl]
    repeat (first | rfl | (exfalso; omega) | rw [if_neg (by omega)] | rw [if_pos (by omega)])
  · change 9216 ≤ w ∧ w ≤ 10239 at h
    show decI w false = 7
    unfold decI
    rw [if_pos rfl]
    repeat (first | rfl | (exfalso; omega) | rw [if_neg (by omega)] | rw [if_pos (by omega)])
  · change 10240 ≤ w ∧ w ≤ 11263 at h
    show decI w false = 8
    unfold decI
    rw [if_pos rfl]
    repeat (first | rfl | (exfalso; omega) | rw [if_neg (by omega)] | rw [if_pos (by omega)])
  · change 11264 ≤ w ∧ w ≤ 12287 at h
    show decI w false = 9
    unfold decI
    rw [if_pos rfl]
    repeat (first | rfl | (exfalso; omega) | rw [if_neg (by omega)] | rw [if_pos (by omega)])
  · change 12288 ≤ w ∧ w ≤ 16383 at h
    show decI w false = 10
    unfold decI
    rw [if_pos rfl]
    repeat (first | rfl | (exfalso; omega) | rw [if_neg (by omega)] | rw [if_pos (by omega)])
  · change 16384 ≤ w ∧ w ≤ 20479 at h
    show decI w false = 11
    unfold decI
    rw [if_pos rfl]
    repeat (first | rfl | (exfalso; omega) | rw [if_neg (by omega)] | rw [if_pos (by omega)])
  · change 20480 ≤ w ∧ w ≤ 21503 ∧ w ≠ 20495 at h
    show decI w false = 12
    unfold decI
    rw [if_pos rfl]
    repeat (first | rfl | (exfalso; omega) | rw [if_neg (by omega)] | rw [if_pos (by omega)])
  · change 20495 ≤ w ∧ w ≤ 20495 at h
    show decI w false = 13
    unfold decI
    rw [if_pos rfl]
    repeat (first | rfl | (exfalso; omega) | rw [if_neg (by omega)] | rw [if_pos (by omega)])
  · change 21504 ≤ w ∧ w ≤ 22527 at h
    show decI w false = 14
    unfold decI
    rw [if_pos rfl]
    repeat (first | rfl | (exfalso; omega) | rw [if_neg (by omega)] | rw [if_pos (by omega)])
  · change 22528 ≤ w ∧ w ≤ 23551 at h
    show decI w false = 15
    unfold decI
    rw [if_pos rfl]
    repeat (first | rfl | (exfalso; omega) | rw [if_neg (by omega)] | rw [if_pos (by omega)])
  · change 23552 ≤ w ∧ w ≤ 24575 at h
    show decI w false = 16
    unfold decI
    rw [if_pos rfl]
    repeat (first | rfl | (exfalso; omega) | rw [if_neg (by omega)] | rw [if_pos (by omega)])
  · change 24576 ≤ w ∧ w ≤ 28671 at h
    show decI w false = 17
    unfold decI
    rw [if_pos rfl]
    repeat (first | rfl | (exfalso; omega) | rw [if_neg (by omega)] | rw [if_pos (by omega)])
  · change 28672 ≤ w ∧ w ≤ 32767 at h
    show decI w false = 18
    unfold decI
    rw [if_pos rfl]
    repeat (first | rfl | (exfalso; omega) | rw [if_neg (by omega)] | rw [if_pos (by omega)])
  · change 0 ≤ w ∧ w ≤ 511 at h
    show decI w true = 19
    unfold decI
    rw [if_neg (by decide)]
    repeat (first | rfl | (exfalso; omega) | rw [if_neg (by omega)] | rw [if_pos (by omega)])
  · change 512 ≤ w ∧ w ≤ 1023 at h
    show decI w true = 20
    unfold decI
    rw [if_neg (by decide)]
    repeat (first | rfl | (exfalso; omega) | rw [if_neg (by omega)] | rw [if_pos (by omega)])
  · change 1024 ≤ w ∧ w ≤ 1535 at h
    show decI w true = 21
    unfold decI
    rw [if_neg (by decide)]
    repeat (first | rfl | (exfalso; omega) | rw [if_neg (by omega)] | rw [if_pos (by omega)])
  · change 1536 ≤ w ∧ w ≤ 2047 at h
    show decI w true = 22
    unfold decI
    rw [if_neg (by decide)]
    repeat (first | rfl | (exfalso; omega) | rw [if_neg (by omega)] | rw [if_pos (by omega)])
  · change 2048 ≤ w ∧ w ≤ 2559 at h
    show decI w true = 23
    unfold decI
    rw [if_neg (by decide)]
    repeat (first | rfl | (exfalso; omega) | rw [if_neg (by omega)] | rw [if_pos (by omega)])
  · change 2560 ≤ w ∧ w ≤ 3071 at h
    show decI w true = 24
    unfold decI
    rw [if_neg (by decide)]
    repeat (first | rfl | (exfalso; omega) | rw [if_neg (by omega)] | rw [if_pos (by omega)])
  · change 3072 ≤ w ∧ w ≤ 3583 at h
    show decI w true = 25
    unfold decI
    rw [if_neg (by decide)]
    repeat (first | rfl | (exfalso; omega) | rw [if_neg (by omega)] | rw [if_pos (by omega)])
  · change 3584 ≤ w ∧ w ≤ 4095 at h
    show decI w true = 26
    unfold decI
    rw [if_neg (by decide)]
    repeat (first | rfl | (exfalso; omega) | rw [if_neg (by omega)] | rw [if_pos (by omega)])
  · change 4096 ≤ w ∧ w ≤ 5119 at h
    show decI w true = 27
    unfold decI
    rw [if_neg (by decide)]
    repeat (first | rfl | (exfalso; omega) | rw [if_neg (by omega)] | rw [if_pos (by omega)])
  · change 5120 ≤ w ∧ w ≤ 8191 at h
    show decI w true = 28
    unfold decI
    rw [if_neg (by decide)]
    repeat (first | rfl | (exfalso; omega) | rw [if_neg (by omega)] | rw [if_pos (by omega)])
  · change 8192 ≤ w ∧ w ≤ 9215 at h
    show decI w true = 29
    unfold decI
    rw [if_neg (by decide)]
    repeat (first | rfl | (exfalso; omega) | rw [if_neg (by omega)] | rw [if_pos (by omega)])
  · change 9216 ≤ w ∧ w ≤ 10239 at h
    show decI w true = 30
    unfold decI
    rw [if_neg (by decide)]
    repeat (first | rfl | (exfalso; omega) | rw [if_neg (by omega)] | rw [if_pos (by omega)])
  · change 10240 ≤ w ∧ w ≤ 11263 at h
    show decI w true = 31
    unfold decI
    rw [if_neg (by decide)]
    repeat (first | rfl | (exfalso; omega) | rw [if_neg (by omega)] | rw [if_pos (by omega)])
  · change 11264 ≤ w ∧ w ≤ 12287 at h
    show decI w true = 32
    unfold decI
    rw [if_neg (by decide)]
    repeat (first | rfl | (exfalso; omega) | rw [if_neg (by omega)] | rw [if_pos (by omega)])
  · change 12288 ≤ w ∧ w ≤ 16383 at h
    show decI w true = 33
    unfold decI
    rw [if_neg (by decide)]
    repeat (first | rfl | (exfalso; omega) | rw [if_neg (by omega)] | rw [if_pos (by omega)])
  · change 16384 ≤ w ∧ w ≤ 20479 at h
    show decI w true = 34
    unfold decI
    rw [if_neg (by decide)]
    repeat (first | rfl | (exfalso; omega) | rw [if_neg (by omega)] | rw [if_pos (by omega)])
  · change 20480 ≤ w ∧ w ≤ 24575 at h
    show decI w true = 35
    unfold decI
    rw [if_neg (by decide)]
    repeat (first | rfl | (exfalso; omega) | rw [if_neg (by omega)] | rw [if_pos (by omega)])
  · change 24576 ≤ w ∧ w ≤ 25599 at h
    show decI w true = 36
    unfold decI
    rw [if_neg (by decide)]
    repeat (first | rfl | (exfalso; omega) | rw [if_neg (by omega)] | rw [if_pos (by omega)])
  · change 25600 ≤ w ∧ w ≤ 28671 at h
    show decI w true = 37
    unfold decI
    rw [if_neg (by decide)]
    repeat (first | rfl | (exfalso; omega) | rw [if_neg (by omega)] | rw [if_pos (by omega)])
  · change 28672 ≤ w ∧ w ≤ 32767 at h
    show decI w true = 38
    unfold decI
    rw [if_neg (by decide)]
    repeat (first | rfl | (exfalso; omega) | rw [if_neg (by omega)] | rw [if_pos (by omega)])
theorem dec_span (w : Int) (w0 : 0 ≤ w) (w1 : w ≤ 32767) (e : Bool) : Span (decI w e) w := by
  cases e
  · unfold decI
    rw [if_pos rfl]
    repeat (first | (show _ ∧ _; omega) | refine ite_both (P := fun x => Span x w) (fun _ => ?_) (fun _ => ?_))
  · unfold decI
    rw [if_neg (by decide)]
    repeat (first | (show _ ∧ _; omega) | refine ite_both (P := fun x => Span x w) (fun _ => ?_) (fun _ => ?_))
theorem dec_ok (w : Int) (w0 : 0 ≤ w) (w1 : w ≤ 32767) (e : Bool) : encOk (decI w e) (w - bs (decI w e)) := (span_iff _ (decI_lt w e) w).2 (dec_span w w0 w1 e)
theorem dec_one {w : Int} {e : Bool} {i : Nat} (hi39 : i < 39) (he : decide (19 ≤ i) = e) (h : encOk i (w - bs i)) : decI w e = i := by
  rw [← he]; exact span_dec i hi39 w ((span_iff i hi39 w).1 h)
end Go.Proofs.YtjkdojdkmgaofaaDoor
