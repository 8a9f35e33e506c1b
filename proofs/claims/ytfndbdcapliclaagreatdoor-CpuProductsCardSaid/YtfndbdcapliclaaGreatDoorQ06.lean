/- Layer 4: which instruction a word is. -/
import Derived.Test.YtfndbdcapliclaaGreatDoorQ00
import Derived.Test.YtfndbdcapliclaaGreatDoorQ01
import Derived.Test.YtfndbdcapliclaaGreatDoorChecked
import Derived.Deep.RegionLaw
import Derived.Deep.RegionWith
import Derived.Test.YtfndbdcapliclaaGreatDoorQ03
set_option linter.unusedSimpArgs false
set_option linter.unusedVariables false
namespace Go.Proofs.YtfndbdcapliclaaGreatDoor
open Go.RowKit
/-- The instruction of the word w. -/
def decI (w : Int) (e : Bool) : Nat :=
  if e = false then
    if w = 3 then 3 else if w = 4 then 2 else if w = 6 then 1 else if w < 4096 then 0 else if w < 5120 then 4 else if w < 8192 then 5 else if w < 9216 then 6 else if w < 10240 then 7 else if w < 11264 then 8 else if w < 12288 then 9 else if w < 16384 then 10 else if w < 20480 then 11 else if w = 20495 then 13 else if w < 21504 then 12 else if w < 22528 then 14 else if w < 23552 then 15 else if w < 24576 then 16 else if w < 28672 then 17 else 18
  else
    if w < 512 then 19 else if w < 1024 then 20 else if w < 1536 then 21 else if w < 2048 then 22 else if w < 2560 then 23 else if w < 3072 then 24 else if w < 3584 then 25 else if w < 4096 then 26 else if w < 5120 then 27 else if w < 8192 then 28 else if w < 9216 then 29 else if w < 10240 then 30 else if w < 11264 then 31 else if w < 12288 then 32 else if w < 16384 then 33 else if w < 20480 then 34 else if w < 24576 then 35 else if w < 25600 then 36 else if w < 28672 then 37 else 38
theorem ite_both {c : Prop} [Decidable c] {α : Type} {P : α → Prop} {a b : α} (h1 : c → P a) (h2 : ¬ c → P b) : P (if c then a else b) := by
  by_cases h : c
  · rw [if_pos h]; exact h1 h
  · rw [if_neg h]; exact h2 h
theorem decI_low (w : Int) : decI w false < 19 := by
  unfold decI; rw [if_pos rfl]
  repeat (first | (show _ < _; decide) | refine ite_both (P := fun x => x < 19) (fun _ => ?_) (fun _ => ?_))
theorem decI_high (w : Int) : 19 ≤ decI w true ∧ decI w true < 39 := by
  unfold decI; rw [if_neg (by decide)]
  repeat (first | (show _ ∧ _; decide) | refine ite_both (P := fun x => 19 ≤ x ∧ x < 39) (fun _ => ?_) (fun _ => ?_))
theorem decI_lt (w : Int) (e : Bool) : decI w e < 39 := by
  cases e
  · have := decI_low w; omega
  · exact (decI_high w).2
theorem decI_ext (w : Int) (e : Bool) : decide (19 ≤ decI w e) = e := by
  cases e
  · have h := decI_low w
    simp; omega
  · have h := decI_high w
    simp; omega
theorem encOk_mk {i : Nat} {k : Int} (b l h : Int) (hl : lo (kd i) = l) (hh : hi (kd i) = h) (h1 : l ≤ k) (h2 : k ≤ h) (hr : ¬ rsv i k) : encOk i k := by
  unfold encOk; rw [hl, hh]; exact ⟨h1, h2, hr⟩
/-- The words of each instruction. -/
def Span (i : Nat) (w : Int) : Prop := match i with
  | 0 => 0 ≤ w ∧ w ≤ 4095 ∧ w ≠ 3 ∧ w ≠ 4 ∧ w ≠ 6
  | 1 => 6 ≤ w ∧ w ≤ 6
  | 2 => 4 ≤ w ∧ w ≤ 4
  | 3 => 3 ≤ w ∧ w ≤ 3
  | 4 => 4096 ≤ w ∧ w ≤ 5119
  | 5 => 5120 ≤ w ∧ w ≤ 8191
  | 6 => 8192 ≤ w ∧ w ≤ 9215
  | 7 => 9216 ≤ w ∧ w ≤ 10239
  | 8 => 10240 ≤ w ∧ w ≤ 11263
  | 9 => 11264 ≤ w ∧ w ≤ 12287
  | 10 => 12288 ≤ w ∧ w ≤ 16383
  | 11 => 16384 ≤ w ∧ w ≤ 20479
  | 12 => 20480 ≤ w ∧ w ≤ 21503 ∧ w ≠ 20495
  | 13 => 20495 ≤ w ∧ w ≤ 20495
  | 14 => 21504 ≤ w ∧ w ≤ 22527
  | 15 => 22528 ≤ w ∧ w ≤ 23551
  | 16 => 23552 ≤ w ∧ w ≤ 24575
  | 17 => 24576 ≤ w ∧ w ≤ 28671
  | 18 => 28672 ≤ w ∧ w ≤ 32767
  | 19 => 0 ≤ w ∧ w ≤ 511
  | 20 => 512 ≤ w ∧ w ≤ 1023
  | 21 => 1024 ≤ w ∧ w ≤ 1535
  | 22 => 1536 ≤ w ∧ w ≤ 2047
  | 23 => 2048 ≤ w ∧ w ≤ 2559
  | 24 => 2560 ≤ w ∧ w ≤ 3071
  | 25 => 3072 ≤ w ∧ w ≤ 3583
  | 26 => 3584 ≤ w ∧ w ≤ 4095
  | 27 => 4096 ≤ w ∧ w ≤ 5119
  | 28 => 5120 ≤ w ∧ w ≤ 8191
  | 29 => 8192 ≤ w ∧ w ≤ 9215
  | 30 => 9216 ≤ w ∧ w ≤ 10239
  | 31 => 10240 ≤ w ∧ w ≤ 11263
  | 32 => 11264 ≤ w ∧ w ≤ 12287
  | 33 => 12288 ≤ w ∧ w ≤ 16383
  | 34 => 16384 ≤ w ∧ w ≤ 20479
  | 35 => 20480 ≤ w ∧ w ≤ 24575
  | 36 => 24576 ≤ w ∧ w ≤ 25599
  | 37 => 25600 ≤ w ∧ w ≤ 28671
  | 38 => 28672 ≤ w ∧ w ≤ 32767
  | _ => False
theorem span_iff (i : Nat) (hi39 : i < 39) (w : Int) : encOk i (w - bs i) ↔ Span i w := by
  have h : i = 0 ∨ i = 1 ∨ i = 2 ∨ i = 3 ∨ i = 4 ∨ i = 5 ∨ i = 6 ∨ i = 7 ∨ i = 8 ∨ i = 9 ∨ i = 10 ∨ i = 11 ∨ i = 12 ∨ i = 13 ∨ i = 14 ∨ i = 15 ∨ i = 16 ∨ i = 17 ∨ i = 18 ∨ i = 19 ∨ i = 20 ∨ i = 21 ∨ i = 22 ∨ i = 23 ∨ i = 24 ∨ i = 25 ∨ i = 26 ∨ i = 27 ∨ i = 28 ∨ i = 29 ∨ i = 30 ∨ i = 31 ∨ i = 32 ∨ i = 33 ∨ i = 34 ∨ i = 35 ∨ i = 36 ∨ i = 37 ∨ i = 38 := by omega
  rcases h with rfl | rfl | rfl | rfl | rfl | rfl | rfl | rfl | rfl | rfl | rfl | rfl | rfl | rfl | rfl | rfl | rfl | rfl | rfl | rfl | rfl | rfl | rfl | rfl | rfl | rfl | rfl | rfl | rfl | rfl | rfl | rfl | rfl | rfl | rfl | rfl | rfl | rfl | rfl
  · show (0 ≤ w - 0 ∧ w - 0 ≤ 4095 ∧ ¬ rsv 0 (w - 0)) ↔ (0 ≤ w ∧ w ≤ 4095 ∧ w ≠ 3 ∧ w ≠ 4 ∧ w ≠ 6)
    unfold rsv; omega
  · show (0 ≤ w - 6 ∧ w - 6 ≤ 0 ∧ ¬ rsv 1 (w - 6)) ↔ (6 ≤ w ∧ w ≤ 6)
    unfold rsv; omega
  · show (0 ≤ w - 4 ∧ w - 4 ≤ 0 ∧ ¬ rsv 2 (w - 4)) ↔ (4 ≤ w ∧ w ≤ 4)
    unfold rsv; omega
  · show (0 ≤ w - 3 ∧ w - 3 ≤ 0 ∧ ¬ rsv 3 (w - 3)) ↔ (3 ≤ w ∧ w ≤ 3)
    unfold rsv; omega
  · show (0 ≤ w - 4096 ∧ w - 4096 ≤ 1023 ∧ ¬ rsv 4 (w - 4096)) ↔ (4096 ≤ w ∧ w ≤ 5119)
    unfold rsv; omega
  · show (1024 ≤ w - 4096 ∧ w - 4096 ≤ 4095 ∧ ¬ rsv 5 (w - 4096)) ↔ (5120 ≤ w ∧ w ≤ 8191)
    unfold rsv; omega
  · show (0 ≤ w - 8192 ∧ w - 8192 ≤ 1023 ∧ ¬ rsv 6 (w - 8192)) ↔ (8192 ≤ w ∧ w ≤ 9215)
    unfold rsv; omega
  · show (0 ≤ w - 9216 ∧ w - 9216 ≤ 1023 ∧ ¬ rsv 7 (w - 9216)) ↔ (9216 ≤ w ∧ w ≤ 10239)
    unfold rsv; omega
  · show (0 ≤ w - 10240 ∧ w - 10240 ≤ 1023 ∧ ¬ rsv 8 (w - 10240)) ↔ (10240 ≤ w ∧ w ≤ 11263)
    unfold rsv; omega
  · show (0 ≤ w - 11264 ∧ w - 11264 ≤ 1023 ∧ ¬ rsv 9 (w - 11264)) ↔ (11264 ≤ w ∧ w ≤ 12287)
    unfold rsv; omega
  · show (0 ≤ w - 12288 ∧ w - 12288 ≤ 4095 ∧ ¬ rsv 10 (w - 12288)) ↔ (12288 ≤ w ∧ w ≤ 16383)
    unfold rsv; omega
  · show (0 ≤ w - 16384 ∧ w - 16384 ≤ 4095 ∧ ¬ rsv 11 (w - 16384)) ↔ (16384 ≤ w ∧ w ≤ 20479)
    unfold rsv; omega
  · show (0 ≤ w - 20480 ∧ w - 20480 ≤ 1023 ∧ ¬ rsv 12 (w - 20480)) ↔ (20480 ≤ w ∧ w ≤ 21503 ∧ w ≠ 20495)
    unfold rsv; omega
  · show (0 ≤ w - 20495 ∧ w - 20495 ≤ 0 ∧ ¬ rsv 13 (w - 20495)) ↔ (20495 ≤ w ∧ w ≤ 20495)
    unfold rsv; omega
  · show (0 ≤ w - 21504 ∧ w - 21504 ≤ 1023 ∧ ¬ rsv 14 (w - 21504)) ↔ (21504 ≤ w ∧ w ≤ 22527)
    unfold rsv; omega
  · show (0 ≤ w - 22528 ∧ w - 22528 ≤ 1023 ∧ ¬ rsv 15 (w - 22528)) ↔ (22528 ≤ w ∧ w ≤ 23551)
    unfold rsv; omega
  · show (0 ≤ w - 23552 ∧ w - 23552 ≤ 1023 ∧ ¬ rsv 16 (w - 23552)) ↔ (23552 ≤ w ∧ w ≤ 24575)
    unfold rsv; omega
  · show (0 ≤ w - 24576 ∧ w - 24576 ≤ 4095 ∧ ¬ rsv 17 (w - 24576)) ↔ (24576 ≤ w ∧ w ≤ 28671)
    unfold rsv; omega
  · show (0 ≤ w - 28672 ∧ w - 28672 ≤ 4095 ∧ ¬ rsv 18 (w - 28672)) ↔ (28672 ≤ w ∧ w ≤ 32767)
    unfold rsv; omega
  · show (0 ≤ w - 0 ∧ w - 0 ≤ 511 ∧ ¬ rsv 19 (w - 0)) ↔ (0 ≤ w ∧ w ≤ 511)
    unfold rsv; omega
  · show (0 ≤ w - 512 ∧ w - 512 ≤ 511 ∧ ¬ rsv 20 (w - 512)) ↔ (512 ≤ w ∧ w ≤ 1023)
    unfold rsv; omega
  · show (0 ≤ w - 1024 ∧ w - 1024 ≤ 511 ∧ ¬ rsv 21 (w - 1024)) ↔ (1024 ≤ w ∧ w ≤ 1535)
    unfold rsv; omega
  · show (0 ≤ w - 1536 ∧ w - 1536 ≤ 511 ∧ ¬ rsv 22 (w - 1536)) ↔ (1536 ≤ w ∧ w ≤ 2047)
    unfold rsv; omega
  · show (0 ≤ w - 2048 ∧ w - 2048 ≤ 511 ∧ ¬ rsv 23 (w - 2048)) ↔ (2048 ≤ w ∧ w ≤ 2559)
    unfold rsv; omega
  · show (0 ≤ w - 2560 ∧ w - 2560 ≤ 511 ∧ ¬ rsv 24 (w - 2560)) ↔ (2560 ≤ w ∧ w ≤ 3071)
    unfold rsv; omega
  · show (0 ≤ w - 3072 ∧ w - 3072 ≤ 511 ∧ ¬ rsv 25 (w - 3072)) ↔ (3072 ≤ w ∧ w ≤ 3583)
    unfold rsv; omega
  · show (0 ≤ w - 3584 ∧ w - 3584 ≤ 511 ∧ ¬ rsv 26 (w - 3584)) ↔ (3584 ≤ w ∧ w ≤ 4095)
    unfold rsv; omega
  · show (0 ≤ w - 4096 ∧ w - 4096 ≤ 1023 ∧ ¬ rsv 27 (w - 4096)) ↔ (4096 ≤ w ∧ w ≤ 5119)
    unfold rsv; omega
  · show (1024 ≤ w - 4096 ∧ w - 4096 ≤ 4095 ∧ ¬ rsv 28 (w - 4096)) ↔ (5120 ≤ w ∧ w ≤ 8191)
    unfold rsv; omega
  · show (0 ≤ w - 8192 ∧ w - 8192 ≤ 1023 ∧ ¬ rsv 29 (w - 8192)) ↔ (8192 ≤ w ∧ w ≤ 9215)
    unfold rsv; omega
  · show (0 ≤ w - 9216 ∧ w - 9216 ≤ 1023 ∧ ¬ rsv 30 (w - 9216)) ↔ (9216 ≤ w ∧ w ≤ 10239)
    unfold rsv; omega
  · show (0 ≤ w - 10240 ∧ w - 10240 ≤ 1023 ∧ ¬ rsv 31 (w - 10240)) ↔ (10240 ≤ w ∧ w ≤ 11263)
    unfold rsv; omega
  · show (0 ≤ w - 11264 ∧ w - 11264 ≤ 1023 ∧ ¬ rsv 32 (w - 11264)) ↔ (11264 ≤ w ∧ w ≤ 12287)
    unfold rsv; omega
  · show (0 ≤ w - 12288 ∧ w - 12288 ≤ 4095 ∧ ¬ rsv 33 (w - 12288)) ↔ (12288 ≤ w ∧ w ≤ 16383)
    unfold rsv; omega
  · show (0 ≤ w - 16384 ∧ w - 16384 ≤ 4095 ∧ ¬ rsv 34 (w - 16384)) ↔ (16384 ≤ w ∧ w ≤ 20479)
    unfold rsv; omega
  · show (0 ≤ w - 20480 ∧ w - 20480 ≤ 4095 ∧ ¬ rsv 35 (w - 20480)) ↔ (20480 ≤ w ∧ w ≤ 24575)
    unfold rsv; omega
  · show (0 ≤ w - 24576 ∧ w - 24576 ≤ 1023 ∧ ¬ rsv 36 (w - 24576)) ↔ (24576 ≤ w ∧ w ≤ 25599)
    unfold rsv; omega
  · show (1024 ≤ w - 24576 ∧ w - 24576 ≤ 4095 ∧ ¬ rsv 37 (w - 24576)) ↔ (25600 ≤ w ∧ w ≤ 28671)
    unfold rsv; omega
  · show (0 ≤ w - 28672 ∧ w - 28672 ≤ 4095 ∧ ¬ rsv 38 (w - 28672)) ↔ (28672 ≤ w ∧ w ≤ 32767)
    unfold rsv; omega
theorem span_dec (i : Nat) (hi39 : i < 39) (w : Int) (h : Span i w) : decI w (decide (19 ≤ i)) = i := by
  have e : i = 0 ∨ i = 1 ∨ i = 2 ∨ i = 3 ∨ i = 4 ∨ i = 5 ∨ i = 6 ∨ i = 7 ∨ i = 8 ∨ i = 9 ∨ i = 10 ∨ i = 11 ∨ i = 12 ∨ i = 13 ∨ i = 14 ∨ i = 15 ∨ i = 16 ∨ i = 17 ∨ i = 18 ∨ i = 19 ∨ i = 20 ∨ i = 21 ∨ i = 22 ∨ i = 23 ∨ i = 24 ∨ i = 25 ∨ i = 26 ∨ i = 27 ∨ i = 28 ∨ i = 29 ∨ i = 30 ∨ i = 31 ∨ i = 32 ∨ i = 33 ∨ i = 34 ∨ i = 35 ∨ i = 36 ∨ i = 37 ∨ i = 38 := by omega
  rcases e with rfl | rfl | rfl | rfl | rfl | rfl | rfl | rfl | rfl | rfl | rfl | rfl | rfl | rfl | rfl | rfl | rfl | rfl | rfl | rfl | rfl | rfl | rfl | rfl | rfl | rfl | rfl | rfl | rfl | rfl | rfl | rfl | rfl | rfl | rfl | rfl | rfl | rfl | rfl
  · change 0 ≤ w ∧ w ≤ 4095 ∧ w ≠ 3 ∧ w ≠ 4 ∧ w ≠ 6 at h
    show decI w false = 0
    unfold decI
    rw [if_pos rfl]
    repeat (first | rfl | (exfalso; omega) | rw [if_neg (by omega)] | rw [if_pos (by omega)])
  · change 6 ≤ w ∧ w ≤ 6 at h
    show decI w false = 1
    unfold decI
    rw [if_pos rfl]
    repeat (first | rfl | (exfalso; omega) | rw [if_neg (by omega)] | rw [if_pos (by omega)])
  · change 4 ≤ w ∧ w ≤ 4 at h
    show decI w false = 2
    unfold decI
    rw [if_pos rfl]
    repeat (first | rfl | (exfalso; omega) | rw [if_neg (by omega)] | rw [if_pos (by omega)])
  · change 3 ≤ w ∧ w ≤ 3 at h
    show decI w false = 3
    unfold decI
    rw [if_pos rfl]
    repeat (first | rfl | (exfalso; omega) | rw [if_neg (by omega)] | rw [if_pos (by omega)])
  · change 4096 ≤ w ∧ w ≤ 5119 at h
    show decI w false = 4
    unfold decI
    rw [if_pos rfl]
    repeat (first | rfl | (exfalso; omega) | rw [if_neg (by omega)] | rw [if_pos (by omega)])
  · change 5120 ≤ w ∧ w ≤ 8191 at h
    show decI w false = 5
    unfold decI
    rw [if_pos rfl]
    repeat (first | rfl | (exfalso; omega) | rw [if_neg (by omega)] | rw [if_pos (by omega)])
  · change 8192 ≤ w ∧ w ≤ 9215 at h
    show decI w false = 6
    unfold decI
    rw [if_pos rfl]
    repeat (first | rfl | (exfalso; omega) | rw [if_neg (by omega)] | rw [if_pos (by omega)])
  · change 9216 ≤ w ∧ w ≤ 10239 at h
    show decI w false = 7
    unfold decI
    rw [if_pos rfl]
    repeat (first | rfl | (exfalso; omega) | rw [if_neg (by omega)] | rw [if_pos (by omega)])
  · change 10240 ≤ w ∧ w ≤ 11263 at h
    show decI w false = 8
    unfold decI
    rw [if_pos rfl]
    repeat (first | rfl | (exfalso; omega) | rw [if_neg (by omega)] | rw [if_pos (by omega)])
  · change 11264 ≤ w ∧ w ≤ 12287 at h
    show decI w false = 9
    unfold decI
    rw [if_pos rfl]
    repeat (first | rfl | (exfalso; omega) | rw [if_neg (by omega)] | rw [if_pos (by omega)])
  · change 12288 ≤ w ∧ w ≤ 16383 at h
    show decI w false = 10
    unfold decI
    rw [if_pos rfl]
    repeat (first | rfl | (exfalso; omega) | rw [if_neg (by omega)] | rw [if_pos (by omega)])
  · change 16384 ≤ w ∧ w ≤ 20479 at h
    show decI w false = 11
    unfold decI
    rw [if_pos rfl]
    repeat (first | rfl | (exfalso; omega) | rw [if_neg (by omega)] | rw [if_pos (by omega)])
  · change 20480 ≤ w ∧ w ≤ 21503 ∧ w ≠ 20495 at h
    show decI w false = 12
    unfold decI
    rw [if_pos rfl]
    repeat (first | rfl | (exfalso; omega) | rw [if_neg (by omega)] | rw [if_pos (by omega)])
  · change 20495 ≤ w ∧ w ≤ 20495 at h
    show decI w false = 13
    unfold decI
    rw [if_pos rfl]
    repeat (first | rfl | (exfalso; omega) | rw [if_neg (by omega)] | rw [if_pos (by omega)])
  · change 21504 ≤ w ∧ w ≤ 22527 at h
    show decI w false = 14
    unfold decI
    rw [if_pos rfl]
    repeat (first | rfl | (exfalso; omega) | rw [if_neg (by omega)] | rw [if_pos (by omega)])
  · change 22528 ≤ w ∧ w ≤ 23551 at h
    show decI w false = 15
    unfold decI
    rw [if_pos rfl]
    repeat (first | rfl | (exfalso; omega) | rw [if_neg (by omega)] | rw [if_pos (by omega)])
  · change 23552 ≤ w ∧ w ≤ 24575 at h
    show decI w false = 16
    unfold decI
    rw [if_pos rfl]
    repeat (first | rfl | (exfalso; omega) | rw [if_neg (by omega)] | rw [if_pos (by omega)])
  · change 24576 ≤ w ∧ w ≤ 28671 at h
    show decI w false = 17
    unfold decI
    rw [if_pos rfl]
    repeat (first | rfl | (exfalso; omega) | rw [if_neg (by omega)] | rw [if_pos (by omega)])
  · change 28672 ≤ w ∧ w ≤ 32767 at h
    show decI w false = 18
    unfold decI
    rw [if_pos rfl]
    repeat (first | rfl | (exfalso; omega) | rw [if_neg (by omega)] | rw [if_pos (by omega)])
  · change 0 ≤ w ∧ w ≤ 511 at h
    show decI w true = 19
    unfold decI
    rw [if_neg (by decide)]
    repeat (first | rfl | (exfalso; omega) | rw [if_neg (by omega)] | rw [if_pos (by omega)])
  · change 512 ≤ w ∧ w ≤ 1023 at h
    show decI w true = 20
    unfold decI
    rw [if_neg (by decide)]
    repeat (first | rfl | (exfalso; omega) | rw [if_neg (by omega)] | rw [if_pos (by omega)])
  · change 1024 ≤ w ∧ w ≤ 1535 at h
    show decI w true = 21
    unfold decI
    rw [if_neg (by decide)]
    repeat (first | rfl | (exfalso; omega) | rw [if_neg (by omega)] | rw [if_pos (by omega)])
  · change 1536 ≤ w ∧ w ≤ 2047 at h
    show decI w true = 22
    unfold decI
    rw [if_neg (by decide)]
    repeat (first | rfl | (exfalso; omega) | rw [if_neg (by omega)] | rw [if_pos (by omega)])
  · change 2048 ≤ w ∧ w ≤ 2559 at h
    show decI w true = 23
    unfold decI
    rw [if_neg (by decide)]
    repeat (first | rfl | (exfalso; omega) | rw [if_neg (by omega)] | rw [if_pos (by omega)])
  · change 2560 ≤ w ∧ w ≤ 3071 at h
    show decI w true = 24
    unfold decI
    rw [if_neg (by decide)]
    repeat (first | rfl | (exfalso; omega) | rw [if_neg (by omega)] | rw [if_pos (by omega)])
  · change 3072 ≤ w ∧ w ≤ 3583 at h
    show decI w true = 25
    unfold decI
    rw [if_neg (by decide)]
    repeat (first | rfl | (exfalso; omega) | rw [if_neg (by omega)] | rw [if_pos (by omega)])
  · change 3584 ≤ w ∧ w ≤ 4095 at h
    show decI w true = 26
    unfold decI
    rw [if_neg (by decide)]
    repeat (first | rfl | (exfalso; omega) | rw [if_neg (by omega)] | rw [if_pos (by omega)])
  · change 4096 ≤ w ∧ w ≤ 5119 at h
    show decI w true = 27
    unfold decI
    rw [if_neg (by decide)]
    repeat (first | rfl | (exfalso; omega) | rw [if_neg (by omega)] | rw [if_pos (by omega)])
  · change 5120 ≤ w ∧ w ≤ 8191 at h
    show decI w true = 28
    unfold decI
    rw [if_neg (by decide)]
    repeat (first | rfl | (exfalso; omega) | rw [if_neg (by omega)] | rw [if_pos (by omega)])
  · change 8192 ≤ w ∧ w ≤ 9215 at h
    show decI w true = 29
    unfold decI
    rw [if_neg (by decide)]
    repeat (first | rfl | (exfalso; omega) | rw [if_neg (by omega)] | rw [if_pos (by omega)])
  · change 9216 ≤ w ∧ w ≤ 10239 at h
    show decI w true = 30
    unfold decI
    rw [if_neg (by decide)]
    repeat (first | rfl | (exfalso; omega) | rw [if_neg (by omega)] | rw [if_pos (by omega)])
  · change 10240 ≤ w ∧ w ≤ 11263 at h
    show decI w true = 31
    unfold decI
    rw [if_neg (by decide)]
    repeat (first | rfl | (exfalso; omega) | rw [if_neg (by omega)] | rw [if_pos (by omega)])
  · change 11264 ≤ w ∧ w ≤ 12287 at h
    show decI w true = 32
    unfold decI
    rw [if_neg (by decide)]
    repeat (first | rfl | (exfalso; omega) | rw [if_neg (by omega)] | rw [if_pos (by omega)])
  · change 12288 ≤ w ∧ w ≤ 16383 at h
    show decI w true = 33
    unfold decI
    rw [if_neg (by decide)]
    repeat (first | rfl | (exfalso; omega) | rw [if_neg (by omega)] | rw [if_pos (by omega)])
  · change 16384 ≤ w ∧ w ≤ 20479 at h
    show decI w true = 34
    unfold decI
    rw [if_neg (by decide)]
    repeat (first | rfl | (exfalso; omega) | rw [if_neg (by omega)] | rw [if_pos (by omega)])
  · change 20480 ≤ w ∧ w ≤ 24575 at h
    show decI w true = 35
    unfold decI
    rw [if_neg (by decide)]
    repeat (first | rfl | (exfalso; omega) | rw [if_neg (by omega)] | rw [if_pos (by omega)])
  · change 24576 ≤ w ∧ w ≤ 25599 at h
    show decI w true = 36
    unfold decI
    rw [if_neg (by decide)]
    repeat (first | rfl | (exfalso; omega) | rw [if_neg (by omega)] | rw [if_pos (by omega)])
  · change 25600 ≤ w ∧ w ≤ 28671 at h
    show decI w true = 37
    unfold decI
    rw [if_neg (by decide)]
    repeat (first | rfl | (exfalso; omega) | rw [if_neg (by omega)] | rw [if_pos (by omega)])
  · change 28672 ≤ w ∧ w ≤ 32767 at h
    show decI w true = 38
    unfold decI
    rw [if_neg (by decide)]
    repeat (first | rfl | (exfalso; omega) | rw [if_neg (by omega)] | rw [if_pos (by omega)])
theorem dec_span (w : Int) (w0 : 0 ≤ w) (w1 : w ≤ 32767) (e : Bool) : Span (decI w e) w := by
  cases e
  · unfold decI
    rw [if_pos rfl]
    repeat (first | (show _ ∧ _; omega) | refine ite_both (P := fun x => Span x w) (fun _ => ?_) (fun _ => ?_))
  · unfold decI
    rw [if_neg (by decide)]
    repeat (first | (show _ ∧ _; omega) | refine ite_both (P := fun x => Span x w) (fun _ => ?_) (fun _ => ?_))
theorem dec_ok (w : Int) (w0 : 0 ≤ w) (w1 : w ≤ 32767) (e : Bool) : encOk (decI w e) (w - bs (decI w e)) := (span_iff _ (decI_lt w e) w).2 (dec_span w w0 w1 e)
theorem dec_one {w : Int} {e : Bool} {i : Nat} (hi39 : i < 39) (he : decide (19 ≤ i) = e) (h : encOk i (w - bs i)) : decI w e = i := by
  rw [← he]; exact span_dec i hi39 w ((span_iff i hi39 w).1 h)
end Go.Proofs.YtfndbdcapliclaaGreatDoor

/- Tables: slices of the call's own that hold known values, made of one or two literals. -/
set_option linter.unusedSimpArgs false
set_option linter.unusedVariables false
namespace Go.Proofs.YtfndbdcapliclaaGreatDoor
open Go.ChangeShapes Go.WideShapes Go.ChangeAt Go.RowKit
/-- The call returns a slice of its own with the values f 0, .., f (n - 1), and writes nothing that was there. -/
def RetTab (n : Nat) (f : Nat → Value) (w : World) (e : Ending) (w' : World) : Prop := ∃ g c, e = .returned (.slice (some ⟨g, 0, none⟩) n c) ∧ w.heap.size ≤ g ∧ g < w'.heap.size ∧ (∀ i, i < n → w'.cell? ⟨g, i, none⟩ = some (f i)) ∧ Below w.heap.size w w'
theorem ret_tab {T : TypeId} {n : Nat} {f : Nat → Value} {w w' : World} {v : Value} (hn : 0 < n) (ho : OwnV T w' w.heap.size v (vlst n f)) (hb : Below w.heap.size w w') : RetTab n f w (.returned v) w' := by
  unfold OwnV at ho
  rw [vlst_len] at ho
  have ho0 := ho
  obtain ⟨hlen, hcase⟩ := ho
  rcases hcase with ⟨hv, h0⟩ | ⟨g, cap, cur, hv, hBg, hheap, h1, h2, h3, h4⟩
  · omega
  subst hv
  refine ⟨g, cap, rfl, hBg, (Array.getElem?_eq_some_iff.1 hheap).1, fun i hi => ?_, hb⟩
  rw [World.ownsRow.cellAt (g := g) (cap := cap) ho0 i (by omega), vlst_get _ _ _ hi]
/-- append(x, y...) for slices of one-cell values. -/
theorem app_vals {P : Program} {ops : Array Oper} {rest : List Oper} {o : Oper} {a : Act} {Q : Exit → Act → World → Prop} (hgd : o.guard = none) (s x : Operand) (t : TypeId)
    (ho : o.op = .call { callee := .builtin .append, args := #[s, x], argTypes := #[t, t] })
    (z : Value) (e : TypeId) (bytes : Nat) (ht : P.underlying t = some (.slice e)) (hinfo : (P.info? e).map (fun i => (i.zero, i.size, i.bytes)) = some (some z, 1, bytes)) (hz1 : z.cells.size = 1)
    (w0 wr : World) (B : Nat) (v : Value) (l : List Value) (ad : Addr) (m c : Nat) (news : List Value) (hown : OwnV e wr B v l) (hs : a.eval s = v) (hx : a.eval x = .slice (some ad) m c)
    (hl : news.length = m) (hnews : ∀ j u, news[j]? = some u → wr.cell? (ad.add j) = some u) (h1 : ∀ u ∈ news, u.oneCell' = true)
    (hlen : (l.length + m) * bytes ≤ 140737488355328 ∧ l.length + m ≤ 140737488355328) (hb : Below B w0 wr) (hB : B ≤ wr.heap.size)
    (h : ∀ v' w', OwnV e w' B v' (l ++ news) → Below B w0 w' → B ≤ w'.heap.size → wpList P ops Q rest (a.put o.dst v') w') :
    wpList P ops Q (o :: rest) a wr := by
  obtain ⟨i, hi, hz, hsz, hby⟩ := info_parts hinfo
  refine wpList_append_own _ hgd s x t ho B e i z 1 bytes ht hi hz hsz hby hz1 (by decide) v l.length l hs hown ad m c news hx (by omega) hnews h1 (by unfold maxLen; omega) hlen.1 hB ?_
  intro v' w' h2 h3 h4
  refine h v' w' ?_ ?_ ?_
  · unfold OwnV; rw [List.length_append, hl]; exact h2
  · exact Below.grown hb h3 hB (fun g hg => (World.ownsRow.lt hown g hg).1)
  · have := h3.size; omega
/-- The same of two literals, X and Y, that were just written out. -/
theorem app_lits {P : Program} {ops : Array Oper} {rest : List Oper} {o : Oper} {a : Act} {Q : Exit → Act → World → Prop} (hgd : o.guard = none) (s x : Operand) (t : TypeId)
    (ho : o.op = .call { callee := .builtin .append, args := #[s, x], argTypes := #[t, t] })
    (z : Value) (e : TypeId) (bytes : Nat) (ht : P.underlying t = some (.slice e)) (hinfo : (P.info? e).map (fun i => (i.zero, i.size, i.bytes)) = some (some z, 1, bytes)) (hz1 : z.cells.size = 1)
    (w : World) (X Y : Array Value) (n m : Nat) (hX : X.size = n) (hY : Y.size = m) (f : Nat → Value) (hf : X.toList ++ Y.toList = vlst (n + m) f)
    (hs : a.eval s = .slice (some ⟨w.heap.size, 0, none⟩) n n) (hx : a.eval x = .slice (some ⟨w.heap.size + 1, 0, none⟩) m m)
    (h1 : ∀ u ∈ Y.toList, u.oneCell' = true) (hlen : (n + m) * bytes ≤ 140737488355328 ∧ n + m ≤ 140737488355328)
    (h : ∀ v' w', OwnV e w' w.heap.size v' (vlst (n + m) f) → Below w.heap.size w w' → wpList P ops Q rest (a.put o.dst v') w') :
    wpList P ops Q (o :: rest) a ((w.alloc (.cells X e)).alloc (.cells Y e)) := by
  subst hX
  subst hY
  have hown : OwnV e ((w.alloc (.cells X e)).alloc (.cells Y e)) w.heap.size (.slice (some ⟨w.heap.size, 0, none⟩) X.size X.size) X.toList := by
    unfold OwnV
    rw [Array.length_toList]
    exact World.ownsRow.alloc (World.ownsRow_lit w X X.size (Nat.le_refl _) (by unfold maxLen; omega) (by simp)) _
  refine app_vals hgd s x t ho z e bytes ht hinfo hz1 w _ w.heap.size _ X.toList ⟨w.heap.size + 1, 0, none⟩ Y.size Y.size Y.toList hown hs hx (by simp) ?_ h1 (by rw [Array.length_toList]; exact hlen) (((Below.refl _ _).alloc (Nat.le_refl _) _).alloc (by simp) _) (by simp; omega) ?_
  · intro j u hu
    have e1 : (⟨w.heap.size + 1, 0, none⟩ : Addr).add j = ⟨w.heap.size + 1, j, none⟩ := by unfold Addr.add; by_cases c : j = 0 <;> simp [c]
    rw [e1, World.cell?_alloc_at _ _ _ _ (by simp)]
    rw [Array.getElem?_toList] at hu
    exact hu
  · intro v' w' h2 h3 _
    rw [hf] at h2
    exact h v' w' h2 h3
end Go.Proofs.YtfndbdcapliclaaGreatDoor

/- Contracts of layer 4: the reference's tables, Of, Range. -/
set_option linter.unusedSimpArgs false
set_option linter.unusedVariables false
namespace Go.Proofs.YtfndbdcapliclaaGreatDoor
open Go.ChangeShapes Go.WideShapes Go.ChangeAt Go.RowKit
theorem info_string : (Tryz.prog.info? 9).map (fun i => (i.zero, i.size, i.bytes)) = some (some (.string ⟨#[]⟩), 1, 16) := by kernel_rfl
theorem info_kind : (Tryz.prog.info? 39).map (fun i => (i.zero, i.size, i.bytes)) = some (some (.int .u8 0), 1, 1) := by kernel_rfl
theorem info_int4 : (Tryz.prog.info? 3).map (fun i => (i.zero, i.size, i.bytes)) = some (some (.int .i64 0), 1, 8) := by kernel_rfl
set_option maxHeartbeats 2000000 in
theorem rNames_any (w : World) : Calls Tryz.prog 135 #[] w (RetTab 39 (fun i => .string (nm i)) w) := by
  go_enter Tryz.func135, Tryz.ntmps135
  go_wp2_with (at_builtin; refine app_lits rfl _ _ 144 rfl (.string ⟨#[]⟩) 9 16 Tryz.underlying144 info_string rfl w _ _ 19 20 rfl rfl (fun i => .string (nm i)) (by kernel_rfl) rfl rfl (by simp [Value.oneCell']) (by omega) ?_; intro v1 w1 o1 b1; (have O1 := Lib.hid o1; have B1 := Lib.hid b1; clear o1 b1))
  go_ret
  exact ret_tab (by omega) O1.out B1.out
set_option maxHeartbeats 2000000 in
theorem rkinds_any (w : World) : Calls Tryz.prog 134 #[] w (RetTab 39 (fun i => .int .u8 (kd i)) w) := by
  go_enter Tryz.func134, Tryz.ntmps134
  go_wp2_with (at_builtin; refine app_lits rfl _ _ 142 rfl (.int .u8 0) 39 1 Tryz.underlying142 info_kind rfl w _ _ 19 20 rfl rfl (fun i => .int .u8 (kd i)) (by kernel_rfl) rfl rfl (by simp [Value.oneCell']) (by omega) ?_; intro v1 w1 o1 b1; (have O1 := Lib.hid o1; have B1 := Lib.hid b1; clear o1 b1))
  go_ret
  exact ret_tab (by omega) O1.out B1.out
set_option maxHeartbeats 2000000 in
theorem rbases_any (w : World) : Calls Tryz.prog 83 #[] w (RetTab 39 (fun i => .int .i64 (bs i)) w) := by
  go_enter Tryz.func83, Tryz.ntmps83
  go_wp2_with (at_builtin; refine app_lits rfl _ _ 120 rfl (.int .i64 0) 3 8 Tryz.underlying120 info_int4 rfl w _ _ 19 20 rfl rfl (fun i => .int .i64 (bs i)) (by kernel_rfl) rfl rfl (by simp [Value.oneCell']) (by omega) ?_; intro v1 w1 o1 b1; (have O1 := Lib.hid o1; have B1 := Lib.hid b1; clear o1 b1))
  go_ret
  exact ret_tab (by omega) O1.out B1.out
set_option maxHeartbeats 2000000 in
theorem rcycles_any (w : World) : Calls Tryz.prog 137 #[] w (RetTab 39 (fun i => .int .i64 (cy i)) w) := by
  go_enter Tryz.func137, Tryz.ntmps137
  go_wp2_with (at_builtin; refine app_lits rfl _ _ 120 rfl (.int .i64 0) 3 8 Tryz.underlying120 info_int4 rfl w _ _ 19 20 rfl rfl (fun i => .int .i64 (cy i)) (by kernel_rfl) rfl rfl (by simp [Value.oneCell']) (by omega) ?_; intro v1 w1 o1 b1; (have O1 := Lib.hid o1; have B1 := Lib.hid b1; clear o1 b1))
  go_ret
  exact ret_tab (by omega) O1.out B1.out
end Go.Proofs.YtfndbdcapliclaaGreatDoor

/- Contracts of layer 4: the reference's Of. -/
set_option linter.unusedSimpArgs false
set_option linter.unusedVariables false
namespace Go.Proofs.YtfndbdcapliclaaGreatDoor
open Go.ChangeShapes Go.WideShapes Go.ChangeAt Go.RowKit
theorem rbits_any (k : Int) (w : World) : Calls Tryz.prog 136 #[.int .u8 k] w fun e w' => e = .returned (.int .i64 (bt k)) ∧ w = w' := by
  by_cases h1 : k = 1
  · subst h1
    go_enter Tryz.func136, Tryz.ntmps136
    go_wp2
    go_ret
    exact ⟨rfl, rfl⟩
  by_cases h2 : k = 2
  · subst h2
    go_enter Tryz.func136, Tryz.ntmps136
    go_wp2
    go_ret
    exact ⟨rfl, rfl⟩
  by_cases h3 : k = 3
  · subst h3
    go_enter Tryz.func136, Tryz.ntmps136
    go_wp2
    go_ret
    exact ⟨rfl, rfl⟩
  by_cases h4 : k = 4
  · subst h4
    go_enter Tryz.func136, Tryz.ntmps136
    go_wp2
    go_ret
    exact ⟨rfl, rfl⟩
  have e : 0 = bt k := by unfold bt; rw [if_neg h1, if_neg h2, if_neg h3, if_neg h4]
  have E := Lib.hid e
  have t1 : (k == 1) = false := by rw [beq_eq_false_iff_ne]; exact h1
  have t2 : (k == 2) = false := by rw [beq_eq_false_iff_ne]; exact h2
  have t3 : (k == 3) = false := by rw [beq_eq_false_iff_ne]; exact h3
  have t4 : (k == 4) = false := by rw [beq_eq_false_iff_ne]; exact h4
  clear e h1 h2 h3 h4
  go_enter Tryz.func136, Tryz.ntmps136
  go_wp2
  go_ret
  exact ⟨ret_int E.out, rfl⟩
theorem dec19 (i : Nat) : decide (19 ≤ i) = decide ((19 : Int) ≤ (i : Int)) := by
  by_cases h : 19 ≤ i
  · rw [decide_eq_true h, decide_eq_true (by omega)]
  · rw [decide_eq_false h, decide_eq_false (by omega)]
theorem old6 (j : Nat) (hj : j < 6) (v0 v1 v2 v3 v4 v5 : Value) : (#[v0, v1, v2, v3, v4, v5][j]?).isSome = true := by simp [hj]
set_option maxHeartbeats 4000000 in
theorem rOf_yes (c : Int) (i : Nat) (hi : i < 39) (hc : c - 1 = i) (w : World) :
    Calls Tryz.prog 84 #[.int .u8 c] w fun e w' => e = .returned (.tuple #[.agg #[.int .u8 c, .string (nm i), .bool (decide (19 ≤ i)), .int .u8 (kd i), .int .i64 (bt (kd i)), .int .i64 (cy i)], .int .i64 0]) ∧ Below w.heap.size w w' := by
  have k0 := kd_bd i hi
  have hc2 : 1 ≤ c ∧ c ≤ 39 := by omega
  go_enter Tryz.func84, Tryz.ntmps84
  go_wp2_with (go_at_call 134; refine (rkinds_any _).mono ?_; rintro e w1 ⟨g1, c1, rfl, hg1, hg2, hcell1, hb1⟩; (obtain ⟨hk1, hk2⟩ := bcell hb1); (have cell1 := hcell1 i hi); (have hz1 : w.heap.size < w1.heap.size := by have := hb1.size; simp at this; omega); (have Y1 := Lib.hid hb1); (have X1 := Lib.hid (((Below.refl w.heap.size w).alloc (Nat.le_refl _) _).trans (hb1.mono (by simp)))); clear hcell1 hb1)
  go_region_with (first
    | (go_at_call 135; refine (rNames_any _).mono ?_; rintro e w2 ⟨g2, c2, rfl, hg3, hg4, hcell2, hb2⟩; (replace hb2 := from_drew hb2); (obtain ⟨hn1, hn2⟩ := bcell hb2); (have cell2 := hcell2 i hi); (have hz2 := hb2.size); (have hz3 : w.heap.size < w2.heap.size := by omega); (have Y2 := Lib.hid (Y1.out.trans (hb2.mono Y1.out.size))); (have X2 := Lib.hid (X1.out.trans (hb2.mono X1.out.size))); clear hcell2 hb2)
    | (go_at_call 136; refine (rbits_any _ _).mono ?_; rintro e w1 ⟨rfl, rfl⟩)
    | (go_at_call 137; refine (rcycles_any _).mono ?_; rintro e w3 ⟨g3, c3, rfl, hg5, hg6, hcell3, hb3⟩; (obtain ⟨hm1, hm2⟩ := bcell hb3); (have cell3 := hcell3 i hi); (have hz4 := hb3.size); (have hz5 : w.heap.size < w3.heap.size := by omega); (have Y3 := Lib.hid (Y2.out.trans (hb3.mono Y2.out.size))); (have X3 := Lib.hid (X2.out.trans (hb3.mono X2.out.size))); clear hcell3 hb3))
  all_goals
    go_wp2
    refine ret_struct2 Tryz.results84 Tryz.underlying41 [.int .u8 c, .string (nm i), .bool (decide (19 ≤ i)), .int .u8 (kd i), .int .i64 (bt (kd i)), .int .i64 (cy i)] (by kernel_rfl) w.heap.size rfl ?_ (.int .i64 0) rfl rfl ⟨rfl, ((((((X3.out.setCell (p := ⟨w.heap.size, 0, none⟩) (Nat.le_refl _) _).setCell (p := ⟨w.heap.size, 1, none⟩) (Nat.le_refl _) _).setCell (p := ⟨w.heap.size, 2, none⟩) (Nat.le_refl _) _).setCell (p := ⟨w.heap.size, 3, none⟩) (Nat.le_refl _) _).setCell (p := ⟨w.heap.size, 4, none⟩) (Nat.le_refl _) _).setCell (p := ⟨w.heap.size, 5, none⟩) (Nat.le_refl _) _)⟩
    rw [dec19 i]
    exact set6 (fun j hj => by rw [Y3.out.cell (p := ⟨w.heap.size, j, none⟩) (by simp), World.cell?_alloc_at _ _ _ _ rfl]; exact old6 j hj _ _ _ _ _ _) _ _ _ _ _ _
end Go.Proofs.YtfndbdcapliclaaGreatDoor
