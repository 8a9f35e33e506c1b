/- The walk of MemoryKnown. -/
import Derived.Test.YtamjknckgaffpaaL03f
import Derived.Deep.RegionWith
import Derived.Deep.DeepCutAuto
set_option linter.unusedSimpArgs false
set_option linter.unusedVariables false
namespace Go.Proofs.Ytamjknckgaffpaa
open Go.ChangeShapes Go.WideShapes Go.ChangeAt Go.RowKit
/-- How many of the values of the bank registers before (s, f) select a bank. -/
def bkC (s f : Nat) : Nat := (if s ≤ 4 then 32 * s else 128 + 28 * (s - 4)) + (if s < 4 then f else if f ≤ 28 then f else 28)
theorem bkC_bd (s f : Nat) (hs : s ≤ 8) (hf : f ≤ 32) : bkC s f ≤ 300 := by unfold bkC; (repeat' split) <;> omega
theorem bkC_next (s : Nat) (hs : s < 8) : bkC s 32 = bkC (s + 1) 0 := by unfold bkC; (repeat' split) <;> omega
theorem bkC_in (s f : Nat) (h : s < 4 ∨ f < 28) (hf : f < 32) : bkC s (f + 1) = bkC s f + 1 := by unfold bkC; (repeat' split) <;> omega
theorem bkC_out (s f : Nat) (h : ¬ s < 4) (hf : 28 ≤ f) : bkC s (f + 1) = bkC s f := by unfold bkC; (repeat' split) <;> omega
theorem bkC_all : bkC 8 0 = 240 := by decide
def bk1 (a : Option Addr) : BankF := { num := fun _ => 1, wa := fun _ => a, wn := fun _ => 2, wc := fun _ => 2, wf := fun _ i => ([5, 6] : List Int).getD i 0 }
def bk2 (a : Option Addr) : BankF := { num := fun _ => 1, wa := fun i => if i = 0 then a else none, wn := fun i => if i = 0 then 1 else 0, wc := fun i => if i = 0 then 1 else 0, wf := fun _ i => ([5] : List Int).getD i 0 }
def bk3 : BankF := { num := fun _ => 36, wa := fun _ => none, wn := fun _ => 0, wc := fun _ => 0, wf := fun _ _ => 0 }
theorem getD56 (i : Nat) : 0 ≤ ([5, 6] : List Int).getD i 0 ∧ ([5, 6] : List Int).getD i 0 ≤ 6 := by rcases i with _|_|i <;> simp
theorem getD5 (i : Nat) : 0 ≤ ([5] : List Int).getD i 0 ∧ ([5] : List Int).getD i 0 ≤ 6 := by rcases i with _|i <;> simp
theorem bk1_fits (a : Option Addr) : (bk1 a).Fits := ⟨fun _ => by simp [bk1], fun _ k => by have := getD56 k; show 0 ≤ ([5, 6] : List Int).getD k 0 ∧ ([5, 6] : List Int).getD k 0 < 65536; omega, fun _ => by simp [bk1]⟩
theorem bk2_fits (a : Option Addr) : (bk2 a).Fits := ⟨fun _ => by simp [bk2], fun _ k => by have := getD5 k; show 0 ≤ ([5] : List Int).getD k 0 ∧ ([5] : List Int).getD k 0 < 65536; omega, fun i => by show (if i = 0 then 1 else 0) ≤ 9223372036854775807; split <;> omega⟩
theorem bk3_fits : bk3.Fits := ⟨fun _ => by simp [bk3], fun _ _ => by simp [bk3], fun _ => by simp [bk3]⟩
theorem bk1_ok (a : Option Addr) : banksOk (bk1 a) 1 := fun i hi => by
  have e : i = 0 := by omega
  subst e
  exact chk_ok (by simp [bk1]) (fun k hk => by omega) (by simp [bk1]) (fun k _ => by have := getD56 k; show ([5, 6] : List Int).getD k 0 ≤ 32767; omega)
theorem bk2_ok (a : Option Addr) : banksOk (bk2 a) 1 := fun i hi => by
  have e : i = 0 := by omega
  subst e
  exact chk_ok (by simp [bk2]) (fun k hk => by omega) (by simp [bk2]) (fun k _ => by have := getD5 k; show ([5] : List Int).getD k 0 ≤ 32767; omega)
theorem bk2_bad (a : Option Addr) : chk (bk2 a) 1 = 8 := chk_dup (by simp [bk2]) 0 (by omega) (by simp [bk2])
theorem bk3_bad : chk bk3 0 = 3 := chk_range (by simp [bk3])
theorem bk1_vals (a : Option Addr) : fixF (bk1 a) 1 1024 = pPut 5 ∧ fixF (bk1 a) 1 1025 = pPut 6 ∧ fixF (bk1 a) 1 1026 = 32768 := by
  refine ⟨?_, ?_, ?_⟩ <;> rw [fixF_succ] <;> unfold fixW <;> simp [bk1, fixF]
def kq (i : Nat) : Int := if i = 0 then 1 else 2
def kp (i : Nat) : Int := if i = 0 then 0 else 1
theorem kq_bd (i : Nat) : 0 ≤ kq i ∧ kq i < 65536 := by unfold kq; split <;> omega
theorem kp_bd (i : Nat) : -9223372036854775808 ≤ kp i ∧ kp i ≤ 9223372036854775807 := by unfold kp; split <;> omega
theorem kap1 : cellsOk 1 (fun _ => 0) 2 := fun i hi => ⟨by simp, by simp⟩
theorem kap2 : ¬ cellsOk 1 kp 2 := fun h => by have := (h 1 (by omega)).2; simp [kp] at this
theorem kap3 (f : Nat → Int) : lst 1 (applyF f (fun _ => 0) kq 2) = [2] := by
  have e : pPut 2 = 2 := by decide
  simp [lst, applyF, kq, e]

theorem kknown : mWriteL 2 (fun i => ([32768, 0] : List Int).getD i 0) 1 3 = [32768, 32771] ∧ mWriteE 2 1 = 0 ∧ pPut 2 = 2 := by decide
set_option maxRecDepth 100000 in
set_option maxHeartbeats 8000000 in
theorem memoryKnown_walk (w : World) :
    Calls Try.prog 9 #[] w fun e w' => e = .returned (.bool true) ∧ Below w.heap.size w w' := by
  go_enter Try.func9, Try.ntmps9
  go_wp2
  go_loop [1, 2] (fun c i => ∃ s : Nat, s ≤ 8 ∧ i = .int .i64 s ∧ c = .int .i64 (bkC s 0 : Nat)) (fun _ i => 8 - (intOf i).toNat)
  case atStart => exact ⟨0, by omega, rfl, rfl⟩
  case round =>
    obtain ⟨s, hs, rfl, rfl⟩ := hrel
    by_cases hlt : s < 8
    · have NX := Lib.hid (bkC_next s hlt)
      go_wp2
      go_loop [1, 3] (fun c i => ∃ f : Nat, f ≤ 32 ∧ i = .int .i64 f ∧ c = .int .i64 (bkC s f : Nat)) (fun _ i => 32 - (intOf i).toNat)
      case atStart => exact ⟨0, by omega, rfl, rfl⟩
      case round =>
        obtain ⟨f, hf, rfl, rfl⟩ := hrel
        have hb := bkC_bd s f hs hf
        by_cases hfl : f < 32
        · by_cases h1 : s < 4
          · have hv : mBankV f s = f := by unfold mBankV; rw [if_pos (by omega), if_neg (by omega)]
            have he : mBankE f s = 0 := by unfold mBankE; rw [if_pos (by omega), if_neg (by omega)]
            have HS := Lib.hid (bkC_in s f (.inl h1) hfl)
            go_wp2_with (first | (go_at_call 10; refine (Bank_any _ _ (by omega) (by omega) (by omega) (by omega) _).mono ?_; rintro e w1 ⟨rfl, rfl⟩))
            go_round
            case rel => exact ⟨f + 1, by omega, by go_num, by rw [HS.out]; go_num⟩
            case measure => simp [intOf]; omega
          · by_cases h2 : f < 24
            · have hv : mBankV f s = f := by unfold mBankV; rw [if_pos (by omega), if_neg (by omega)]
              have he : mBankE f s = 0 := by unfold mBankE; rw [if_pos (by omega), if_neg (by omega)]
              have HS := Lib.hid (bkC_in s f (.inr (by omega)) hfl)
              go_wp2_with (first | (go_at_call 10; refine (Bank_any _ _ (by omega) (by omega) (by omega) (by omega) _).mono ?_; rintro e w1 ⟨rfl, rfl⟩))
              go_round
              case rel => exact ⟨f + 1, by omega, by go_num, by rw [HS.out]; go_num⟩
              case measure => simp [intOf]; omega
            · by_cases h3 : f < 28
              · obtain ⟨v, e8⟩ : ∃ v : Nat, (f : Int) + 8 = v := ⟨f + 8, by omega⟩
                have hv : mBankV f s = v := by unfold mBankV; rw [if_pos (by omega), if_pos (by omega), if_pos (by omega)]; exact e8
                have v36 : (v : Int) < 36 := by omega
                have he : mBankE f s = 0 := by unfold mBankE; rw [if_pos (by omega), if_pos (by omega), if_pos (by omega)]
                have HS := Lib.hid (bkC_in s f (.inr h3) hfl)
                go_wp2_with (first | (go_at_call 10; refine (Bank_any _ _ (by omega) (by omega) (by omega) (by omega) _).mono ?_; rintro e w1 ⟨rfl, rfl⟩))
                go_round
                case rel => exact ⟨f + 1, by omega, by go_num, by rw [HS.out]; go_num⟩
                case measure => simp [intOf]; omega
              · have hv : mBankV f s = 0 := by unfold mBankV; rw [if_pos (by omega), if_pos (by omega), if_neg (by omega)]
                have he : mBankE f s = 3 := by unfold mBankE; rw [if_pos (by omega), if_pos (by omega), if_neg (by omega)]
                have HS := Lib.hid (bkC_out s f h1 (by omega))
                go_wp2_with (first | (go_at_call 10; refine (Bank_any _ _ (by omega) (by omega) (by omega) (by omega) _).mono ?_; rintro e w1 ⟨rfl, rfl⟩))
                go_round
                case rel => exact ⟨f + 1, by omega, by go_num, by rw [HS.out]⟩
                case measure => simp [intOf]; omega
        · have e : f = 32 := by omega
          subst e
          go_wp2
          go_round
          case rel => exact ⟨s + 1, by omega, by go_num, by rw [NX.out]⟩
          case measure => simp [intOf]; omega
    · have e : s = 8 := by omega
      subst e
      rw [bkC_all]
      clear hs hlt
      go_wp2_with fail
      have r1 := (row_lit .u16 w [5, 6] 43).below (((Below.refl _ _).alloc (Nat.le_refl _) (.cells #[.int .i64 1, .slice (some ⟨w.heap.size, 0, none⟩) 2 2] 64))) (Nat.le_refl _)
      refine (Fixed_any _ 1 1 (bk1 (some ⟨w.heap.size, 0, none⟩)) _ (banks_lit1 (World.cell?_alloc_at _ _ _ _ (by simp)) (World.cell?_alloc_at _ _ _ _ (by simp)) r1) (bk1_fits _) (by omega)).mono ?_
      rw [(mFix_ok (bk1_ok _)).1, (mFix_ok (bk1_ok _)).2]
      clear r1
      rintro e w1 ⟨v1, rfl, o1, b1⟩
      obtain ⟨g1, c1, rfl, _, oa1⟩ := Arr.mk_own o1 (by omega)
      replace b1 := (((Below.refl w.heap.size w).alloc (Nat.le_refl _) _).alloc (by simp) _).trans (b1.mono (by simp; omega))
      have B1 := Lib.hid b1
      have O1 := Lib.hid oa1
      clear o1 b1 oa1
      go_wp2_with fail
      have r2 := (row_lit .u16 w1 [5] 43).below (((Below.refl _ _).alloc (Nat.le_refl _) (.cells #[.int .i64 1, .slice (some ⟨w1.heap.size, 0, none⟩) 1 1, .int .i64 1, .slice none 0 0] 64))) (Nat.le_refl _)
      refine (Fixed_any _ 2 2 (bk2 (some ⟨w1.heap.size, 0, none⟩)) _ (banks_lit2 (World.cell?_alloc_at _ _ _ _ (by simp)) (World.cell?_alloc_at _ _ _ _ (by simp)) r2 (World.cell?_alloc_at _ _ _ _ (by simp)) (World.cell?_alloc_at _ _ _ _ (by simp)) Row.nil) (bk2_fits _) (by omega)).mono ?_
      rw [(mFix_bad (show 1 < 2 by omega) (by rw [bk2_bad]; omega) (bk2_ok _)).1, (mFix_bad (show 1 < 2 by omega) (by rw [bk2_bad]; omega) (bk2_ok _)).2, bk2_bad]
      clear r2
      rintro e w2 ⟨v2, rfl, o2, b2⟩
      replace b2 := (((Below.refl w1.heap.size w1).alloc (Nat.le_refl _) _).alloc (by simp) _).trans (b2.mono (by simp; omega))
      have O2 := Lib.hid (O1.out.below b2 (Nat.le_refl _))
      have B2 := Lib.hid (B1.out.trans (b2.mono B1.out.size))
      clear o2 b2 O1 B1
      go_wp2_with fail
      refine (Fixed_any _ 1 1 bk3 _ (banks_lit1 (World.cell?_alloc_at _ _ _ _ rfl) (World.cell?_alloc_at _ _ _ _ rfl) Row.nil) bk3_fits (by omega)).mono ?_
      rw [(mFix_bad (show 0 < 1 by omega) (by rw [bk3_bad]; omega) (fun i hi => by omega)).1, (mFix_bad (show 0 < 1 by omega) (by rw [bk3_bad]; omega) (fun i hi => by omega)).2, bk3_bad]
      rintro e w3 ⟨v3, rfl, o3, b3⟩
      replace b3 := ((Below.refl w2.heap.size w2).alloc (Nat.le_refl _) _).trans (b3.mono (by simp))
      have O3 := O2.out.below b3 (Nat.le_refl _)
      have B3 := Lib.hid (B2.out.trans (b3.mono B2.out.size))
      clear o3 b3 O2 B2
      have p1 := O3.cell (show 1024 < 36864 by omega)
      have p2 := O3.cell (show 1025 < 36864 by omega)
      have p3 := O3.cell (show 1026 < 36864 by omega)
      rw [(bk1_vals _).1] at p1
      rw [(bk1_vals _).2.1] at p2
      rw [(bk1_vals _).2.2] at p3
      clear O3
      go_wp2
      go_quiet ((go_at_call 34; exact quiet_left (Put_any _ (by omega) (by omega) _)))
      go_wp2_with fail
      clear p1 p2 p3
      obtain ⟨kw1, kw2, kw3⟩ := kknown
      refine (Write_any _ 2 2 _ _ (row_litAt .u16 _ [32768, 0] _ _ (by simp)) (by omega) 1 (by omega) (by omega) 3 (by omega) (by omega)).mono ?_
      rw [kw1, kw2]
      rintro e w4 ⟨v4, rfl, o4, b4⟩
      replace b4 := from_drewN (((Below.refl (w3.drewN nq).heap.size (w3.drewN nq)).alloc (Nat.le_refl _) _).trans (b4.mono (by simp)))
      have B4 := Lib.hid (below_from (show Below w.heap.size w w3 from B3.out) b4)
      obtain ⟨g4, c4, rfl, _, _⟩ := o4.form (by simp)
      have O4 := Lib.hid o4
      clear o4 b4 B3 kw1 kw2
      simp only [List.length_cons, List.length_nil, Nat.zero_add, Nat.reduceAdd]
      go_wp2_with fail
      have r5 := (row_lit .u16 w4 [32768] 58).below (((Below.refl _ _).alloc (Nat.le_refl _) (.cells #[.int .i64 0, .int .u16 1, .int .i64 0, .int .u16 2] 48))) (Nat.le_refl _)
      refine (Apply_any _ 1 1 _ 2 2 _ (fun _ => 0) kq _ r5 (fun h => by cases h) (cells_lit2 (World.cell?_alloc_at _ _ _ _ (by simp)) (World.cell?_alloc_at _ _ _ _ (by simp)) (World.cell?_alloc_at _ _ _ _ (by simp)) (World.cell?_alloc_at _ _ _ _ (by simp))) (fun _ => ⟨by simp, by simp⟩) kq_bd (by omega) (by omega)).mono ?_
      clear r5
      rw [(mApply_ok _ _ kap1).1, (mApply_ok (fun _ => 0) (fun _ => 0) kap1).2, kap3]
      rintro e w5 ⟨v5, rfl, o5, b5⟩
      replace b5 := (((Below.refl w4.heap.size w4).alloc (Nat.le_refl _) _).alloc (by simp) _).trans (b5.mono (by simp; omega))
      have B5 := Lib.hid (below_from B4.out b5)
      obtain ⟨g5, c5, rfl, _, _⟩ := o5.form (by simp)
      have O5 := Lib.hid o5
      have O45 := Lib.hid (O4.out.below b5 (Nat.le_refl _))
      clear o5 b5 B4 O4
      simp only [List.length_cons, List.length_nil, Nat.zero_add, Nat.reduceAdd]
      go_wp2_with fail
      have r6 := (row_lit .u16 w5 [32768] 58).below (((Below.refl _ _).alloc (Nat.le_refl _) (.cells #[.int .i64 0, .int .u16 1, .int .i64 1, .int .u16 2] 48))) (Nat.le_refl _)
      refine (Apply_any _ 1 1 _ 2 2 _ kp kq _ r6 (fun h => by cases h) (cells_lit2 (World.cell?_alloc_at _ _ _ _ (by simp)) (World.cell?_alloc_at _ _ _ _ (by simp)) (World.cell?_alloc_at _ _ _ _ (by simp)) (World.cell?_alloc_at _ _ _ _ (by simp))) kp_bd kq_bd (by omega) (by omega)).mono ?_
      clear r6
      rw [(mApply_bad _ _ kap2).1, (mApply_bad (fun _ => 0) (fun _ => 0) kap2).2]
      rintro e w6 ⟨v6, rfl, o6, b6⟩
      replace b6 := (((Below.refl w5.heap.size w5).alloc (Nat.le_refl _) _).alloc (by simp) _).trans (b6.mono (by simp; omega))
      have B6 := Lib.hid (below_from B5.out b6)
      have O56 := O5.out.below b6 (Nat.le_refl _)
      have O46 := O45.out.below b6 (Nat.le_refl _)
      have p1 : w6.cell? ⟨g4, 0, none⟩ = some (.int .u16 32768) := O46.cell (by simp)
      have p2 : w6.cell? ⟨g4, 1, none⟩ = some (.int .u16 32771) := O46.cell (by simp)
      have p3 : w6.cell? ⟨g5, 0, none⟩ = some (.int .u16 2) := O56.cell (by simp)
      clear o6 b6 B5 O5 O45 O56 O46
      go_wp2_with fail
      refine (Words3_any none 0 _ (fun _ => 0) _ Row.nil (fun _ => ⟨by omega, by omega⟩) (by omega)).mono ?_
      rintro e w7 ⟨v7, rfl, o7, b7⟩
      obtain ⟨A7, c7, rfl, _, _, _⟩ := o7.row
      have B7 := Lib.hid (below_from B6.out b7)
      clear o7 b7 B6 p1 p2 p3
      simp only [wordsL, lst_len]
      obtain ⟨y1, y2, y3, y4, y5, y6, y7⟩ := klead
      obtain ⟨z1, z2, z3, z4, z5, z6, z7, z8, z9, z10, z11, z12, z13, z14⟩ := koper
      go_wp2_with (first | (go_at_call 12; refine (Absolute_any _ _ _ (by omega) (by omega) (by omega) (by omega) (by omega) (by omega) _).mono ?_; rintro e w1 ⟨rfl, rfl⟩) | (go_at_call 31; refine (leads_any _ _ _ _ _ (by omega) (by omega) (by omega) (by omega) (by omega) (by omega) _).mono ?_; rintro e w1 ⟨rfl, rfl⟩) | (go_at_call 35; refine (operand_any _ _ _ _ _ _ (by omega) (by omega) (by omega) (by omega) (by omega) (by omega) (by first | assumption | decide) (by first | assumption | decide) _).mono ?_; rintro e w1 ⟨rfl, rfl⟩))
      refine (works3_any _).mono ?_
      rintro e w8 ⟨rfl, b8⟩
      have B8 := Lib.hid (below_from B7.out b8)
      clear b8
      go_wp2
      go_ret
      exact ⟨rfl, B8.out⟩
end Go.Proofs.Ytamjknckgaffpaa
