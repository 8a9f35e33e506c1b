/- Contracts of layer 2, the functions on lists. -/
import Derived.Test.YtamjknckgaffpaaL02b
import Derived.Test.YtamjknckgaffpaaApp
set_option linter.unusedSimpArgs false
set_option linter.unusedVariables false
namespace Go.Proofs.Ytamjknckgaffpaa
open Go.ChangeShapes Go.WideShapes Go.ChangeAt Go.RowKit
def allL (f : Nat → Int) (n : Nat) : List Int := (List.range n).map (fun i => pPut (f i))
def badL (f : Nat → Int) (n : Nat) : List Int := ((List.range n).filter (fun (i : Nat) => !odds 16 (f i))).map (fun (i : Nat) => (i : Int))
theorem allL_zero (f : Nat → Int) : allL f 0 = [] := rfl
theorem allL_len (f : Nat → Int) (n : Nat) : (allL f n).length = n := by simp [allL]
theorem allL_succ (f : Nat → Int) (n : Nat) : allL f (n + 1) = allL f n ++ [pPut (f n)] := by simp [allL, List.range_succ]
theorem allL_get (f : Nat → Int) (n : Nat) : ∀ i, i < n → (allL f n).getD i 0 = pPut (f i) := fun i hi => by simp [allL, List.getD_eq_getElem?_getD, hi]
theorem badL_zero (f : Nat → Int) : badL f 0 = [] := rfl
theorem badL_len (f : Nat → Int) (n : Nat) : (badL f n).length ≤ n := by
  unfold badL; rw [List.length_map]; exact Nat.le_trans (List.length_filter_le _ _) (by simp)
theorem badL_bad (f : Nat → Int) (n : Nat) (h : odds 16 (f n) = false) : badL f (n + 1) = badL f n ++ [(n : Int)] := by simp [badL, List.range_succ, List.filter_append, h]
theorem badL_good (f : Nat → Int) (n : Nat) (h : odds 16 (f n) = true) : badL f (n + 1) = badL f n := by simp [badL, List.range_succ, List.filter_append, h]
theorem badL_put (f : Nat → Int) (n : Nat) (hf : ∀ i, 0 ≤ f i ∧ f i < 65536) : badL (fun i => pPut (f i)) n = [] := by
  induction n with
  | zero => rfl
  | succ n ih => rw [badL_good (fun i => pPut (f i)) n (pPut_odds (f n) (hf n).1), ih]
theorem info_stored : (Try.prog.info? 58).map (fun i => (i.zero, i.size, i.bytes)) = some (some (.int .u16 0), 1, 2) := by kernel_rfl
theorem info_int : (Try.prog.info? 3).map (fun i => (i.zero, i.size, i.bytes)) = some (some (.int .i64 0), 1, 8) := by kernel_rfl
theorem info_word : (Try.prog.info? 43).map (fun i => (i.zero, i.size, i.bytes)) = some (some (.int .u16 0), 1, 2) := by kernel_rfl
theorem info_bool : (Try.prog.info? 4).map (fun i => (i.zero, i.size, i.bytes)) = some (some (.bool false), 1, 1) := by kernel_rfl
set_option maxHeartbeats 2000000 in
theorem rSame_any (A B : Option Addr) (n c d : Nat) (f g : Nat → Int) (w : World) (ha : Row .u16 w A n f) (hb : Row .u16 w B n g) (he : ∀ i, i < n → f i = g i) (hn : n ≤ 4611686018427387904) :
    Calls Try.prog 19 #[.slice A n c, .slice B n d] w fun e w' => e = .returned (.bool true) ∧ ∃ m, w' = w.drewN m := by
  obtain ⟨HA, hA⟩ := rowCase ha
  obtain ⟨HB, hB⟩ := rowCase hb
  have HE := Lib.hid he
  clear ha hb he
  rcases hA with H0 | ⟨a, rfl⟩ <;> rcases hB with H1 | ⟨b, rfl⟩
  all_goals
    go_enter Try.func19, Try.ntmps19
    go_wp2
    go_loopw [5] (fun i wr => ∃ k : Nat, k ≤ n ∧ i = .int .i64 k ∧ ∃ m, wr = w.drewN m) (fun i _ => n - (intOf i).toNat)
    case atStart => exact ⟨0, Nat.zero_le _, rfl, 0, rfl⟩
    case round =>
      obtain ⟨k, hk, rfl, m, rfl⟩ := hrel
      by_cases hlt : k < n
      · first
          | (exfalso; have := H0.out; omega)
          | (exfalso; have := H1.out; omega)
          | (have ca := HA.out.at_ hlt
             have cb := HB.out.at_ hlt
             rw [← HE.out k hlt] at cb
             go_wp2
             go_quiet (fail)
             go_wp2
             go_roundw
             case rel => exact ⟨k + 1, by omega, by go_num, _, rfl⟩
             case measure => simp [intOf]; omega)
      · have e : k = n := by omega
        subst e
        go_wp2
        go_ret
        exact ⟨rfl, m, rfl⟩
set_option maxHeartbeats 2000000 in
theorem rWords_any (A B : Option Addr) (n c d : Nat) (f g : Nat → Int) (w : World) (ha : Row .u16 w A n f) (hb : Row .u16 w B n g) (he : ∀ i, i < n → f i = g i) (hn : n ≤ 4611686018427387904) :
    Calls Try.prog 28 #[.slice A n c, .slice B n d] w fun e w' => e = .returned (.bool true) ∧ ∃ m, w' = w.drewN m := by
  obtain ⟨HA, hA⟩ := rowCase ha
  obtain ⟨HB, hB⟩ := rowCase hb
  have HE := Lib.hid he
  clear ha hb he
  rcases hA with H0 | ⟨a, rfl⟩ <;> rcases hB with H1 | ⟨b, rfl⟩
  all_goals
    go_enter Try.func28, Try.ntmps28
    go_wp2
    go_loopw [5] (fun i wr => ∃ k : Nat, k ≤ n ∧ i = .int .i64 k ∧ ∃ m, wr = w.drewN m) (fun i _ => n - (intOf i).toNat)
    case atStart => exact ⟨0, Nat.zero_le _, rfl, 0, rfl⟩
    case round =>
      obtain ⟨k, hk, rfl, m, rfl⟩ := hrel
      by_cases hlt : k < n
      · first
          | (exfalso; have := H0.out; omega)
          | (exfalso; have := H1.out; omega)
          | (have ca := HA.out.at_ hlt
             have cb := HB.out.at_ hlt
             rw [← HE.out k hlt] at cb
             go_wp2
             go_quiet (fail)
             go_wp2
             go_roundw
             case rel => exact ⟨k + 1, by omega, by go_num, _, rfl⟩
             case measure => simp [intOf]; omega)
      · have e : k = n := by omega
        subst e
        go_wp2
        go_ret
        exact ⟨rfl, m, rfl⟩
def allAt (f : Nat → Int) (k i : Nat) : Int := if i < k then pPut (f i) else 0
theorem allAt_zero (f : Nat → Int) (n : Nat) : List.replicate n (0 : Int) = lst n (allAt f 0) := by rw [lst_replicate]; rfl
theorem allAt_succ (f : Nat → Int) (n k : Nat) : (lst n (allAt f k)).set k (pPut (f k)) = lst n (allAt f (k + 1)) := by
  rw [lst_set]
  apply lst_congr
  intro i hi
  unfold allAt
  by_cases c : i = k
  · subst c; rw [if_pos rfl, if_pos (by omega)]
  · rw [if_neg c]
    by_cases d : i < k
    · rw [if_pos d, if_pos (by omega)]
    · rw [if_neg d, if_neg (by omega)]
theorem allAt_full (f : Nat → Int) (n : Nat) : lst n (allAt f n) = allL f n := by
  unfold allL
  apply lst_congr
  intro i hi
  unfold allAt
  rw [if_pos hi]
set_option maxHeartbeats 2000000 in
theorem All_any (A : Option Addr) (n c : Nat) (f : Nat → Int) (w : World) (hr : Row .u16 w A n f) (hf : ∀ i, 0 ≤ f i ∧ f i < 65536) (hn : n ≤ 1000000000) :
    Calls Try.prog 32 #[.slice A n c] w (RetOwn .u16 58 (allL f n) w) := by
  have HF := Lib.hid hf
  clear hf
  obtain ⟨HR, hA⟩ := rowCase hr
  clear hr
  rcases hA with H0 | ⟨a, rfl⟩
  all_goals
    go_enter Try.func32, Try.ntmps32
    go_wp2_with (at_make; refine make_full w w rfl _ _ 35 rfl .u16 58 2 Try.underlying35 info_stored w.heap.size n rfl rfl (by omega) (by omega) (Below.refl _ _) (Nat.le_refl _) ?_; intro w1 hown hb hlt; (have HO := Lib.hid hown; have HB := Lib.hid hb; clear hown hb))
    go_loopw [11] (fun i wr => ∃ k : Nat, k ≤ n ∧ i = .int .i64 k ∧ Own .u16 58 wr w.heap.size (.slice (some ⟨w.heap.size, 0, none⟩) n n) (lst n (allAt f k)) ∧ Below w.heap.size w wr) (fun i _ => n - (intOf i).toNat)
    case atStart => exact ⟨0, by omega, rfl, by rw [← allAt_zero]; exact HO.out, HB.out⟩
    case round =>
      obtain ⟨k, hk, rfl, hown, hb⟩ := hrel
      by_cases hlt : k < n
      · first
          | (exfalso; have := H0.out; omega)
          | (have hc := (HR.out.below hb (Nat.le_refl _)).at_ hlt
             obtain ⟨g0, g1⟩ := HF.out k
             have hl := lst_len n (allAt f k)
             have hcell : wr.cell? ⟨w.heap.size, k, none⟩ = some (.int .u16 ((lst n (allAt f k)).getD k 0)) := Own.cell (c := n) (by rw [hl]; exact hown) (by omega)
             have hfree : wr.frozen? ⟨w.heap.size, k, none⟩ = false := Own.free (c := n) (l := lst n (allAt f k)) (by rw [hl]; exact hown) k
             have hset := Own.set (c := n) (l := lst n (allAt f k)) (by rw [hl]; exact hown) k (pPut (f k))
             rw [allAt_succ, hl] at hset
             have HS := Lib.hid hset
             have HB2 := Lib.hid (hb.setCell (p := ⟨w.heap.size, k, none⟩) (Nat.le_refl _) (.int .u16 (pPut (f k))))
             clear hb hown hset hl
             go_wp2_with (first | (go_at_call 34; refine (Put_any _ (by omega) (by omega) _).mono ?_; rintro e w1 ⟨rfl, rfl⟩))
             go_roundw
             case rel => exact ⟨k + 1, by omega, by go_num, HS.out, HB2.out⟩
             case measure => simp [intOf]; omega)
      · have e : k = n := by omega
        subst e
        have HB2 := Lib.hid hb
        have HO2 := Lib.hid hown
        clear hb hown
        go_wp2
        go_ret
        exact ⟨_, rfl, by rw [← allAt_full]; unfold Own; rw [lst_len]; exact (by have := HO2.out; unfold Own at this; rw [lst_len] at this; exact this), HB2.out⟩
end Go.Proofs.Ytamjknckgaffpaa
