/- Contracts of layer 2: the reference's Bad. -/
import Derived.Test.YtaebepepppfooaaL02d
set_option linter.unusedSimpArgs false
set_option linter.unusedVariables false
namespace Go.Proofs.Ytaebepepppfooaa
open Go.ChangeShapes Go.WideShapes Go.ChangeAt Go.RowKit
set_option maxHeartbeats 2000000 in
theorem rBad_any (A : Option Addr) (n c : Nat) (f : Nat → Int) (w : World) (hr : Row .u16 w A n f) (hf : ∀ i, 0 ≤ f i ∧ f i < 65536) (hn : n ≤ 1000000000) :
    Calls Try.prog 23 #[.slice A n c] w (RetOwn .i64 3 (badL f n) w) := by
  have HF := Lib.hid hf
  clear hf
  obtain ⟨HR, hA⟩ := rowCase hr
  clear hr
  rcases hA with H0 | ⟨a, rfl⟩
  all_goals
    go_enter Try.func23, Try.ntmps23
    go_wp2
    go_loopw [3, 4] (fun o i wr => ∃ k : Nat, k ≤ n ∧ i = .int .i64 k ∧ Own .i64 3 wr w.heap.size o (badL f k) ∧ Below w.heap.size w wr) (fun _ i _ => n - (intOf i).toNat)
    case atStart => exact ⟨0, by omega, rfl, Own.nil _ _ _ _, Below.refl _ _⟩
    case round =>
      obtain ⟨k, hk, rfl, hown, hb⟩ := hrel
      by_cases hlt : k < n
      · first
          | (exfalso; have := H0.out; omega)
          | (have hc := (HR.out.below hb (Nat.le_refl _)).at_ hlt
             obtain ⟨g0, g1⟩ := HF.out k
             have hz := hb.size
             have hl := badL_len f k
             have HB := Lib.hid hb
             have HO := Lib.hid hown
             clear hb hown
             by_cases ho : odds 16 (f k) = true
             · have HS := Lib.hid (badL_good f k ho)
               go_wp2_with (first | (go_at_call 12; refine (rGet_any _ (by omega) (by omega) _).mono ?_; rintro e w1 ⟨rfl, rfl⟩))
               go_roundw
               case rel => exact ⟨k + 1, by omega, by go_num, by rw [HS.out]; exact HO.out, HB.out⟩
               case measure => simp [intOf]; omega
             · have ho' : odds 16 (f k) = false := by simpa using ho
               have HS := Lib.hid (badL_bad f k ho')
               clear ho
               go_wp2_with (first | (go_at_call 12; refine (rGet_any _ (by omega) (by omega) _).mono ?_; rintro e w1 ⟨rfl, rfl⟩) | (at_builtin; refine app_one rfl _ _ 39 rfl .i64 3 8 Try.underlying39 info_int w _ w.heap.size _ (badL f k) _ HO.out rfl rfl (by omega) HB.out hz ?_; intro v' w' hown' hb' hz'; (have HO' := Lib.hid hown'; have HB' := Lib.hid hb'; clear hown' hb')))
               go_roundw
               case rel => exact ⟨k + 1, by omega, by go_num, by rw [HS.out]; exact HO'.out, HB'.out⟩
               case measure => simp [intOf]; omega)
      · have e : k = n := by omega
        subst e
        have HB := Lib.hid hb
        have HO := Lib.hid hown
        clear hb hown
        go_wp2
        go_ret
        exact ⟨_, rfl, HO.out, HB.out⟩
theorem badL_split (f : Nat → Int) (i n : Nat) (h : i ≤ n) : ∃ r, badL f n = badL f i ++ r := by
  induction n with
  | zero => exact ⟨[], by have : i = 0 := by omega
                          subst this; rfl⟩
  | succ n ih =>
    by_cases c : i = n + 1
    · exact ⟨[], by rw [c]; simp⟩
    · obtain ⟨r, hr⟩ := ih (by omega)
      by_cases d : odds 16 (f n) = true
      · exact ⟨r, by rw [badL_good f n d, hr]⟩
      · exact ⟨r ++ [(n : Int)], by rw [badL_bad f n (by simpa using d), hr, List.append_assoc]⟩
/-- The next index that Bad names, and that there is one. -/
theorem badL_next (f : Nat → Int) (i n : Nat) (h : i < n) (ho : odds 16 (f i) = false) : (badL f i).length < (badL f n).length ∧ (badL f n).getD (badL f i).length 0 = (i : Int) := by
  obtain ⟨r, hr⟩ := badL_split f (i + 1) n h
  rw [badL_bad f i ho] at hr
  constructor
  · rw [hr]; simp
  · rw [hr, List.getD_eq_getElem?_getD]; simp
end Go.Proofs.Ytaebepepppfooaa
