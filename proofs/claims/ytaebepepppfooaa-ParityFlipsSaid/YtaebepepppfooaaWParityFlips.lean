/- The walk of ParityFlips. -/
import Derived.Test.YtaebepepppfooaaL02b
import Derived.Test.YtaebepepppfooaaRow
set_option linter.unusedSimpArgs false
set_option linter.unusedVariables false
namespace Go.Proofs.Ytaebepepppfooaa
open Go.ChangeShapes Go.WideShapes Go.ChangeAt Go.RowKit
/-- The parity after k inversions of one bit each. -/
def parAt (k : Nat) : Bool := k % 2 == 0
theorem parAt_succ (k : Nat) : parAt (k + 1) = !parAt k := by
  unfold parAt
  by_cases c : k % 2 = 0
  · have : (k + 1) % 2 = 1 := by omega
    rw [c, this]; rfl
  · have h : k % 2 = 1 := by omega
    have : (k + 1) % 2 = 0 := by omega
    rw [h, this]; rfl
theorem parAt_test (k : Nat) : ((k : Int) % 2 == 1) = !parAt k := by
  unfold parAt
  by_cases c : k % 2 = 0
  · have : (k : Int) % 2 = 0 := by omega
    rw [c, this]; rfl
  · have h : k % 2 = 1 := by omega
    have : (k : Int) % 2 = 1 := by omega
    rw [h, this]; rfl
set_option maxHeartbeats 4000000 in
theorem parityFlips_some (a : Int) (ha0 : 0 ≤ a) (ha1 : a < 65536) (A : Addr) (len cap : Nat) (f : Nat → Int) (w : World) (m : Nat) (hr : ∀ i, i < m → w.cell? (A.add i) = some (.int .u8 (f i))) (hf : ∀ i, 0 ≤ f i ∧ f i < 256) (hlen : len ≤ cap) (hcap : cap ≤ 9223372036854775807) (hm : (len = m ∧ (len : Int) ≤ 40) ∨ (m = 40 ∧ ¬ (len : Int) ≤ 40)) :
    Calls Try.prog 5 #[.int .u16 a, .slice (some A) len cap] w fun e w' => e = .returned (.bool true) ∧ Below w.heap.size w w' := by
  have pb := pPut_bd a ha0
  have pm := pPut_mod a ha0
  have po := pPut_odds a ha0
  have HR := Lib.hid hr
  have HF := Lib.hid hf
  clear hr hf
  rcases hm with ⟨rfl, h⟩ | ⟨rfl, h⟩
  all_goals
    go_enter Try.func5, Try.ntmps5
    go_wp2_with (first | (go_at_call 15; refine (Put_any _ (by omega) (by omega) _).mono ?_; rintro e w1 ⟨rfl, rfl⟩) | (go_at_call 25; refine (gets_any _ (by omega) (by omega) _ _ (by first | assumption | omega | decide) (by first | assumption | decide) _).mono ?_; rintro e w1 ⟨rfl, rfl⟩))
    have HP := Lib.hid po
    clear po pm
    go_loop [5, 6] (fun s i => ∃ k : Nat, (k : Int) ≤ 40 ∧ k ≤ len ∧ i = .int .i64 k ∧ ∃ x, s = .int .u16 x ∧ 0 ≤ x ∧ x < 65536 ∧ Hid (odds 16 x = parAt k)) (fun _ i => 40 - (intOf i).toNat)
    case atStart => exact ⟨0, by omega, by omega, rfl, _, rfl, pb.1, pb.2, Lib.hid HP.out⟩
    case round =>
      obtain ⟨k, hk, hk2, rfl, x, rfl, hx0, hx1, hp⟩ := hrel
      by_cases hlt : (k : Int) < 40 ∧ k < len
      · obtain ⟨hlt1, hlt2⟩ := hlt
        have hc := HR.out k (by omega)
        obtain ⟨g0, g1⟩ := HF.out k
        obtain ⟨y, hy, hE, hy2, hne, hy0, hy1, ho⟩ := flip_facts x (f k % 16) hx0 hx1 (by omega) (by omega)
        have hne' : (y == x) = false := by rw [beq_eq_false_iff_ne]; exact hne
        have hP := Lib.hid (show odds 16 y = parAt (k + 1) by rw [ho, hp.out, parAt_succ])
        have ho2 : odds 16 y = !parAt k := by rw [ho, hp.out]
        have ht := parAt_test k
        clear ho hne
        go_wp2_with (first | (go_at_call 9; refine (Flip_any _ (by omega) (by omega) _ (by omega) (by omega) _).mono ?_; rintro e w1 ⟨rfl, rfl⟩) | (go_at_call 11; refine (Get_any _ (by omega) (by omega) _).mono ?_; rintro e w1 ⟨rfl, rfl⟩))
        go_round
        case rel => exact ⟨k + 1, by omega, by omega, by go_num, y, rfl, hy0, hy1, hP⟩
        case measure => simp [intOf]; omega
      · have hge : ¬ ((k : Int) < 40 ∧ k < len) := hlt
        first
          | (have hge1 : k = len := by omega
             subst hge1
             go_wp2_with (first | (go_at_call 17; refine (works2_any _).mono ?_; rintro e w1 ⟨rfl, rfl⟩))
             go_ret
             exact ⟨rfl, Below.refl _ _⟩)
          | (have hge1 : (k : Int) = 40 := by omega
             have hge2 : ¬ (k : Int) < 40 := by omega
             clear hge hlt hge1
             go_wp2_with (first | (go_at_call 17; refine (works2_any _).mono ?_; rintro e w1 ⟨rfl, rfl⟩))
             go_ret
             exact ⟨rfl, Below.refl _ _⟩)
set_option maxHeartbeats 4000000 in
theorem parityFlips_nil (a : Int) (ha0 : 0 ≤ a) (ha1 : a < 65536) (A : Option Addr) (cap : Nat) (w : World) (hcap : cap ≤ 9223372036854775807) :
    Calls Try.prog 5 #[.int .u16 a, .slice A 0 cap] w fun e w' => e = .returned (.bool true) ∧ Below w.heap.size w w' := by
  have pb := pPut_bd a ha0
  have pm := pPut_mod a ha0
  have po := pPut_odds a ha0
  go_enter Try.func5, Try.ntmps5
  go_wp2_with (first | (go_at_call 15; refine (Put_any _ (by omega) (by omega) _).mono ?_; rintro e w1 ⟨rfl, rfl⟩) | (go_at_call 25; refine (gets_any _ (by omega) (by omega) _ _ (by first | assumption | omega | decide) (by first | assumption | decide) _).mono ?_; rintro e w1 ⟨rfl, rfl⟩))
  refine wp_loop_rounds 1 ?_
  rw [rounds_succ]
  go_wp2_with (first | (go_at_call 17; refine (works2_any _).mono ?_; rintro e w1 ⟨rfl, rfl⟩))
  go_ret
  exact ⟨rfl, Below.refl _ _⟩
theorem parityFlips_walk (a : Int) (A : Option Addr) (len cap : Nat) (zs : List Int) (w : World) (wa : (Lit.int .u16 a).wf = true)
    (h : (A = none ∧ len = 0 ∧ cap = 0 ∧ zs = []) ∨ ∃ x, A = some x ∧ len ≤ cap ∧ cap ≤ maxLen ∧ zs.length = cap ∧ (∀ i, i < zs.length → w.cell? (x.add i) = some (.int .u8 (zs.getD i 0))) ∧ ∀ n ∈ zs, (Lit.int .u8 n).wf = true) :
    Calls Try.prog 5 #[.int .u16 a, .slice A len cap] w fun e w' => e = .returned (.bool true) ∧ Below w.heap.size w w' := by
  obtain ⟨a0, a1⟩ := bounds_u16 wa
  obtain ⟨hr, h1, h2, h3, h4⟩ := row_of h
  by_cases c : len = 0
  · subst c; exact parityFlips_nil a a0 (by omega) A cap w h2
  · obtain ⟨x, rfl, hc⟩ := hr.open_ (by omega)
    by_cases d : (len : Int) ≤ 40
    · exact parityFlips_some a a0 (by omega) x len cap _ w len hc (getD_u8 h4) h1 h2 (.inl ⟨rfl, d⟩)
    · exact parityFlips_some a a0 (by omega) x len cap _ w 40 (fun i hi => hc i (by omega)) (getD_u8 h4) h1 h2 (.inr ⟨rfl, d⟩)
end Go.Proofs.Ytaebepepppfooaa
