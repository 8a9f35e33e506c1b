/- Contracts of layer 6: After of both; lists that are compared. -/
import Derived.Test.YteongalbljdjlaaL06
import Derived.Deep.RegionWith
import Derived.Deep.QuietTactic
set_option linter.unusedSimpArgs false
set_option linter.unusedVariables false
set_option maxRecDepth 100000
namespace Go.Proofs.Yteongalbljdjlaa
open Go.ChangeShapes Go.WideShapes Go.ChangeAt Go.RowKit
def aL (at_ s : Int) : List (Int × Int) := if at_ = 21 ∧ s = 1 then [(20, 1)] else []
def aI (at_ k s : Int) : Int := if at_ = 25 ∧ k = 5 ∧ s = 0 then 1 else if s = 1 then (if at_ = 22 then 3 else if at_ = 23 then 4 else if at_ = 24 then 2 else if at_ = 37 then 7 else 0) else 0
def oI (at_ : Int) : Int := if at_ = 22 then 3 else if at_ = 23 then 4 else if at_ = 24 then 2 else if at_ = 37 then 7 else 0
def AftRet (L : List (Int × Int)) (i : Int) (w : World) (e : Ending) (w' : World) : Prop := ∃ vl, e = .returned (.tuple #[vl, .int .i64 i]) ∧ OwnP .i64 .u8 25 w' w.heap.size vl L ∧ Below w.heap.size w w'
theorem AftRet.nil (i : Int) (w : World) (n : Nat) : AftRet [] i w (.returned (.tuple #[.slice none 0 0, .int .i64 i])) (w.drewN n) := ⟨_, rfl, OwnP.nil _ _ _ _ _, below_drewN (Below.refl _ _) n⟩
theorem AftRet.one (w : World) : AftRet [(20, 1)] 0 w (.returned (.tuple #[.slice (some ⟨w.heap.size, 0, none⟩) 1 1, .int .i64 0])) (w.alloc (.cells #[.int .i64 20, .int .u8 1] 25)) :=
  ⟨_, rfl, OwnP.one _ _ _ _ _ _ _ _ (Nat.le_refl _) rfl, (Below.refl _ _).alloc (Nat.le_refl _) _⟩
theorem bne_of {a b : Int} (h : a ≠ b) : (a == b) = false := by simp [h]
theorem overflowRupt_any (a : Int) (w : World) : Calls Try.prog 30 #[.int .i64 a] w fun e w' => e = .returned (.int .i64 (oI a)) ∧ w = w' := by
  by_cases h : a = 22 ∨ a = 23 ∨ a = 24 ∨ a = 37
  · rcases h with rfl | rfl | rfl | rfl
    all_goals
      go_enter Try.func30, Try.ntmps30
      go_wp2
      go_ret
      exact ⟨rfl, rfl⟩
  · have t1 : (a == 22) = false := bne_of (by omega)
    have t2 : (a == 23) = false := bne_of (by omega)
    have t3 : (a == 24) = false := bne_of (by omega)
    have t4 : (a == 37) = false := bne_of (by omega)
    rw [show oI a = 0 by unfold oI; repeat (rw [if_neg (by omega)])]
    clear h
    go_enter Try.func30, Try.ntmps30
    go_wp2
    go_ret
    exact ⟨rfl, rfl⟩
set_option maxHeartbeats 4000000 in
theorem After_any (a k s : Int) (w : World) : Calls Try.prog 21 #[.int .i64 a, .int .u8 k, .int .i64 s] w (AftRet (aL a s) (aI a k s) w) := by
  by_cases h21 : a = 21 ∧ s = 1
  · obtain ⟨rfl, rfl⟩ := h21
    rw [show aL 21 1 = [(20, 1)] by rfl, show aI 21 k 1 = 0 by unfold aI; simp]
    go_enter Try.func21, Try.ntmps21
    go_wp2
    go_ret2
    exact AftRet.one w
  · rw [show aL a s = [] by unfold aL; rw [if_neg h21]]
    have p21 : (a == 21 && s == 1) = false := by simp; omega
    by_cases h25 : a = 25 ∧ k = 5 ∧ s = 0
    · obtain ⟨rfl, rfl, rfl⟩ := h25
      rw [show aI 25 5 0 = 1 by unfold aI; simp]
      go_enter Try.func21, Try.ntmps21
      go_wp2
      go_ret2
      exact AftRet.nil 1 w 0
    · by_cases hs : s = 1
      · subst hs
        have h1 : (a == 21) = false := bne_of (by omega)
        rw [show aI a k 1 = oI a by unfold aI oI; simp]
        clear h21 h25 p21
        by_cases h5 : a = 25
        · subst h5
          go_enter Try.func21, Try.ntmps21
          go_wp2_with (go_at_call 30; refine (overflowRupt_any _ _).mono ?_; rintro e w1 ⟨rfl, rfl⟩)
          go_ret2
          exact AftRet.nil _ w 0
        · have h2 : (a == 25) = false := bne_of h5
          go_enter Try.func21, Try.ntmps21
          go_wp2_with (go_at_call 30; refine (overflowRupt_any _ _).mono ?_; rintro e w1 ⟨rfl, rfl⟩)
          go_ret2
          exact AftRet.nil _ w 0
      · have h1 : (s == 1) = false := bne_of hs
        rw [show aI a k s = 0 by unfold aI; rw [if_neg h25, if_neg hs]]
        clear h21 p21
        by_cases h5 : a = 25
        · subst h5
          by_cases h6 : s = 0
          · subst h6
            have h7 : (k == 5) = false := bne_of (by omega)
            clear h25
            go_enter Try.func21, Try.ntmps21
            go_wp2
            go_ret2
            exact AftRet.nil _ w 0
          · have h7 : (s == 0) = false := bne_of h6
            clear h25
            go_enter Try.func21, Try.ntmps21
            go_wp2
            go_ret2
            exact AftRet.nil _ w 0
        · have h2 : (a == 25) = false := bne_of h5
          clear h25
          by_cases h8 : a = 21
          · subst h8
            go_enter Try.func21, Try.ntmps21
            go_wp2
            go_ret2
            exact AftRet.nil _ w 0
          · have h9 : (a == 21) = false := bne_of h8
            go_enter Try.func21, Try.ntmps21
            go_wp2
            go_ret2
            exact AftRet.nil _ w 0
set_option maxHeartbeats 2000000 in
theorem Same_same (A1 A2 : Option Addr) (c1 c2 n : Nat) (L : List (Int × Int)) (hn : L.length = n) (w : World) (h1 : Prs .i64 .u8 w A1 L) (h2 : Prs .i64 .u8 w A2 L) (hl : n ≤ 100000) :
    Calls Try.prog 7 #[.slice A1 n c1, .slice A2 n c2] w fun e w' => e = .returned (.bool true) ∧ ∃ m, w' = w.drewN m := by
  subst hn
  have H1 := Lib.hid h1
  have H2 := Lib.hid h2
  clear h1 h2
  obtain ⟨n, hn⟩ : ∃ n, L.length = n := ⟨_, rfl⟩
  rw [hn] at hl ⊢
  have HN := Lib.hid hn
  clear hn
  go_enter Try.func7, Try.ntmps7
  go_wp2
  go_loopw [5] (fun j wr => ∃ k : Nat, k ≤ n ∧ j = .int .i64 k ∧ ∃ m, wr = w.drewN m) (fun j _ => n - (intOf j).toNat)
  case atStart => exact ⟨0, Nat.zero_le _, rfl, 0, rfl⟩
  case round =>
    obtain ⟨k, hk, rfl, m, rfl⟩ := hrel
    by_cases hlt : k < n
    · obtain ⟨g1, rfl, d1, d2⟩ := H1.out k (by rw [HN.out]; exact hlt)
      obtain ⟨g2, rfl, d3, d4⟩ := H2.out k (by rw [HN.out]; exact hlt)
      generalize (L.getD k (0, 0)).1 = p at d1 d3
      generalize (L.getD k (0, 0)).2 = q at d2 d4
      go_wp2
      go_quiet (fail)
      go_wp2
      exact ⟨⟨k + 1, by omega, by go_num, _, rfl⟩, by simp [intOf]; omega⟩
    · have e : k = n := by omega
      subst e
      go_wp2
      go_ret
      exact ⟨rfl, _, rfl⟩
end Go.Proofs.Yteongalbljdjlaa
