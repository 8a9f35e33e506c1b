/- Contracts of layer 6: the reference's Add. -/
import Derived.Test.YteongalbljdjlaaM06j
import Derived.Deep.RegionLaw
set_option linter.unusedSimpArgs false
set_option linter.unusedVariables false
set_option maxRecDepth 100000
namespace Go.Proofs.Yteongalbljdjlaa
open Go.ChangeShapes Go.WideShapes Go.ChangeAt Go.RowKit
set_option maxHeartbeats 4000000 in
theorem rAdd_yes6 (A : Option Addr) (n c : Nat) (M : List (Int × Int)) (hM : M.length = n) (hA : A = none → c = 0) (a k : Int) (ha : 20 ≤ a ∧ a ≤ 47) (hk : 1 ≤ k ∧ k ≤ 7) (hn : n < 64) (w : World) (hp : PlsL w A M) :
    Calls Try.prog 6 #[.slice A n c, .agg #[.int .i64 a, .int .u8 k]] w (RetAdd 0 (M ++ [(a, k)]) w) := by
  have HP := Lib.hid hp
  have HM := Lib.hid hM
  have HA := Lib.hid hA
  have n64 : ¬ (64 ≤ n) := by omega
  have k1 := ha.1
  have k2 := ha.2
  have k3 := hk.1
  have k4 := hk.2
  clear hp hM hA ha hk
  go_enter Try.func6, Try.ntmps6
  have X1 := Lib.hid ((Below.refl w.heap.size w).alloc (Nat.le_refl _) (.cells #[.int .i64 a, .int .u8 k] 25))
  have tokA : True := trivial
  go_wp2_with (first
    | (have _t := tokA; clear _t tokA; at_builtin; refine wp_appQ rfl _ _ _ rfl 25 _ 16 Try.underlying22 info_pulse rfl w w.heap.size _ A n c [] M HM.out (OwnP.nil _ _ _ _ _) (HP.out.below X1.out (Nat.le_refl _)) HA.out rfl rfl (by simp; omega) X1.out X1.out.size ?_; intro v2 w2 ho2 hb2 hgr _; (have g0 := (Blk.new w 25 [.int .i64 a, .int .u8 k] _ rfl).below (below_of_grown hgr) (by simp)); (have c0 := g0.cell 0 _ rfl); (have c1 := g0.cell 1 _ rfl); clear g0 hgr; (obtain ⟨A2', n2', cv2', rfl⟩ := ho2.shape); (have HO2 := Lib.hid (show OwnP .i64 .u8 25 w2 w.heap.size _ M from ho2)); (have HB2 := Lib.hid hb2); clear ho2 hb2)
    | (at_builtin; refine wp_appP .i64 .u8 rfl _ _ 22 rfl 25 _ 16 Try.underlying22 info_pulse rfl w w.heap.size 0 _ _ M [(a, k)] (HO2.out.below ((Below.refl _ _).alloc (Nat.le_refl _) _) (Nat.le_refl _)) (OwnP.one' .i64 .u8 25 w2 w2.heap.size _ _ rfl) rfl rfl (by rw [HM.out]; simp; omega) (HB2.out.alloc HB2.out.size _) (by have := HB2.out.size; simp; omega) ?_; intro v3 w3 ho3 hb3 _ _; (obtain ⟨A3', n3', cv3', rfl⟩ := ho3.shape); (have HO3 := Lib.hid ho3); (have HB3 := Lib.hid hb3); clear ho3 hb3)
    | fail)
  go_ret2
  exact ⟨_, rfl, HO3.out, HB3.out⟩
set_option maxHeartbeats 4000000 in
theorem rAdd_no (A : Option Addr) (n c : Nat) (a k E : Int) (hE : addE a k n = E) (h0 : E ≠ 0) (L : List (Int × Int)) (w : World) :
    Calls Try.prog 6 #[.slice A n c, .agg #[.int .i64 a, .int .u8 k]] w (RetAdd E L w) := by
  have X1 := Lib.hid ((Below.refl w.heap.size w).alloc (Nat.le_refl _) (.cells #[.int .i64 a, .int .u8 k] 25))
  have HR := Lib.hid (show (if E = 0 then L else []) = [] by rw [if_neg h0])
  unfold addE at hE
  by_cases ha : 20 ≤ a ∧ a ≤ 47
  · have a1 := ha.1
    have a2 := ha.2
    by_cases hk : 1 ≤ k ∧ k ≤ 7
    · have k1 := hk.1
      have k2 := hk.2
      by_cases hn : 64 ≤ n
      · rw [if_neg (by simpa using ha), if_neg (by simpa using hk), if_pos hn] at hE
        subst hE
        have hn2 : (64 : Int) ≤ n := by omega
        clear ha hk h0
        go_enter Try.func6, Try.ntmps6
        go_wp2
        go_ret2
        exact ⟨_, rfl, by rw [HR.out]; exact OwnP.nil _ _ _ _ _, X1.out⟩
      · rw [if_neg (by simpa using ha), if_neg (by simpa using hk), if_neg hn] at hE
        exact absurd hE.symm h0
    · rw [if_neg (by simpa using ha), if_pos hk] at hE
      subst hE
      have hc : k < 1 ∨ (1 ≤ k ∧ 7 < k) := by omega
      clear ha hk h0
      rcases hc with hc | ⟨hc, hc2⟩
      all_goals
        go_enter Try.func6, Try.ntmps6
        go_wp2
        go_ret2
        exact ⟨_, rfl, by rw [HR.out]; exact OwnP.nil _ _ _ _ _, X1.out⟩
  · rw [if_pos ha] at hE
    subst hE
    have hc : a < 20 ∨ (20 ≤ a ∧ 47 < a) := by omega
    clear ha h0
    rcases hc with hc | ⟨hc, hc2⟩
    all_goals
      go_enter Try.func6, Try.ntmps6
      go_wp2
      go_ret2
      exact ⟨_, rfl, by rw [HR.out]; exact OwnP.nil _ _ _ _ _, X1.out⟩
theorem rAdd_pulse (A : Option Addr) (n c : Nat) (M : List (Int × Int)) (hM : M.length = n) (hA : A = none → c = 0) (a k : Int) (w : World) (hp : PlsL w A M) :
    Calls Try.prog 6 #[.slice A n c, .agg #[.int .i64 a, .int .u8 k]] w (RetAdd (addE a k n) (M ++ [(a, k)]) w) := by
  by_cases h : addE a k n = 0
  · rw [h]
    unfold addE at h
    by_cases ha : 20 ≤ a ∧ a ≤ 47
    · by_cases hk : 1 ≤ k ∧ k ≤ 7
      · by_cases hn : 64 ≤ n
        · rw [if_neg (by simpa using ha), if_neg (by simpa using hk), if_pos hn] at h; cases h
        · exact rAdd_yes6 A n c M hM hA a k ha hk (by omega) w hp
      · rw [if_neg (by simpa using ha), if_pos hk] at h; cases h
    · rw [if_pos ha] at h; cases h
  · exact rAdd_no A n c a k _ rfl h _ w
end Go.Proofs.Yteongalbljdjlaa
