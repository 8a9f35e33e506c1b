/- Contracts of layer 6: Add. -/
import Derived.Test.YteongalbljdjlaaM06f
set_option linter.unusedSimpArgs false
set_option linter.unusedVariables false
set_option maxRecDepth 100000
namespace Go.Proofs.Yteongalbljdjlaa
open Go.ChangeShapes Go.WideShapes Go.ChangeAt Go.RowKit
theorem isCounter_any (a : Int) (w : World) : Calls Try.prog 16 #[.int .i64 a] w fun e w' => e = .returned (.bool (decide (20 ≤ a ∧ a ≤ 47))) ∧ w = w' := by
  by_cases h1 : 20 ≤ a
  · by_cases h2 : a ≤ 47
    · rw [show decide (20 ≤ a ∧ a ≤ 47) = true by simp [h1, h2]]
      go_enter Try.func16, Try.ntmps16
      go_wp2
      go_ret
      exact ⟨rfl, rfl⟩
    · rw [show decide (20 ≤ a ∧ a ≤ 47) = false by simp [h1, h2]]
      go_enter Try.func16, Try.ntmps16
      go_wp2
      go_ret
      exact ⟨rfl, rfl⟩
  · rw [show decide (20 ≤ a ∧ a ≤ 47) = false by simp [h1]]
    go_enter Try.func16, Try.ntmps16
    go_wp2
    go_ret
    exact ⟨rfl, rfl⟩
def addE (a k : Int) (n : Nat) : Int := if ¬ (20 ≤ a ∧ a ≤ 47) then 3 else if ¬ (1 ≤ k ∧ k ≤ 7) then 2 else if 64 ≤ n then 13 else 0
def RetAdd (E : Int) (L : List (Int × Int)) (w : World) (e : Ending) (w' : World) : Prop := ∃ v, e = .returned (.tuple #[v, .int .i64 E]) ∧ OwnP .i64 .u8 25 w' w.heap.size v (if E = 0 then L else []) ∧ Below w.heap.size w w'
set_option maxHeartbeats 4000000 in
theorem Add_yes6 (A : Option Addr) (n c : Nat) (M : List (Int × Int)) (hM : M.length = n) (hA : A = none → c = 0) (a k : Int) (ha : 20 ≤ a ∧ a ≤ 47) (hk : 1 ≤ k ∧ k ≤ 7) (hn : n < 64) (w : World) (hp : PlsL w A M) :
    Calls Try.prog 5 #[.slice A n c, .agg #[.int .i64 a, .int .u8 k]] w (RetAdd 0 (M ++ [(a, k)]) w) := by
  have HC := Lib.hid (isCounter_any a)
  rw [decide_eq_true ha] at HC
  have HK := Lib.hid (isKind_any k)
  rw [decide_eq_true hk] at HK
  have HP := Lib.hid hp
  have HM := Lib.hid hM
  have HA := Lib.hid hA
  have n64 : ¬ (64 ≤ n) := by omega
  clear ha hk hp hM hA
  go_enter Try.func5, Try.ntmps5
  go_wp2_with (first
    | (go_at_call 16; refine (HC.out _).mono ?_; rintro e w1 ⟨rfl, rfl⟩)
    | (go_at_call 17; refine (HK.out _).mono ?_; rintro e w1 ⟨rfl, rfl⟩)
    | fail)
  have B2 := (Blk.new (w.alloc (.cells #[.int .i64 a, .int .u8 k] 25)) 25 [.int .i64 a, .int .u8 k] (w.heap.size + 1) (by simp)).alloc (by simp) (.cells #[.slice A n c, .slice (some ⟨w.heap.size + 1, 0, none⟩) 1 1] 22)
  have B3 := Blk.new ((w.alloc (.cells #[.int .i64 a, .int .u8 k] 25)).alloc (.cells #[.int .i64 a, .int .u8 k] 25)) 22 [.slice A n c, .slice (some ⟨w.heap.size + 1, 0, none⟩) 1 1] (w.heap.size + 1 + 1) (by simp)
  have X3 := Lib.hid ((((Below.refl w.heap.size w).alloc (Nat.le_refl _) (.cells #[.int .i64 a, .int .u8 k] 25)).alloc (by simp) (.cells #[.int .i64 a, .int .u8 k] 25)).alloc (by simp; omega) (.cells #[.slice A n c, .slice (some ⟨w.heap.size + 1, 0, none⟩) 1 1] 22))
  refine (Concat_two (w.heap.size + 1 + 1) A (some ⟨w.heap.size + 1, 0, none⟩) n 1 c 1 M [(a, k)] HM.out rfl HA.out (fun h => by cases h) (by omega) _ (HP.out.below X3.out (Nat.le_refl _)) ?_ (B3.cell 0 _ rfl) (B3.cell 1 _ rfl) 2).mono ?_
  · intro i hi
    have h0 : i = 0 := by simp at hi; omega
    subst h0
    exact ⟨_, rfl, B2.cell 0 _ rfl, B2.cell 1 _ rfl⟩
  · rintro e w4 ⟨v, rfl, ho, hb⟩
    have HO := Lib.hid (ho.low (B' := w.heap.size) X3.out.size)
    have HB := Lib.hid (X3.out.trans (hb.mono X3.out.size))
    clear ho hb B2 B3
    go_wp2_with (fail)
    go_ret2
    exact ⟨_, rfl, HO.out, HB.out⟩
set_option maxHeartbeats 4000000 in
theorem Add_no (A : Option Addr) (n c : Nat) (a k E : Int) (hE : addE a k n = E) (h0 : E ≠ 0) (L : List (Int × Int)) (w : World) :
    Calls Try.prog 5 #[.slice A n c, .agg #[.int .i64 a, .int .u8 k]] w (RetAdd E L w) := by
  have HC := Lib.hid (isCounter_any a)
  have HK := Lib.hid (isKind_any k)
  have X1 := Lib.hid ((Below.refl w.heap.size w).alloc (Nat.le_refl _) (.cells #[.int .i64 a, .int .u8 k] 25))
  have HR := Lib.hid (show (if E = 0 then L else []) = [] by rw [if_neg h0])
  unfold addE at hE
  by_cases ha : 20 ≤ a ∧ a ≤ 47
  · rw [decide_eq_true ha] at HC
    by_cases hk : 1 ≤ k ∧ k ≤ 7
    · rw [decide_eq_true hk] at HK
      by_cases hn : 64 ≤ n
      · rw [if_neg (by simpa using ha), if_neg (by simpa using hk), if_pos hn] at hE
        subst hE
        clear ha hk h0
        go_enter Try.func5, Try.ntmps5
        go_wp2_with (first
          | (go_at_call 16; refine (HC.out _).mono ?_; rintro e w1 ⟨rfl, rfl⟩)
          | (go_at_call 17; refine (HK.out _).mono ?_; rintro e w1 ⟨rfl, rfl⟩)
          | fail)
        go_ret2
        exact ⟨_, rfl, by rw [HR.out]; exact OwnP.nil _ _ _ _ _, X1.out⟩
      · exfalso
        rw [if_neg (by simpa using ha), if_neg (by simpa using hk), if_neg hn] at hE
        exact h0 hE.symm
    · rw [decide_eq_false hk] at HK
      rw [if_neg (by simpa using ha), if_pos hk] at hE
      subst hE
      clear ha hk h0
      go_enter Try.func5, Try.ntmps5
      go_wp2_with (first
        | (go_at_call 16; refine (HC.out _).mono ?_; rintro e w1 ⟨rfl, rfl⟩)
        | (go_at_call 17; refine (HK.out _).mono ?_; rintro e w1 ⟨rfl, rfl⟩)
        | fail)
      go_ret2
      exact ⟨_, rfl, by rw [HR.out]; exact OwnP.nil _ _ _ _ _, X1.out⟩
  · rw [decide_eq_false ha] at HC
    rw [if_pos ha] at hE
    subst hE
    clear ha h0
    go_enter Try.func5, Try.ntmps5
    go_wp2_with (first
      | (go_at_call 16; refine (HC.out _).mono ?_; rintro e w1 ⟨rfl, rfl⟩)
      | fail)
    go_ret2
    exact ⟨_, rfl, by rw [HR.out]; exact OwnP.nil _ _ _ _ _, X1.out⟩
theorem Add_pulse (A : Option Addr) (n c : Nat) (M : List (Int × Int)) (hM : M.length = n) (hA : A = none → c = 0) (a k : Int) (w : World) (hp : PlsL w A M) :
    Calls Try.prog 5 #[.slice A n c, .agg #[.int .i64 a, .int .u8 k]] w (RetAdd (addE a k n) (M ++ [(a, k)]) w) := by
  by_cases h : addE a k n = 0
  · rw [h]
    unfold addE at h
    by_cases ha : 20 ≤ a ∧ a ≤ 47
    · by_cases hk : 1 ≤ k ∧ k ≤ 7
      · by_cases hn : 64 ≤ n
        · rw [if_neg (by simpa using ha), if_neg (by simpa using hk), if_pos hn] at h; cases h
        · exact Add_yes6 A n c M hM hA a k ha hk (by omega) w hp
      · rw [if_neg (by simpa using ha), if_pos hk] at h; cases h
    · rw [if_pos ha] at h; cases h
  · exact Add_no A n c a k _ rfl h _ w
end Go.Proofs.Yteongalbljdjlaa
