/- Plain functions of layer 7: the array of InterruptOrder. -/
import Derived.Test.YtmmpifcfhjdfnaaM07h
set_option linter.unusedSimpArgs false
set_option linter.unusedVariables false
namespace Go.Proofs.Ytmmpifcfhjdfnaa
open Go.RowKit
/-- Which numbers are in a set, as the cells of an array of eleven. -/
def wl (u : Int) : List Value := [.bool false, .bool (pb u 1), .bool (pb u 2), .bool (pb u 3), .bool (pb u 4), .bool (pb u 5), .bool (pb u 6), .bool (pb u 7), .bool (pb u 8), .bool (pb u 9), .bool (pb u 10)]
theorem rq_pb (u : Int) (n j : Nat) (h0 : 1 ≤ j) (h1 : j ≤ 10) : pb ((rq u n : Nat) : Int) j = (j == n || pb u j) := pb_sB _ j h0 h1
theorem rq_bd (u : Int) (n : Nat) : rq u n < 65536 := Nat.lt_of_lt_of_le (sB10 _) (by decide)
theorem wl_get (u : Int) (n : Nat) (h0 : 1 ≤ n) (h1 : n ≤ 10) : (wl u)[n]? = some (.bool (pb u n)) := by
  have : n = 1 ∨ n = 2 ∨ n = 3 ∨ n = 4 ∨ n = 5 ∨ n = 6 ∨ n = 7 ∨ n = 8 ∨ n = 9 ∨ n = 10 := by omega
  rcases this with rfl | rfl | rfl | rfl | rfl | rfl | rfl | rfl | rfl | rfl <;> rfl
theorem wl_set (u : Int) (n : Nat) (h0 : 1 ≤ n) (h1 : n ≤ 10) : (wl u).set n (.bool true) = wl ((rq u n : Nat) : Int) := by
  unfold wl
  have e : ∀ j, 1 ≤ j → j ≤ 10 → pb ((rq u n : Nat) : Int) j = (j == n || pb u j) := rq_pb u n
  rw [e 1 (by decide) (by decide), e 2 (by decide) (by decide), e 3 (by decide) (by decide), e 4 (by decide) (by decide), e 5 (by decide) (by decide), e 6 (by decide) (by decide), e 7 (by decide) (by decide), e 8 (by decide) (by decide), e 9 (by decide) (by decide), e 10 (by decide) (by decide)]
  have : n = 1 ∨ n = 2 ∨ n = 3 ∨ n = 4 ∨ n = 5 ∨ n = 6 ∨ n = 7 ∨ n = 8 ∨ n = 9 ∨ n = 10 := by omega
  rcases this with rfl | rfl | rfl | rfl | rfl | rfl | rfl | rfl | rfl | rfl <;> rfl
theorem wl_len (u : Int) : (wl u).length = 11 := rfl
theorem fs_first (u : Int) (n : Nat) (h0 : 1 ≤ n) (h1 : n ≤ 10) (h : pb u n = true) (hl : ∀ j, 1 ≤ j → j < n → pb u j = false) : fs u 10 = n := by
  rcases fs_spec u 10 with ⟨_, e⟩ | ⟨a, b, c, d⟩
  · rw [e n h0 h1] at h; cases h
  · by_cases x : fs u 10 < n
    · rw [hl _ a x] at c; cases c
    · by_cases y : n < fs u 10
      · rw [d n h0 y] at h; cases h
      · omega
theorem fs_none (u : Int) (h : ∀ j, 1 ≤ j → j ≤ 10 → pb u j = false) : fs u 10 = 0 := by
  rcases fs_spec u 10 with ⟨e, _⟩ | ⟨a, b, c, d⟩
  · exact e
  · rw [h _ a b] at c; cases c
theorem kq_pb (u : Int) (n j : Nat) (h0 : 1 ≤ j) (h1 : j ≤ 10) : pb ((sB (kq u n) 10 : Nat) : Int) j = (pb u j && !decide (j = n)) := by
  rw [pb_sB _ j h0 h1]
  unfold kq
  have : ((j : Int) = (n : Int)) ↔ j = n := by omega
  rw [decide_eq_decide.2 this]
end Go.Proofs.Ytmmpifcfhjdfnaa
