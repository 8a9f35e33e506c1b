/- Contracts of layer 5: lists that are compared. -/
import Derived.Test.YtmmpifcfhjdfnaaL05c
import Derived.Test.YtmmpifcfhjdfnaaBlk
set_option linter.unusedSimpArgs false
set_option linter.unusedVariables false
namespace Go.Proofs.Ytmmpifcfhjdfnaa
open Go.ChangeShapes Go.WideShapes Go.ChangeAt Go.RowKit
set_option maxHeartbeats 2000000 in
theorem rCells_same (A1 A2 : Option Addr) (c1 c2 n : Nat) (L : List (Int × Int)) (hn : L.length = n) (w : World) (h1 : Prs .i64 .u16 w A1 L) (h2 : Prs .i64 .u16 w A2 L) (hl : n ≤ 1000) :
    Calls Try.prog 9 #[.slice A1 n c1, .slice A2 n c2] w fun e w' => e = .returned (.bool true) ∧ ∃ m, w' = w.drewN m := by
  subst hn
  have H1 := Lib.hid h1
  have H2 := Lib.hid h2
  clear h1 h2
  obtain ⟨n, hn⟩ : ∃ n, L.length = n := ⟨_, rfl⟩
  rw [hn] at hl ⊢
  have HN := Lib.hid hn
  clear hn
  go_enter Try.func9, Try.ntmps9
  go_wp2
  go_loopw [5] (fun j wr => ∃ k : Nat, k ≤ n ∧ j = .int .i64 k ∧ ∃ m, wr = w.drewN m) (fun j _ => n - (intOf j).toNat)
  case atStart => exact ⟨0, Nat.zero_le _, rfl, 0, rfl⟩
  case round =>
    obtain ⟨k, hk, rfl, m, rfl⟩ := hrel
    by_cases hlt : k < n
    · obtain ⟨g1, rfl, d1, d2⟩ := H1.out k (by rw [HN.out]; exact hlt)
      obtain ⟨g2, rfl, d3, d4⟩ := H2.out k (by rw [HN.out]; exact hlt)
      generalize (L.getD k (0, 0)).1 = p at d1 d3
      generalize (L.getD k (0, 0)).2 = q at d2 d4
      go_wp2
      go_quiet (fail)
      go_wp2
      exact ⟨⟨k + 1, by omega, by go_num, _, rfl⟩, by simp [intOf]; omega⟩
    · have e : k = n := by omega
      subst e
      go_wp2
      go_ret
      exact ⟨rfl, _, rfl⟩
/-- Two effects with the same lists are the same. -/
def dnV (AC : Option Addr) (cC nC : Nat) (AO : Option Addr) (cO nO : Nat) (AR : Option Addr) (cR nR : Nat) (cy op : Int) : Value := .agg #[.slice AC nC cC, .slice AO nO cO, .slice AR nR cR, .int .i64 cy, .int .u8 op]
end Go.Proofs.Ytmmpifcfhjdfnaa
