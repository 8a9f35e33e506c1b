/- Contracts of layer 6: the reference's Next and Add. -/
import Derived.Test.YteongalbljdjlaaM06i
set_option linter.unusedSimpArgs false
set_option linter.unusedVariables false
set_option maxRecDepth 100000
namespace Go.Proofs.Yteongalbljdjlaa
open Go.ChangeShapes Go.WideShapes Go.ChangeAt Go.RowKit
set_option maxHeartbeats 2000000 in
theorem rNext_any (A : Option Addr) (n c : Nat) (f g : Nat → Int) (hn : n ≤ 100000) (w : World) (hp : Pls w A n f g) :
    Calls Try.prog 9 #[.slice A n c] w fun e w' => e = .returned (.tuple #[.int .i64 (nx f n), .bool (decide (0 < n))]) ∧ Below w.heap.size w w' := by
  obtain ⟨HP, hA⟩ := plsCase hp
  clear hp
  rcases hA with H0 | ⟨a, rfl⟩
  · have h0 := H0.out
    subst h0
    rw [show nx f 0 = 0 from rfl]
    go_enter Try.func9, Try.ntmps9
    go_wp2_with (fail)
    go_loopw [4, 5] (fun x i wr => x = .int .i64 0 ∧ i = .int .i64 1 ∧ wr = w) (fun _ i _ => 0)
    case atStart => exact ⟨rfl, rfl, rfl⟩
    case round =>
      obtain ⟨rfl, rfl, rfl⟩ := hrel
      go_wp2
      go_ret2
      exact ⟨rfl, Below.refl _ _⟩
  · by_cases h0 : n = 0
    · subst h0
      rw [show nx f 0 = 0 from rfl]
      go_enter Try.func9, Try.ntmps9
      go_wp2_with (fail)
      go_loopw [4, 5] (fun x i wr => x = .int .i64 0 ∧ i = .int .i64 1 ∧ wr = w) (fun _ i _ => 0)
      case atStart => exact ⟨rfl, rfl, rfl⟩
      case round =>
        obtain ⟨rfl, rfl, rfl⟩ := hrel
        go_wp2
        go_ret2
        exact ⟨rfl, Below.refl _ _⟩
    · have h1 : 1 ≤ n := by omega
      have HX1 := Lib.hid (show nx f 1 = 0 by unfold nx; split <;> rfl)
      go_enter Try.func9, Try.ntmps9
      go_wp2_with (fail)
      go_loopw [4, 5] (fun x i wr => ∃ k : Nat, 1 ≤ k ∧ k ≤ n ∧ x = .int .i64 (nx f k) ∧ i = .int .i64 k ∧ ∃ m, wr = w.drewN m) (fun _ i _ => n - (intOf i).toNat)
      case atStart => exact ⟨1, Nat.le_refl _, h1, by rw [HX1.out]; rfl, rfl, 0, rfl⟩
      case round =>
        obtain ⟨k, hk0, hk, rfl, rfl, m, rfl⟩ := hrel
        by_cases hlt : k < n
        · have HLT := Lib.hid hlt
          have hlt2 : (k : Int) < n := by omega
          have HPW := HP.out
          obtain ⟨d1, d2⟩ := HPW.at_ hlt
          have hq : nx f k < n := by have := nx_lt f k (by omega); omega
          obtain ⟨d3, d4⟩ := HPW.at_ hq
          have HX := Lib.hid (show nx f (k + 1) = if f k < f (nx f k) then k else nx f k from rfl)
          clear HPW
          generalize nx f k = q at d3 d4 HX hq ⊢
          have hq2 : (q : Int) < n := by omega
          by_cases hc : f k < f q
          · have HY := Lib.hid (show nx f (k + 1) = k by rw [HX.out, if_pos hc])
            clear HX
            go_wp2
            go_quiet (fail)
            go_wp2
            go_roundw
            case rel => exact ⟨k + 1, by omega, by have := HLT.out; omega, by rw [HY.out], by go_num, _, rfl⟩
            case measure => have := HLT.out; simp [intOf]; omega
          · have HY := Lib.hid (show nx f (k + 1) = q by rw [HX.out, if_neg hc])
            clear HX
            go_wp2
            go_quiet (fail)
            go_wp2
            go_roundw
            case rel => exact ⟨k + 1, by omega, by have := HLT.out; omega, by rw [HY.out], by go_num, _, rfl⟩
            case measure => have := HLT.out; simp [intOf]; omega
        · have e : k = n := by omega
          subst e
          go_wp2
          go_ret2
          exact ⟨rfl, below_drewN (Below.refl _ _) _⟩
end Go.Proofs.Yteongalbljdjlaa
