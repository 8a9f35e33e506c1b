/- The walk of CounterShifts. -/
import Derived.Test.YtkobomcpohccdaaW06a
set_option linter.unusedSimpArgs false
set_option linter.unusedVariables false
set_option maxRecDepth 100000
namespace Go.Proofs.Ytkobomcpohccdaa
open Go.ChangeShapes Go.WideShapes Go.ChangeAt Go.RowKit
/-- 2 to the power of 15 - j. -/
def sP : Nat → Int
  | 0 => 32768 | 1 => 16384 | 2 => 8192 | 3 => 4096 | 4 => 2048 | 5 => 1024 | 6 => 512 | 7 => 256 | 8 => 128 | 9 => 64 | 10 => 32 | 11 => 16 | 12 => 8 | 13 => 4 | 14 => 2 | _ => 1
def sQ : Nat → Int
  | 0 => 1 | 1 => 2 | 2 => 4 | 3 => 8 | 4 => 16 | 5 => 32 | 6 => 64 | 7 => 128 | 8 => 256 | 9 => 512 | 10 => 1024 | 11 => 2048 | 12 => 4096 | 13 => 8192 | 14 => 16384 | _ => 32768
def shX (a n : Int) (j : Nat) : Int := a % sP j * sQ j + n / sP j
theorem sh_step (a n : Int) (a0 : 0 ≤ a) (a1 : a < 32768) (n0 : 0 ≤ n) (n1 : n < 32768) (j : Nat) (hj : j < 15) :
    (2 * shX a n j + n / sP (j + 1) % 2) % 32768 = shX a n (j + 1) ∧ 2 * (a / sP j) + (if 16383 < shX a n j then 1 else 0) = a / sP (j + 1) ∧ 0 ≤ shX a n j ∧ shX a n j < 32768 ∧ 0 ≤ a / sP j ∧ a / sP j < 32768 := by
  have : j = 0 ∨ j = 1 ∨ j = 2 ∨ j = 3 ∨ j = 4 ∨ j = 5 ∨ j = 6 ∨ j = 7 ∨ j = 8 ∨ j = 9 ∨ j = 10 ∨ j = 11 ∨ j = 12 ∨ j = 13 ∨ j = 14 := by omega
  unfold shX
  rcases this with rfl | rfl | rfl | rfl | rfl | rfl | rfl | rfl | rfl | rfl | rfl | rfl | rfl | rfl | rfl
  all_goals
    simp only [sP, sQ]
    refine ⟨by omega, ?_, by omega, by omega, by omega, by omega⟩
    split <;> omega
theorem pW_sh (x b : Int) (h : b = 0 ∨ b = 1) : pW x (6 + b) = (2 * x + b) % 32768 := by
  rcases h with rfl | rfl <;> (unfold pW; simp)
theorem pS_sh (x b : Int) (h : b = 0 ∨ b = 1) : pS x (6 + b) = if 16383 < x then 1 else 0 := by
  rcases h with rfl | rfl <;> (unfold pS; simp)
theorem Apply_sh (X b : Int) (x0 : 0 ≤ X) (x1 : X < 32768) (hb : b = 0 ∨ b = 1) (R S : Int) (hR : (2 * X + b) % 32768 = R) (hS : (if 16383 < X then (1 : Int) else 0) = S) (w : World) :
    Calls Try.prog 11 #[.int .u16 X, .int .u8 (6 + b)] w fun e w' => e = .returned (.tuple #[.int .u16 R, .int .i64 S, .int .i64 0]) ∧ Below w.heap.size w w' := by
  have h := Apply_any X (6 + b) x0 (by omega) w
  rw [show X % 32768 = X by omega, pW_sh X b hb, pS_sh X b hb, hR, hS, show pE (6 + b) = 0 by unfold pE; rw [if_pos (by omega)]] at h
  exact h
set_option maxHeartbeats 8000000 in
theorem counterShifts_walk (x : Int) (z : Int) (w_x : (Lit.int .u16 x).wf = true) (w_z : (Lit.int .u16 z).wf = true) (w : World) :
    Calls Try.prog 8 #[.int .u16 x, .int .u16 z] w fun e w' => e = .returned (.bool true) ∧ Below w.heap.size w w' := by
  obtain ⟨x0, x1⟩ := bounds_u16 w_x
  obtain ⟨z0, z1⟩ := bounds_u16 w_z
  clear w_x w_z
  have a0 : 0 ≤ x % 32768 := by omega
  have a1 : x % 32768 < 32768 := by omega
  have n0 : 0 ≤ z % 32768 := by omega
  have n1 : z % 32768 < 32768 := by omega
  go_enter Try.func8, Try.ntmps8
  go_wp2
  generalize x % 32768 = a at *
  generalize z % 32768 = n at *
  have ST := Lib.hid (sh_step a n a0 a1 n0 n1)
  have HN := Lib.hid (show 0 ≤ n ∧ n < 32768 from ⟨n0, n1⟩)
  have HA := Lib.hid (show 0 ≤ a ∧ a < 32768 from ⟨a0, a1⟩)
  clear n0 n1 a0 a1 x0 x1 z0 z1
  go_loopw [5, 6, 7] (fun u o i wr => ∃ j : Nat, j ≤ 15 ∧ u = .int .u16 (shX a n j) ∧ o = .int .u16 (a / sP j) ∧ i = .int .i64 (14 - (j : Int)) ∧ Below w.heap.size w wr) (fun _ _ i _ => (intOf i + 1).toNat)
  case atStart => exact ⟨0, by omega, by have := HA.out; have := HN.out; have h : shX a n 0 = a % 32768 * 1 + n / 32768 := rfl; rw [h, show a % 32768 * 1 + n / 32768 = a by omega], by have := HA.out; have h : a / sP 0 = a / 32768 := rfl; rw [h, show a / 32768 = 0 by omega], rfl, Below.refl _ _⟩
  case round =>
    obtain ⟨j, hj, rfl, rfl, rfl, hb⟩ := hrel
    have HB := Lib.hid hb
    clear hb
    by_cases hlt : j < 15
    · have : j = 0 ∨ j = 1 ∨ j = 2 ∨ j = 3 ∨ j = 4 ∨ j = 5 ∨ j = 6 ∨ j = 7 ∨ j = 8 ∨ j = 9 ∨ j = 10 ∨ j = 11 ∨ j = 12 ∨ j = 13 ∨ j = 14 := by omega
      have HS := ST.out j hlt
      obtain ⟨b, hb⟩ : ∃ b, n / sP (j + 1) % 2 = b := ⟨_, rfl⟩
      have b01 : b = 0 ∨ b = 1 := by omega
      have hk : ∀ D : Int, 0 < D → n / D % 2 = b → (6 + (n / D).tmod 2) % 256 = 6 + b := fun D hD h => by
        rw [Int.tmod_eq_emod_of_nonneg (Int.ediv_nonneg HN.out.1 (by omega)), h]; omega
      have hk1 : n % 2 = b → (6 + n.tmod 2) % 256 = 6 + b := fun h => by
        rw [Int.tmod_eq_emod_of_nonneg HN.out.1, h]; omega
      obtain ⟨s1, s2, s3, s4, s5, s6⟩ := HS
      rw [hb] at s1
      have S1 := Lib.hid s1
      have HK := Lib.hid hk
      have HK1 := Lib.hid hk1
      have B01 := Lib.hid b01
      clear ST hj hlt hk hk1 s1 b01
      obtain ⟨S, hS⟩ : ∃ S, (if 16383 < shX a n j then (1 : Int) else 0) = S := ⟨_, rfl⟩
      rw [hS] at s2
      have S01 : 0 ≤ S ∧ S ≤ 1 := by split at hS <;> omega
      have HSS := Lib.hid hS
      have S2 := Lib.hid s2
      clear hS s2
      rcases this with rfl | rfl | rfl | rfl | rfl | rfl | rfl | rfl | rfl | rfl | rfl | rfl | rfl | rfl | rfl
      all_goals
        simp only [Nat.reduceAdd] at S1 S2
        generalize shX a n _ = X at S1 HSS s3 s4 ⊢
        generalize a / sP _ = O at S2 s5 s6 ⊢
        go_wp2_with (fail)
        have hb' := hb
        simp only [sP, Nat.reduceAdd] at hb'
        first | rw [HK.out _ (by decide) hb'] | rw [HK1.out (by simpa using hb')]
        clear hb hb'
        refine (Apply_sh X b s3 s4 B01.out _ S S1.out HSS.out _).mono ?_
        rintro e w1 ⟨rfl, hb1⟩
        have HB1 := Lib.hid (HB.out.trans (hb1.mono HB.out.size))
        clear hb1 HSS
        go_wp2_with (fail)
        exact ⟨⟨_, by decide, rfl, by rw [S2.out], rfl, HB1.out⟩, by decide⟩
    · have e : j = 15 := by omega
      subst e
      rw [show shX a n 15 = n by unfold shX; simp [sP, sQ], show a / sP 15 = a by simp [sP]]
      clear ST
      go_wp2_with (go_at_call 16; refine (works_any _).mono ?_; rintro e w9 ⟨rfl, hb⟩; (have X9 := Lib.hid (HB.out.trans (hb.mono HB.out.size))); clear hb)
      go_ret
      exact ⟨rfl, X9.out⟩
end Go.Proofs.Ytkobomcpohccdaa
