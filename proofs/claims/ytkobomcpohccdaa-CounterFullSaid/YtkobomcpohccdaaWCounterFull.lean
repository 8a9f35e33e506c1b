/- The walk of CounterFull. -/
import Derived.Test.YtkobomcpohccdaaM06g
set_option linter.unusedSimpArgs false
set_option linter.unusedVariables false
set_option maxRecDepth 100000
namespace Go.Proofs.Ytkobomcpohccdaa
open Go.ChangeShapes Go.WideShapes Go.ChangeAt Go.RowKit
theorem OwnP.q {T : TypeId} {w : World} {B : Nat} {v : Value} {L : List (Int × Int)} (h : OwnP .i64 .u8 T w B v L) : ∃ A c, v = .slice A L.length c ∧ PlsL w A L ∧ (A = none → c = 0) := by
  obtain ⟨A, c, rfl, hp⟩ := h.prs
  refine ⟨A, c, rfl, hp.pls, fun e => ?_⟩
  subst e
  rcases h.2 with ⟨e, _⟩ | ⟨g, cap, cur, e, _⟩
  · injection e with _ _ e3
  · injection e with e1; cases e1
def fullL : Nat → List (Int × Int)
  | 0 => []
  | n + 1 => fullL n ++ [(20 + (n : Int) % 28, 1 + (n : Int) % 7)]
theorem fullL_len : ∀ n, (fullL n).length = n
  | 0 => rfl
  | n + 1 => by unfold fullL; rw [List.length_append, fullL_len n]; rfl
set_option maxHeartbeats 4000000 in
theorem counterFull_walk (w : World) :
    Calls Try.prog 9 #[] w fun e w' => e = .returned (.bool true) ∧ Below w.heap.size w w' := by
  go_enter Try.func9, Try.ntmps9
  go_wp2_with (fail)
  go_loopw [1, 2] (fun l i wr => ∃ k : Nat, k ≤ 64 ∧ i = .int .i64 k ∧ OwnP .i64 .u8 26 wr w.heap.size l (fullL k) ∧ Below w.heap.size w wr) (fun _ i _ => 64 - (intOf i).toNat)
  case atStart => exact ⟨0, by omega, rfl, OwnP.nil _ _ _ _ _, Below.refl _ _⟩
  case round =>
    obtain ⟨k, hk, rfl, ho, hb⟩ := hrel
    obtain ⟨A, c, rfl, hp, hA⟩ := ho.q
    have HB := Lib.hid hb
    have HP := Lib.hid hp
    have HA := Lib.hid hA
    clear ho hb hp hA
    have hl := fullL_len k
    by_cases hlt : k < 64
    · go_wp2_with (fail)
      have hE : addE (20 + (k : Int) % 28) (1 + (k : Int) % 7) k = 0 := by unfold addE; rw [if_neg (by omega), if_neg (by omega), if_neg (by omega)]
      have HAd := Add_pulse A k c (fullL k) hl HA.out (20 + (k : Int) % 28) (1 + (k : Int) % 7) wr HP.out
      rw [hE] at HAd
      refine HAd.mono ?_
      rintro e w1 ⟨v, rfl, ho, hb⟩
      rw [if_pos rfl] at ho
      have HO := Lib.hid (show OwnP .i64 .u8 26 w1 w.heap.size v (fullL (k + 1)) from ho.low HB.out.size)
      have HB1 := Lib.hid (HB.out.trans (hb.mono HB.out.size))
      obtain ⟨A', c', rfl, _⟩ := ho.q
      have hl1 : (fullL k ++ [(20 + (k : Int) % 28, 1 + (k : Int) % 7)]).length = k + 1 := fullL_len (k + 1)
      rw [hl1]
      have hl2 := fullL_len (k + 1)
      clear HAd hE ho hb HB
      go_wp2_with (fail)
      exact ⟨⟨k + 1, by omega, by go_num, by have := HO.out; rw [hl1] at this; exact this, HB1.out⟩, by simp only [intOf]; omega⟩
    · have e : k = 64 := by omega
      subst e
      go_wp2_with (fail)
      refine (Add_no A 64 c 20 1 13 (by decide) (by omega) [] _).mono ?_
      rintro e x1 ⟨v1, rfl, _, hb⟩
      have Y1 := Lib.hid (HB.out.trans (hb.mono HB.out.size))
      clear hb
      go_wp2_with (fail)
      refine (Add_no A 64 c 19 0 3 (by decide) (by omega) [] _).mono ?_
      rintro e x2 ⟨v2, rfl, _, hb⟩
      have Y2 := Lib.hid (Y1.out.trans (hb.mono Y1.out.size))
      clear hb
      go_wp2_with (fail)
      refine (Add_no A 64 c 48 1 3 (by decide) (by omega) [] _).mono ?_
      rintro e x3 ⟨v3, rfl, _, hb⟩
      have Y3 := Lib.hid (Y2.out.trans (hb.mono Y2.out.size))
      clear hb
      go_wp2_with (fail)
      refine (Add_no A 64 c 47 8 2 (by decide) (by omega) [] _).mono ?_
      rintro e x4 ⟨v4, rfl, _, hb⟩
      have Y4 := Lib.hid (Y3.out.trans (hb.mono Y3.out.size))
      clear hb
      go_wp2_with (fail)
      refine (works_any _).mono ?_
      rintro e x9 ⟨rfl, hb⟩
      have Y9 := Lib.hid (Y4.out.trans (hb.mono Y4.out.size))
      clear hb
      go_wp2_with (fail)
      go_ret
      exact ⟨rfl, Y9.out⟩
end Go.Proofs.Ytkobomcpohccdaa
