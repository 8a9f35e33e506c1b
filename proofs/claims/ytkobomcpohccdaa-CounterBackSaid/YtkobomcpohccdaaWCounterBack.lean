/- The walk of CounterBack. -/
import Derived.Test.YtkobomcpohccdaaW06a
set_option linter.unusedSimpArgs false
set_option linter.unusedVariables false
set_option maxRecDepth 100000
namespace Go.Proofs.Ytkobomcpohccdaa
open Go.ChangeShapes Go.WideShapes Go.ChangeAt Go.RowKit
theorem back1 (y : Int) (h0 : 0 ≤ y) (h1 : y < 32768) (h : y ≠ 16383) : oVal (pW y 1) = oVal y + 1 ∧ oVal (pW (pW y 1) 2) = oVal y ∧ pS (pW y 1) 2 = 0 ∧ pS y 1 = 0 := by
  have e1 : pW y 1 = oAdd y 1 := by unfold pW; simp [h]
  have e2 : oAdd y 1 ≠ 16384 := by unfold oAdd; split <;> omega
  have e3 : pW (oAdd y 1) 2 = oAdd (oAdd y 1) 32766 := by unfold pW; simp [e2]
  rw [e1, e3]
  refine ⟨?_, ?_, by unfold pS; simp [e2], by unfold pS; simp [h]⟩
  · unfold oVal oAdd; split <;> split <;> (try split) <;> omega
  · unfold oVal oAdd; repeat' split
    all_goals omega
theorem back2 (y : Int) (h0 : 0 ≤ y) (h1 : y < 32768) : pW (pW y 3) 4 = y := by unfold pW; simp; omega
def sgn (v : Int) : Int := if 0 < v then 1 else if v < 0 then -1 else 0
theorem back3 (y : Int) (h0 : 0 ≤ y) (h1 : y < 32768) : pS y 5 = sgn (oVal y) ∧ oVal (pW y 5) = oVal y - sgn (oVal y) := by
  unfold pS pW sgn oVal
  simp
  repeat' split
  all_goals omega
theorem oVal_lim (a : Int) : -16383 ≤ oVal a ∧ oVal a ≤ 16383 := by unfold oVal; split <;> omega
set_option maxHeartbeats 4000000 in
theorem counterBack_walk (x : Int) (w_x : (Lit.int .u16 x).wf = true) (w : World) :
    Calls Try.prog 7 #[.int .u16 x] w fun e w' => e = .returned (.bool true) ∧ Below w.heap.size w w' := by
  obtain ⟨x0, x1⟩ := bounds_u16 w_x
  clear w_x
  obtain ⟨y, hy⟩ : ∃ y, x % 32768 = y := ⟨_, rfl⟩
  have y0 : 0 ≤ y := by omega
  have y1 : y < 32768 := by omega
  have ym : y % 32768 = y := by omega
  have ya := pW_bd y 1 y0 y1
  have yb := pW_bd (pW y 1) 2 ya.1 ya.2
  have yc := pW_bd y 3 y0 y1
  have yd := pW_bd y 5 y0 y1
  have hc := back2 y y0 y1
  have hd := back3 y y0 y1
  have he : y ≠ 16383 → _ := back1 y y0 y1
  have hf : y = 16383 → pW y 1 = 0 ∧ pS y 1 = 1 := fun h => by subst h; decide
  have la := oVal_lim (pW y 1)
  have lb := oVal_lim (pW (pW y 1) 2)
  have ly := oVal_lim y
  have sa := pS_bd y 1
  have sb := pS_bd (pW y 1) 2
  have am : pW y 1 % 32768 = pW y 1 := by omega
  have cm : pW y 3 % 32768 = pW y 3 := by omega
  have A1 := Lib.hid (Apply_any y 1 y0 (by omega))
  have A2 := Lib.hid (Apply_any (pW y 1) 2 ya.1 (by omega))
  have A3 := Lib.hid (Apply_any y 3 y0 (by omega))
  have A4 := Lib.hid (Apply_any (pW y 3) 4 yc.1 (by omega))
  have A5 := Lib.hid (Apply_any y 5 y0 (by omega))
  rw [ym] at A1 A3 A5
  rw [am] at A2
  rw [cm, hc] at A4
  rw [hd.1] at A5
  have V1 := Lib.hid (Value_any y y0 (by omega))
  have V2 := Lib.hid (Value_any (pW y 1) ya.1 (by omega))
  have V3 := Lib.hid (Value_any (pW (pW y 1) 2) yb.1 (by omega))
  have V4 := Lib.hid (Value_any (pW y 5) yd.1 (by omega))
  rw [hd.2] at V4
  generalize pW (pW y 1) 2 = b at *
  generalize pS (pW y 1) 2 = t at *
  generalize pW y 1 = a at *
  generalize pS y 1 = s at *
  generalize pW y 3 = c at *
  generalize pS y 3 = sc at *
  generalize pW y 5 = d at *
  generalize pS c 4 = s4 at *
  clear hc
  have HF := Lib.hid hf
  have HE := Lib.hid he
  have HD := Lib.hid hd
  clear hf he hd ym am cm
  generalize oVal a = va at *
  generalize oVal b = vb at *
  generalize oVal y = v at *
  have v2 : wrap64 (v - sgn v) = v - sgn v := by unfold sgn wrap64; split <;> (try split) <;> omega
  have HS := Lib.hid (show (0 < v ∧ sgn v = 1) ∨ (¬ 0 < v ∧ v < 0 ∧ sgn v = -1) ∨ (¬ 0 < v ∧ ¬ v < 0 ∧ sgn v = 0) by unfold sgn; split <;> (try split) <;> omega)
  have hx : x % 32768 = y := hy
  clear hy
  have HV : Hid (∃ q, sgn v = q ∧ ((0 < v ∧ q = 1) ∨ (v < 0 ∧ q = -1) ∨ (v = 0 ∧ q = 0))) := ⟨sgn v, rfl, by have := HS.out; omega⟩
  obtain ⟨q, hq, hcs⟩ := HV.out
  rw [hq] at A5 V4 v2
  clear hq HV HS HD
  have HCS := Lib.hid hcs
  clear hcs
  by_cases hc : y = 16383
  · obtain ⟨rfl, rfl⟩ := HF.out hc
    subst hc
    clear HE HF
    rcases HCS.out with ⟨p, rfl⟩ | ⟨p, rfl⟩ | ⟨rfl, rfl⟩
    all_goals
      clear HCS
      go_enter Try.func7, Try.ntmps7
      go_wp2_with (fail)
      refine (A1.out _).mono ?_
      rintro e w1 ⟨rfl, hb⟩
      have X1 := Lib.hid hb
      clear hb
      go_wp2_with (fail)
      refine (A2.out _).mono ?_
      rintro e w2 ⟨rfl, hb⟩
      have X2 := Lib.hid (X1.out.trans (hb.mono X1.out.size))
      clear hb
      go_wp2_with (first | (go_at_call 25; first | (with_reducible refine (V1.out _).mono ?_; rintro e w' ⟨rfl, rfl⟩) | (with_reducible refine (V2.out _).mono ?_; rintro e w' ⟨rfl, rfl⟩) | (with_reducible refine (V3.out _).mono ?_; rintro e w' ⟨rfl, rfl⟩)) | fail)
      refine (A3.out _).mono ?_
      rintro e w3 ⟨rfl, hb⟩
      have X3 := Lib.hid (X2.out.trans (hb.mono X2.out.size))
      clear hb
      go_wp2_with (fail)
      refine (A4.out _).mono ?_
      rintro e w4 ⟨rfl, hb⟩
      have X4 := Lib.hid (X3.out.trans (hb.mono X3.out.size))
      clear hb
      go_wp2_with (fail)
      refine (A5.out _).mono ?_
      rintro e w5 ⟨rfl, hb⟩
      have X5 := Lib.hid (X4.out.trans (hb.mono X4.out.size))
      clear hb
      go_wp2_with (first | (go_at_call 25; first | (with_reducible refine (V1.out _).mono ?_; rintro e w' ⟨rfl, rfl⟩) | (with_reducible refine (V4.out _).mono ?_; rintro e w' ⟨rfl, rfl⟩)) | (go_at_call 16; refine (works_any _).mono ?_; rintro e w9 ⟨rfl, hb⟩; (have X9 := Lib.hid (X5.out.trans (hb.mono X5.out.size))); clear hb) | fail)
      go_ret
      exact ⟨rfl, X9.out⟩
  · obtain ⟨rfl, rfl, rfl, rfl⟩ := HE.out hc
    have hz : (y == 16383) = false := bne_of hc
    clear hc HE HF
    rcases HCS.out with ⟨p, rfl⟩ | ⟨p, rfl⟩ | ⟨rfl, rfl⟩
    all_goals
      clear HCS
      go_enter Try.func7, Try.ntmps7
      go_wp2_with (fail)
      refine (A1.out _).mono ?_
      rintro e w1 ⟨rfl, hb⟩
      have X1 := Lib.hid hb
      clear hb
      go_wp2_with (fail)
      refine (A2.out _).mono ?_
      rintro e w2 ⟨rfl, hb⟩
      have X2 := Lib.hid (X1.out.trans (hb.mono X1.out.size))
      clear hb
      go_wp2_with (first | (go_at_call 25; first | (with_reducible refine (V1.out _).mono ?_; rintro e w' ⟨rfl, rfl⟩) | (with_reducible refine (V2.out _).mono ?_; rintro e w' ⟨rfl, rfl⟩) | (with_reducible refine (V3.out _).mono ?_; rintro e w' ⟨rfl, rfl⟩)) | fail)
      refine (A3.out _).mono ?_
      rintro e w3 ⟨rfl, hb⟩
      have X3 := Lib.hid (X2.out.trans (hb.mono X2.out.size))
      clear hb
      go_wp2_with (fail)
      refine (A4.out _).mono ?_
      rintro e w4 ⟨rfl, hb⟩
      have X4 := Lib.hid (X3.out.trans (hb.mono X3.out.size))
      clear hb
      go_wp2_with (fail)
      refine (A5.out _).mono ?_
      rintro e w5 ⟨rfl, hb⟩
      have X5 := Lib.hid (X4.out.trans (hb.mono X4.out.size))
      clear hb
      go_wp2_with (first | (go_at_call 25; first | (with_reducible refine (V1.out _).mono ?_; rintro e w' ⟨rfl, rfl⟩) | (with_reducible refine (V4.out _).mono ?_; rintro e w' ⟨rfl, rfl⟩)) | (go_at_call 16; refine (works_any _).mono ?_; rintro e w9 ⟨rfl, hb⟩; (have X9 := Lib.hid (X5.out.trans (hb.mono X5.out.size))); clear hb) | fail)
      go_ret
      exact ⟨rfl, X9.out⟩
end Go.Proofs.Ytkobomcpohccdaa
