/- Layer 5: the program's MP and DV. -/
import Derived.Test.YtjjkikghfmnikaaGreatDoorQ35
import Derived.Deep.RegionLaw
set_option linter.unusedSimpArgs false
set_option linter.unusedVariables false
set_option maxRecDepth 100000
namespace Go.Proofs.YtjjkikghfmnikaaGreatDoor
open Go.ChangeShapes Go.WideShapes Go.ChangeAt Go.RowKit
theorem mulHi_bd (a b : Int) : 0 ≤ mulHi a b ∧ mulHi a b ≤ 32767 := by
  have := mul_bd a b
  unfold mulHi oNg; split <;> omega
theorem mulLo_bd (a b : Int) : 0 ≤ mulLo a b ∧ mulLo a b ≤ 32767 := by
  unfold mulLo oNg; split <;> omega
set_option maxHeartbeats 1000000 in
theorem eff_mp : EffC 103 effMP true := by
  intro B g s v ea ec fa fc ca cc w hl hs
  have HS := Lib.hid hs
  have gb := g_bd hs.ok v
  have rb := hs.ok.2.A
  have ca0 := corr_bd rb.1 rb.2
  unfold effMP
  obtain ⟨x, hx⟩ : ∃ x, s.g v = x := ⟨_, rfl⟩
  rw [hx] at gb ⊢
  have cb := corr_bd gb.1 gb.2
  have hb1 := mulHi_bd (oCorr s.r.A) (oCorr x)
  have lb1 := mulLo_bd (oCorr s.r.A) (oCorr x)
  obtain ⟨hi, hhi⟩ : ∃ hi, mulHi (oCorr s.r.A) (oCorr x) = hi := ⟨_, rfl⟩
  obtain ⟨lo, hlo⟩ : ∃ lo, mulLo (oCorr s.r.A) (oCorr x) = lo := ⟨_, rfl⟩
  rw [hhi] at hb1 ⊢
  rw [hlo] at lb1 ⊢
  have eb := ext_bd hi
  have HX := Lib.hid hx
  have HHI := Lib.hid hhi
  have HLO := Lib.hid hlo
  clear hs hx hhi hlo
  go_enter Tryz.func103, Tryz.ntmps103
  go_wp2_with (first
    | (go_at_call 154; refine (word_any B g s _ v ea ec fa fc ca cc _ HS.out).mono ?_; rintro e w0 ⟨rfl, rfl⟩)
    | (go_at_call 152; refine (get_any B g s _ v ea ec fa fc ca cc x HX.out (by omega) _ HS.out).mono ?_; rintro e w1 ⟨rfl, ⟨vC, vO, vR, h1⟩, hb⟩; (have H1 := Lib.hid h1); (have X1 := Lib.hid hb); clear h1 hb)
    | (go_at_call 28; refine (Correct_any _ (by omega) (by omega) _).mono ?_; rintro e w3 ⟨rfl, rfl⟩)
    | (go_at_call 31; refine (Multiply_any _ _ hi lo (by omega) (by omega) (by omega) (by omega) HHI.out HLO.out _).mono ?_; rintro e w3 ⟨rfl, m, rfl⟩; (have H2 := Lib.hid (H1.out.below (below_drewN (Below.refl w1.heap.size w1) m) (Nat.le_refl _))); (have X2 := Lib.hid (below_drewN X1.out m)); (have c0 : (w1.drewN m).cell? ⟨g, 0, none⟩ = some (.int .u16 s.r.A) := H2.out.b.cell 0 _ rfl); (have f0 := H2.out.b.free 0 _ rfl); (have c1 : (w1.drewN m).cell? ⟨g, 1, none⟩ = some (.int .u16 s.r.L) := H2.out.b.cell 1 _ rfl); (have f1 := H2.out.b.free 1 _ rfl))
    | (go_at_call 26; refine (Extend_any _ (by omega) (by omega) _).mono ?_; rintro e w3 ⟨rfl, rfl⟩))
  go_end0
  exact ⟨rfl, ⟨_, _, _, (H2.out.set 0 (by omega) (.int .u16 (oExt hi)) _ s.cyc true rfl (ok_A H2.out.ok eb.1 eb.2)).set 1 (by omega) (.int .u16 lo) _ s.cyc true rfl (ok_AL H2.out.ok eb.1 eb.2 lb1.1 lb1.2)⟩, (X2.out.setCell (p := ⟨g, 0, none⟩) H2.out.lo _).setCell (p := ⟨g, 1, none⟩) H2.out.lo _⟩
theorem dvQ_bd (a b d : Int) : 0 ≤ dvQ a b d ∧ dvQ a b d ≤ 32767 := by
  have bn := dvN_bd a b
  have bm := mag_bd d
  unfold dvQ oNg
  simp only []
  by_cases c : dvOk a b d
  · rw [if_pos c]
    have c2 : dvN a b < 16384 * mag d := c
    have m0 : 0 < mag d := by omega
    have q0 : 0 ≤ dvN a b / mag d := Int.ediv_nonneg bn.1 bm.1
    have q1 : dvN a b / mag d < 16384 := Int.ediv_lt_of_lt_mul m0 c2
    split <;> omega
  · rw [if_neg c]; split <;> omega
theorem dvR_bd (a b d : Int) : 0 ≤ dvR a b d ∧ dvR a b d ≤ 32767 := by
  have bn := dvN_bd a b
  have bm := mag_bd d
  unfold dvR oNg
  by_cases c : dvOk a b d
  · rw [if_pos c]
    have c2 : dvN a b < 16384 * mag d := c
    have m0 : mag d ≠ 0 := by omega
    have q2 := Int.emod_nonneg (dvN a b) m0
    have q3 := Int.emod_lt_of_pos (dvN a b) (show 0 < mag d by omega)
    split <;> omega
  · rw [if_neg c]; omega
set_option maxHeartbeats 2000000 in
theorem eff_dv : EffC 168 effDV true := by
  intro B g s v ea ec fa fc ca cc w hl hs
  have HS := Lib.hid hs
  have gb := g_bd hs.ok v
  have rb := hs.ok.2.A
  have lb := hs.ok.2.L
  have ca0 := corr_bd rb.1 rb.2
  unfold effDV
  obtain ⟨x, hx⟩ : ∃ x, s.g v = x := ⟨_, rfl⟩
  rw [hx] at gb ⊢
  have cb := corr_bd gb.1 gb.2
  have hb1 := dvQ_bd (oCorr s.r.A) s.r.L (oCorr x)
  have lb1 := dvR_bd (oCorr s.r.A) s.r.L (oCorr x)
  obtain ⟨hi, hhi⟩ : ∃ hi, dvQ (oCorr s.r.A) s.r.L (oCorr x) = hi := ⟨_, rfl⟩
  obtain ⟨lo, hlo⟩ : ∃ lo, dvR (oCorr s.r.A) s.r.L (oCorr x) = lo := ⟨_, rfl⟩
  rw [hhi] at hb1 ⊢
  rw [hlo] at lb1 ⊢
  have eb := ext_bd hi
  have HX := Lib.hid hx
  have HHI := Lib.hid hhi
  have HLO := Lib.hid hlo
  have HD := Lib.hid (HS.out.below (Below.refl _ _).drew (Nat.le_refl _))
  obtain ⟨vC0, vO0, vR0, h0⟩ := HS.out
  have q1 : w.drew.cell? ⟨g, 1, none⟩ = some (.int .u16 s.r.L) := h0.b.cell 1 _ rfl
  clear hs hx hhi hlo h0
  go_enter Tryz.func168, Tryz.ntmps168
  go_upto_region 0 with (fail)
  go_region_law (first
    | (go_simp; go_at_call 154; refine (word_any B g s _ v ea ec fa fc ca cc w.drew HD.out).mono ?_; rintro e w0 ⟨rfl, rfl⟩)
    | (go_simp; go_at_call 152; refine (get_any B g s _ v ea ec fa fc ca cc x HX.out (by omega) _ HD.out).mono ?_; rintro e w1 ⟨rfl, ⟨vC, vO, vR, h1⟩, hb⟩; (have H1 := Lib.hid h1); (have X1 := Lib.hid (from_drewB hb)); (have r1 : w1.cell? ⟨g, 1, none⟩ = some (.int .u16 s.r.L) := h1.b.cell 1 _ rfl); clear h1 hb)
    | (go_simp; go_at_call 28; refine (Correct_any _ (by omega) (by omega) w1).mono ?_; rintro e w3 ⟨rfl, rfl⟩)
    | (go_simp; go_at_call 32; refine (Divide_any _ _ _ hi lo (by omega) (by omega) (by omega) (by omega) (by omega) (by omega) HHI.out HLO.out w1).mono ?_; rintro e w3 ⟨rfl, m, rfl⟩; (have H2 := Lib.hid (H1.out.below (below_drewN (Below.refl w1.heap.size w1) m) (Nat.le_refl _))); (have X2 := Lib.hid (below_drewN X1.out m)); (have c0 : (w1.drewN m).cell? ⟨g, 0, none⟩ = some (.int .u16 s.r.A) := H2.out.b.cell 0 _ rfl); (have f0 := H2.out.b.free 0 _ rfl); (have c1 : (w1.drewN m).cell? ⟨g, 1, none⟩ = some (.int .u16 s.r.L) := H2.out.b.cell 1 _ rfl); (have f1 := H2.out.b.free 1 _ rfl))
    | fail)
  all_goals
    go_wp2_with (go_at_call 26; refine (Extend_any _ (by omega) (by omega) _).mono ?_; rintro e w3 ⟨rfl, rfl⟩)
    go_end0
    exact ⟨rfl, ⟨_, _, _, (H2.out.set 0 (by omega) (.int .u16 (oExt hi)) _ s.cyc true rfl (ok_A H2.out.ok eb.1 eb.2)).set 1 (by omega) (.int .u16 lo) _ s.cyc true rfl (ok_AL H2.out.ok eb.1 eb.2 lb1.1 lb1.2)⟩, (X2.out.setCell (p := ⟨g, 0, none⟩) H2.out.lo _).setCell (p := ⟨g, 1, none⟩) H2.out.lo _⟩
end Go.Proofs.YtjjkikghfmnikaaGreatDoor
