/- Layer 5: the program's instructions that remain. -/
import Derived.Test.YtjjkikghfmnikaaGreatDoorQ31
import Derived.Deep.RegionLaw
set_option linter.unusedSimpArgs false
set_option linter.unusedVariables false
set_option maxRecDepth 100000
namespace Go.Proofs.YtjjkikghfmnikaaGreatDoor
open Go.ChangeShapes Go.WideShapes Go.ChangeAt Go.RowKit
set_option maxHeartbeats 1000000 in
theorem eff_ads : EffC 164 effADS true := by
  intro B g s v ea ec fa fc ca cc w hl hs
  have HS := Lib.hid hs
  have gb := g_bd hs.ok v
  have rb := hs.ok.2.A
  have lb := hs.ok.2.L
  have qb := hs.ok.2.Q
  have l7 : s.r.L ≤ 32767 := hs.ok.1.1
  have q7 : s.r.Q ≤ 32767 := hs.ok.1.2.1
  have hl2 := St.len_rdO s
  unfold effADS
  obtain ⟨x, hx⟩ : ∃ x, s.g v = x := ⟨_, rfl⟩
  rw [hx] at gb
  simp only [hx]
  have HX := Lib.hid hx
  have yb := add_bd rb.1 rb.2 gb.1 gb.2
  clear hs hx
  have HD := Lib.hid (HS.out.below (Below.refl _ _).drew (Nat.le_refl _))
  obtain ⟨vC0, vO0, vR0, h0⟩ := HS.out
  have q0 : w.drew.cell? ⟨g, 0, none⟩ = some (.int .u16 s.r.A) := h0.b.cell 0 _ rfl
  clear h0
  go_enter Tryz.func164, Tryz.ntmps164
  go_upto_region 0 with (fail)
  go_region_law (first
    | (go_simp; go_at_call 152; refine (get_any B g s _ v ea ec fa fc ca cc x HX.out (by omega) _ HD.out).mono ?_; rintro e w1 ⟨rfl, h1, hb⟩; (have H1 := Lib.hid h1); (have X1 := Lib.hid hb); (obtain ⟨vC, vO, vR, h2⟩ := id h1); (have c0 : w1.cell? ⟨g, 0, none⟩ = some (.int .u16 s.r.A) := h2.b.cell 0 _ rfl); clear h2; clear h1 hb)
    | (go_simp; go_at_call 153; refine (AddAcc_any _ (by omega) (by omega) _ (by omega) (by omega) w1).mono ?_; rintro e w2 ⟨rfl, rfl⟩)
    | fail)
  all_goals
    go_wp2_with (first
      | (go_at_call 190; refine (put_any B g s.rdO true v ea ec fa fc ca cc (oAddA s.r.A x) yb.1 yb.2 (by omega) _ H1.out).mono ?_; rintro e w4 ⟨rfl, h4, hb⟩; (obtain ⟨vC, vO, vR, h5⟩ := h4); (have H5 := Lib.hid h5); (have d0 := h5.b.cell 0 _ rfl); (have f0 := h5.b.free 0 _ rfl); (have X4 := Lib.hid (X1.out.trans hb)); clear h5 hb))
    go_end0
    exact ⟨rfl, ⟨_, _, _, H5.out.set 0 (by omega) (.int .u16 (oAddA s.r.A x)) _ _ true rfl (ok_A H5.out.ok yb.1 yb.2)⟩, (from_drewB X4.out).setCell (p := ⟨g, 0, none⟩) H5.out.lo _⟩
set_option maxHeartbeats 4000000 in
theorem eff_das : EffC 161 effDAS true := by
  intro B g s v ea ec fa fc ca cc w hl hs
  have HS := Lib.hid hs
  have gb := g_bd hs.ok v
  have ab := gA_bd hs.ok v
  have rb := hs.ok.2.A
  have lb := hs.ok.2.L
  have eb := ext_bd s.r.L
  have hl2 := St.len_rdA s
  have hl3 := St.len_rdO s.rdA
  have HX0 : Hid (valP (s.rdA).r v (s.rdA).ss (s.rdA).sa = s.g v) := rfl
  have HY0 : Hid (valP s.r v s.ss (nxtP s.ss s.sa) = s.gA v) := rfl
  unfold effDAS dasU dasT
  obtain ⟨x, hx⟩ : ∃ x, s.g v = x := ⟨_, rfl⟩
  obtain ⟨y, hy⟩ : ∃ y, s.gA v = y := ⟨_, rfl⟩
  rw [hx] at gb HX0
  rw [hy] at ab HY0
  simp only [hx, hy]
  have tb := add_bd ab.1 ab.2 eb.1 eb.2
  obtain ⟨t, ht⟩ : ∃ t, oAddA y (oExt s.r.L) = t := ⟨_, rfl⟩
  rw [ht] at tb
  simp only [ht]
  have cb := sg_bd (oOver t)
  obtain ⟨c, hc⟩ : ∃ c, sg (oOver t) = c := ⟨_, rfl⟩
  rw [hc] at cb
  simp only [hc]
  have xb := add_bd gb.1 gb.2 rb.1 rb.2
  have ub := add_bd xb.1 xb.2 cb.1 cb.2
  obtain ⟨u, hu⟩ : ∃ u, oAddA (oAddA x s.r.A) c = u := ⟨_, rfl⟩
  rw [hu] at ub
  simp only [hu]
  have ct := corr_bd tb.1 tb.2
  have ob := sg_bd (oOver u)
  have HT := Lib.hid ht
  have HC := Lib.hid hc
  have HU := Lib.hid hu
  clear hs hx hy ht hc hu
  have hl4 := St.len_put (s.rdA).rdO (nxtP s.ss s.sa) t
  have hsa : Hid ((((s.rdA).rdO).put (nxtP s.ss s.sa) t).sa = s.sa) := St.put_sa _ _ _
  by_cases d : s.sa = 0
  · have t1 : (s.sa == 0) = true := by rw [beq_iff_eq]; exact d
    simp only [if_pos d]
    clear d
    go_enter Tryz.func161, Tryz.ntmps161
    go_wp2_with (first
      | (go_at_call 155; refine (getAfter_any B g s _ v ea ec fa fc ca cc y HY0.out (by omega) _ HS.out).mono ?_; rintro e w1 ⟨rfl, h1, hb⟩; (have H1 := Lib.hid h1); (have X1 := Lib.hid hb); clear h1 hb)
      | (go_at_call 152; refine (get_any B g s.rdA true v ea ec fa fc ca cc x HX0.out (by omega) _ H1.out).mono ?_; rintro e w2 ⟨rfl, ⟨vC, vO, vR, h2⟩, hb⟩; (have H2 := Lib.hid h2); (have X2 := Lib.hid (X1.out.trans hb)); (have c0 : w2.cell? ⟨g, 0, none⟩ = some (.int .u16 s.r.A) := h2.b.cell 0 _ rfl); (have f0 := h2.b.free 0 _ rfl); (have c1 : w2.cell? ⟨g, 1, none⟩ = some (.int .u16 s.r.L) := h2.b.cell 1 _ rfl); (have f1 := h2.b.free 1 _ rfl); (have c18 : w2.cell? ⟨g, 18, none⟩ = some (.int .i64 s.sa) := h2.b.cell 18 _ rfl); clear h2 hb)
      | (go_at_call 26; refine (Extend_any _ (by omega) (by omega) _).mono ?_; rintro e w3 ⟨rfl, rfl⟩)
      | (go_at_call 28; refine (Correct_any _ (by omega) (by omega) _).mono ?_; rintro e w3 ⟨rfl, rfl⟩)
      | (go_at_call_of 153 (Value.int IntKind.u16 y); refine (AddAcc_any _ (by omega) (by omega) _ (by omega) (by omega) _).mono ?_; rintro e w3 ⟨rfl, rfl⟩; rw [HT.out])
      | (go_at_call_of 153 (Value.int IntKind.u16 c); refine (AddAcc_any _ (by omega) (by omega) _ (by omega) (by omega) _).mono ?_; rintro e w3 ⟨rfl, rfl⟩; rw [HU.out])
      | (go_at_call_of 153 (Value.int IntKind.u16 x); refine (AddAcc_any _ (by omega) (by omega) _ (by omega) (by omega) _).mono ?_; rintro e w3 ⟨rfl, rfl⟩)
      | (go_at_call_of 188 (Value.int IntKind.u16 t); refine (overUnit_any t (by omega) (by omega) _).mono ?_; rintro e w3 ⟨rfl, rfl⟩; rw [HC.out])
      | (go_at_call_of 188 (Value.int IntKind.u16 u); refine (overUnit_any u (by omega) (by omega) _).mono ?_; rintro e w3 ⟨rfl, rfl⟩))
    refine bodyPost_ret (results_none (by kernel_rfl) _ _ _) rfl ?_
    exact ⟨rfl, ⟨_, _, _, (H2.out.set 0 (by omega) (.int .u16 u) _ s.cyc true rfl (ok_A H2.out.ok ub.1 ub.2)).set 1 (by omega) (.int .u16 (oCorr t)) _ s.cyc true rfl (ok_AL H2.out.ok ub.1 ub.2 ct.1 ct.2)⟩, (X2.out.setCell (p := ⟨g, 0, none⟩) H2.out.lo _).setCell (p := ⟨g, 1, none⟩) H2.out.lo _⟩
  · have t1 : (s.sa == 0) = false := by rw [beq_eq_false_iff_ne]; exact d
    simp only [if_neg d]
    clear d
    go_enter Tryz.func161, Tryz.ntmps161
    go_wp2_with (first
      | (go_at_call 155; refine (getAfter_any B g s _ v ea ec fa fc ca cc y HY0.out (by omega) _ HS.out).mono ?_; rintro e w1 ⟨rfl, h1, hb⟩; (have H1 := Lib.hid h1); (have X1 := Lib.hid hb); clear h1 hb)
      | (go_at_call 152; refine (get_any B g s.rdA true v ea ec fa fc ca cc x HX0.out (by omega) _ H1.out).mono ?_; rintro e w2 ⟨rfl, ⟨vC, vO, vR, h2⟩, hb⟩; (have H2 := Lib.hid h2); (have X2 := Lib.hid (X1.out.trans hb)); (have c0 : w2.cell? ⟨g, 0, none⟩ = some (.int .u16 s.r.A) := h2.b.cell 0 _ rfl); (have f0 := h2.b.free 0 _ rfl); (have c1 : w2.cell? ⟨g, 1, none⟩ = some (.int .u16 s.r.L) := h2.b.cell 1 _ rfl); (have f1 := h2.b.free 1 _ rfl); (have c18 : w2.cell? ⟨g, 18, none⟩ = some (.int .i64 s.sa) := h2.b.cell 18 _ rfl); clear h2 hb)
      | (go_at_call 26; refine (Extend_any _ (by omega) (by omega) _).mono ?_; rintro e w3 ⟨rfl, rfl⟩)
      | (go_at_call 28; refine (Correct_any _ (by omega) (by omega) _).mono ?_; rintro e w3 ⟨rfl, rfl⟩)
      | (go_at_call_of 153 (Value.int IntKind.u16 y); refine (AddAcc_any _ (by omega) (by omega) _ (by omega) (by omega) _).mono ?_; rintro e w3 ⟨rfl, rfl⟩; rw [HT.out])
      | (go_at_call_of 153 (Value.int IntKind.u16 c); refine (AddAcc_any _ (by omega) (by omega) _ (by omega) (by omega) _).mono ?_; rintro e w3 ⟨rfl, rfl⟩; rw [HU.out])
      | (go_at_call_of 153 (Value.int IntKind.u16 x); refine (AddAcc_any _ (by omega) (by omega) _ (by omega) (by omega) _).mono ?_; rintro e w3 ⟨rfl, rfl⟩)
      | (go_at_call_of 188 (Value.int IntKind.u16 t); refine (overUnit_any t (by omega) (by omega) _).mono ?_; rintro e w3 ⟨rfl, rfl⟩; rw [HC.out])
      | (go_at_call_of 188 (Value.int IntKind.u16 u); refine (overUnit_any u (by omega) (by omega) _).mono ?_; rintro e w3 ⟨rfl, rfl⟩)
      | (go_at_call 189; refine (putAfter_any B g (s.rdA).rdO true v ea ec fa fc ca cc t tb.1 tb.2 (by omega) _ ⟨_, _, _, H2.out⟩).mono ?_; rintro e w5 ⟨rfl, h5, hb⟩; (have H5 := Lib.hid h5); (have X5 := Lib.hid (X2.out.trans hb)); clear h5 hb)
      | (go_at_call 190; refine (put_any B g (((s.rdA).rdO).put (nxtP s.ss s.sa) t) true v ea ec fa fc ca cc u ub.1 ub.2 (by omega) _ H5.out).mono ?_; rintro e w6 ⟨rfl, h6, hb⟩; (rw [hsa.out] at h6); (obtain ⟨vC, vO, vR, h7⟩ := h6); (have H7 := Lib.hid h7); (have d0 := h7.b.cell 0 _ rfl); (have g0 := h7.b.free 0 _ rfl); (have d1 := h7.b.cell 1 _ rfl); (have g1 := h7.b.free 1 _ rfl); (have X7 := Lib.hid (X5.out.trans hb)); clear h7 hb))
    go_end0
    exact ⟨rfl, ⟨_, _, _, (H7.out.set 0 (by omega) (.int .u16 (sg (oOver u))) _ _ true rfl (ok_A H7.out.ok ob.1 ob.2)).set 1 (by omega) (.int .u16 0) _ _ true rfl (ok_AL H7.out.ok ob.1 ob.2 (by omega) (by omega))⟩, (X7.out.setCell (p := ⟨g, 0, none⟩) H7.out.lo _).setCell (p := ⟨g, 1, none⟩) H7.out.lo _⟩
end Go.Proofs.YtjjkikghfmnikaaGreatDoor
