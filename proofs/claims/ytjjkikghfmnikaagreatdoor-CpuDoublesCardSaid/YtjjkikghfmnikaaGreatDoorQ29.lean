/- Layer 5: the program's instructions that read a word and store one. -/
import Derived.Test.YtjjkikghfmnikaaGreatDoorQ28
set_option linter.unusedSimpArgs false
set_option linter.unusedVariables false
set_option maxRecDepth 100000
namespace Go.Proofs.YtjjkikghfmnikaaGreatDoor
open Go.ChangeShapes Go.WideShapes Go.ChangeAt Go.RowKit
theorem add_bd {x y : Int} (x0 : 0 ≤ x) (x1 : x ≤ 65535) (y0 : 0 ≤ y) (y1 : y ≤ 65535) : 0 ≤ oAddA x y ∧ oAddA x y ≤ 65535 := by unfold oAddA; split <;> omega
theorem ext_bd (x : Int) : 0 ≤ oExt x ∧ oExt x ≤ 65535 := by unfold oExt; split <;> omega
set_option maxHeartbeats 1000000 in
theorem eff_incr : EffC 163 effINCR true := by
  intro B g s v ea ec fa fc ca cc w hl hs
  have HS := Lib.hid hs
  have gb := g_bd hs.ok v
  have rb := hs.ok.2.A
  have lb := hs.ok.2.L
  have qb := hs.ok.2.Q
  have l7 : s.r.L ≤ 32767 := hs.ok.1.1
  have q7 : s.r.Q ≤ 32767 := hs.ok.1.2.1
  have hl2 := St.len_rdO s
  unfold effINCR
  obtain ⟨x, hx⟩ : ∃ x, s.g v = x := ⟨_, rfl⟩
  rw [hx] at gb
  simp only [hx]
  have HX := Lib.hid hx
  have yb := add_bd gb.1 gb.2 (show (0 : Int) ≤ 1 by omega) (by omega)
  clear hs hx
  go_enter Tryz.func163, Tryz.ntmps163
  go_wp2_with (first
    | (go_at_call 152; refine (get_any B g s _ v ea ec fa fc ca cc x HX.out (by omega) _ HS.out).mono ?_; rintro e w1 ⟨rfl, h1, hb⟩; (have H1 := Lib.hid h1); (have X1 := Lib.hid hb); clear h1 hb)
    | (go_at_call 153; refine (AddAcc_any _ (by omega) (by omega) _ (by omega) (by omega) _).mono ?_; rintro e w2 ⟨rfl, rfl⟩)
    | (go_at_call 190; refine (put_any B g s.rdO true v ea ec fa fc ca cc (oAddA x 1) yb.1 yb.2 (by omega) _ H1.out).mono ?_; rintro e w4 ⟨rfl, h4, hb⟩; (have H4 := Lib.hid h4); (have X4 := Lib.hid (X1.out.trans hb)); clear h4 hb))
  go_end0
  exact ⟨rfl, H4.out, X4.out⟩
set_option maxHeartbeats 1000000 in
theorem eff_aug : EffC 171 (fun s v => (s.rdO).put s.sa (augV (s.g v))) true := by
  intro B g s v ea ec fa fc ca cc w hl hs
  have HS := Lib.hid hs
  have gb := g_bd hs.ok v
  have rb := hs.ok.2.A
  have lb := hs.ok.2.L
  have qb := hs.ok.2.Q
  have l7 : s.r.L ≤ 32767 := hs.ok.1.1
  have q7 : s.r.Q ≤ 32767 := hs.ok.1.2.1
  have hl2 := St.len_rdO s
  unfold augV
  obtain ⟨x, hx⟩ : ∃ x, s.g v = x := ⟨_, rfl⟩
  rw [hx] at gb
  simp only [hx]
  have HX := Lib.hid hx
  clear hs hx
  by_cases e : 32767 < x
  · simp only [if_pos e]
    have yb := add_bd gb.1 gb.2 (show (0 : Int) ≤ 65534 by omega) (by omega)
    go_enter Tryz.func171, Tryz.ntmps171
    go_wp2_with (first
      | (go_at_call 152; refine (get_any B g s _ v ea ec fa fc ca cc x HX.out (by omega) _ HS.out).mono ?_; rintro e w1 ⟨rfl, h1, hb⟩; (have H1 := Lib.hid h1); (have X1 := Lib.hid hb); clear h1 hb)
      | (go_at_call 153; refine (AddAcc_any _ (by omega) (by omega) _ (by omega) (by omega) _).mono ?_; rintro e w2 ⟨rfl, rfl⟩)
      | (go_at_call 190; refine (put_any B g s.rdO true v ea ec fa fc ca cc (oAddA x 65534) yb.1 yb.2 (by omega) _ H1.out).mono ?_; rintro e w4 ⟨rfl, h4, hb⟩; (have H4 := Lib.hid h4); (have X4 := Lib.hid (X1.out.trans hb)); clear h4 hb))
    go_end0
    exact ⟨rfl, H4.out, X4.out⟩
  · simp only [if_neg e]
    have yb := add_bd gb.1 gb.2 (show (0 : Int) ≤ 1 by omega) (by omega)
    go_enter Tryz.func171, Tryz.ntmps171
    go_wp2_with (first
      | (go_at_call 152; refine (get_any B g s _ v ea ec fa fc ca cc x HX.out (by omega) _ HS.out).mono ?_; rintro e w1 ⟨rfl, h1, hb⟩; (have H1 := Lib.hid h1); (have X1 := Lib.hid hb); clear h1 hb)
      | (go_at_call 153; refine (AddAcc_any _ (by omega) (by omega) _ (by omega) (by omega) _).mono ?_; rintro e w2 ⟨rfl, rfl⟩)
      | (go_at_call 190; refine (put_any B g s.rdO true v ea ec fa fc ca cc (oAddA x 1) yb.1 yb.2 (by omega) _ H1.out).mono ?_; rintro e w4 ⟨rfl, h4, hb⟩; (have H4 := Lib.hid h4); (have X4 := Lib.hid (X1.out.trans hb)); clear h4 hb))
    go_end0
    exact ⟨rfl, H4.out, X4.out⟩
set_option maxHeartbeats 1000000 in
theorem eff_dim : EffC 172 (fun s v => (s.rdO).put s.sa (dimV (s.g v))) true := by
  intro B g s v ea ec fa fc ca cc w hl hs
  have HS := Lib.hid hs
  have gb := g_bd hs.ok v
  have rb := hs.ok.2.A
  have lb := hs.ok.2.L
  have qb := hs.ok.2.Q
  have l7 : s.r.L ≤ 32767 := hs.ok.1.1
  have q7 : s.r.Q ≤ 32767 := hs.ok.1.2.1
  have hl2 := St.len_rdO s
  obtain ⟨x, hx⟩ : ∃ x, s.g v = x := ⟨_, rfl⟩
  rw [hx] at gb
  simp only [hx]
  have HX := Lib.hid hx
  clear hs hx
  have cs : (oClass x = 0 ∧ 1 ≤ x ∧ dimV x = x - 1) ∨ (oClass x = 2 ∧ x ≤ 65534 ∧ 32768 ≤ x ∧ dimV x = x + 1) ∨ (oClass x = 1 ∧ dimV x = x) ∨ (oClass x = 3 ∧ dimV x = x) := by
    have c : oClass x = 0 ∧ 1 ≤ x ∨ oClass x = 2 ∧ x ≤ 65534 ∧ 32768 ≤ x ∨ oClass x = 1 ∨ oClass x = 3 := by unfold oClass; repeat (first | omega | split)
    rcases c with ⟨c, c1⟩ | ⟨c, c1, c2⟩ | c | c
    · exact .inl ⟨c, c1, by unfold dimV; rw [c]; rfl⟩
    · exact .inr (.inl ⟨c, c1, c2, by unfold dimV; rw [c]; rfl⟩)
    · exact .inr (.inr (.inl ⟨c, by unfold dimV; rw [c]; rfl⟩))
    · exact .inr (.inr (.inr ⟨c, by unfold dimV; rw [c]; rfl⟩))
  rcases cs with ⟨c, c1, d⟩ | ⟨c, c1, c2, d⟩ | ⟨c, d⟩ | ⟨c, d⟩
  · have HC := Lib.hid c
    simp only [d]
    clear c d
    have wr1 : IntKind.u16.wrap (x - 1) = x - 1 := IntWalk.u16_in _ (by omega)
    have yb : 0 ≤ x - 1 ∧ x - 1 ≤ 65535 := by omega
    go_enter Tryz.func172, Tryz.ntmps172
    go_wp2_with (first
      | (go_at_call 152; refine (get_any B g s _ v ea ec fa fc ca cc x HX.out (by omega) _ HS.out).mono ?_; rintro e w1 ⟨rfl, h1, hb⟩; (have H1 := Lib.hid h1); (have X1 := Lib.hid hb); clear h1 hb)
      | (go_at_call 187; refine (Class_any _ (by omega) (by omega) _).mono ?_; rintro e w3 ⟨rfl, rfl⟩; rw [HC.out])
      | (go_at_call 190; refine (put_any B g s.rdO true v ea ec fa fc ca cc (x - 1) yb.1 yb.2 (by omega) _ H1.out).mono ?_; rintro e w4 ⟨rfl, h4, hb⟩; (have H4 := Lib.hid h4); (have X4 := Lib.hid (X1.out.trans hb)); clear h4 hb))
    go_end0
    exact ⟨rfl, H4.out, X4.out⟩
  · have HC := Lib.hid c
    simp only [d]
    clear c d
    have wr1 : IntKind.u16.wrap (x + 1) = x + 1 := IntWalk.u16_in _ (by omega)
    have yb : 0 ≤ x + 1 ∧ x + 1 ≤ 65535 := by omega
    go_enter Tryz.func172, Tryz.ntmps172
    go_wp2_with (first
      | (go_at_call 152; refine (get_any B g s _ v ea ec fa fc ca cc x HX.out (by omega) _ HS.out).mono ?_; rintro e w1 ⟨rfl, h1, hb⟩; (have H1 := Lib.hid h1); (have X1 := Lib.hid hb); clear h1 hb)
      | (go_at_call 187; refine (Class_any _ (by omega) (by omega) _).mono ?_; rintro e w3 ⟨rfl, rfl⟩; rw [HC.out])
      | (go_at_call 190; refine (put_any B g s.rdO true v ea ec fa fc ca cc (x + 1) yb.1 yb.2 (by omega) _ H1.out).mono ?_; rintro e w4 ⟨rfl, h4, hb⟩; (have H4 := Lib.hid h4); (have X4 := Lib.hid (X1.out.trans hb)); clear h4 hb))
    go_end0
    exact ⟨rfl, H4.out, X4.out⟩
  · have HC := Lib.hid c
    simp only [d]
    clear c d
    have wr1 : IntKind.u16.wrap (x) = x := IntWalk.u16_in _ (by omega)
    have yb : 0 ≤ x ∧ x ≤ 65535 := by omega
    go_enter Tryz.func172, Tryz.ntmps172
    go_wp2_with (first
      | (go_at_call 152; refine (get_any B g s _ v ea ec fa fc ca cc x HX.out (by omega) _ HS.out).mono ?_; rintro e w1 ⟨rfl, h1, hb⟩; (have H1 := Lib.hid h1); (have X1 := Lib.hid hb); clear h1 hb)
      | (go_at_call 187; refine (Class_any _ (by omega) (by omega) _).mono ?_; rintro e w3 ⟨rfl, rfl⟩; rw [HC.out])
      | (go_at_call 190; refine (put_any B g s.rdO true v ea ec fa fc ca cc (x) yb.1 yb.2 (by omega) _ H1.out).mono ?_; rintro e w4 ⟨rfl, h4, hb⟩; (have H4 := Lib.hid h4); (have X4 := Lib.hid (X1.out.trans hb)); clear h4 hb))
    go_end0
    exact ⟨rfl, H4.out, X4.out⟩
  · have HC := Lib.hid c
    simp only [d]
    clear c d
    have wr1 : IntKind.u16.wrap (x) = x := IntWalk.u16_in _ (by omega)
    have yb : 0 ≤ x ∧ x ≤ 65535 := by omega
    go_enter Tryz.func172, Tryz.ntmps172
    go_wp2_with (first
      | (go_at_call 152; refine (get_any B g s _ v ea ec fa fc ca cc x HX.out (by omega) _ HS.out).mono ?_; rintro e w1 ⟨rfl, h1, hb⟩; (have H1 := Lib.hid h1); (have X1 := Lib.hid hb); clear h1 hb)
      | (go_at_call 187; refine (Class_any _ (by omega) (by omega) _).mono ?_; rintro e w3 ⟨rfl, rfl⟩; rw [HC.out])
      | (go_at_call 190; refine (put_any B g s.rdO true v ea ec fa fc ca cc (x) yb.1 yb.2 (by omega) _ H1.out).mono ?_; rintro e w4 ⟨rfl, h4, hb⟩; (have H4 := Lib.hid h4); (have X4 := Lib.hid (X1.out.trans hb)); clear h4 hb))
    go_end0
    exact ⟨rfl, H4.out, X4.out⟩
set_option maxHeartbeats 1000000 in
theorem eff_lxch : EffC 162 effLXCH true := by
  intro B g s v ea ec fa fc ca cc w hl hs
  have HS := Lib.hid hs
  have gb := g_bd hs.ok v
  have rb := hs.ok.2.A
  have lb := hs.ok.2.L
  have qb := hs.ok.2.Q
  have l7 : s.r.L ≤ 32767 := hs.ok.1.1
  have q7 : s.r.Q ≤ 32767 := hs.ok.1.2.1
  have hl2 := St.len_rdO s
  unfold effLXCH
  obtain ⟨x, hx⟩ : ∃ x, s.g v = x := ⟨_, rfl⟩
  rw [hx] at gb
  simp only [hx]
  have HX := Lib.hid hx
  have eb := ext_bd s.r.L
  have cb := corr_bd gb.1 gb.2
  clear hs hx
  go_enter Tryz.func162, Tryz.ntmps162
  go_wp2_with (first
    | (go_at_call 152; refine (get_any B g s _ v ea ec fa fc ca cc x HX.out (by omega) _ HS.out).mono ?_; rintro e w1 ⟨rfl, h1, hb⟩; (have H1 := Lib.hid h1); (have X1 := Lib.hid hb); (have d1 : w1.cell? ⟨g, 1, none⟩ = some (.int .u16 s.r.L) := by obtain ⟨_, _, _, k⟩ := h1; exact k.b.cell 1 _ rfl); clear h1 hb)
    | (go_at_call 26; refine (Extend_any _ (by omega) (by omega) _).mono ?_; rintro e w2 ⟨rfl, rfl⟩)
    | (go_at_call 190; refine (put_any B g s.rdO true v ea ec fa fc ca cc (oExt s.r.L) eb.1 eb.2 (by omega) _ H1.out).mono ?_; rintro e w4 ⟨rfl, h4, hb⟩; (obtain ⟨vC, vO, vR, h5⟩ := h4); (have H5 := Lib.hid h5); (have c1 := h5.b.cell 1 _ rfl); (have f1 := h5.b.free 1 _ rfl); (have X4 := Lib.hid (X1.out.trans hb)); clear h5 hb)
    | (go_at_call 28; refine (Correct_any _ (by omega) (by omega) _).mono ?_; rintro e w3 ⟨rfl, rfl⟩))
  go_end0
  exact ⟨rfl, ⟨_, _, _, H5.out.set 1 (by omega) (.int .u16 (oCorr x)) _ _ true rfl (ok_L H5.out.ok cb.1 cb.2)⟩, X4.out.setCell (p := ⟨g, 1, none⟩) H5.out.lo _⟩
set_option maxHeartbeats 1000000 in
theorem eff_qxch : EffC 170 effQXCH true := by
  intro B g s v ea ec fa fc ca cc w hl hs
  have HS := Lib.hid hs
  have gb := g_bd hs.ok v
  have rb := hs.ok.2.A
  have lb := hs.ok.2.L
  have qb := hs.ok.2.Q
  have l7 : s.r.L ≤ 32767 := hs.ok.1.1
  have q7 : s.r.Q ≤ 32767 := hs.ok.1.2.1
  have hl2 := St.len_rdO s
  unfold effQXCH
  obtain ⟨x, hx⟩ : ∃ x, s.g v = x := ⟨_, rfl⟩
  rw [hx] at gb
  simp only [hx]
  have HX := Lib.hid hx
  have eb := ext_bd s.r.Q
  have cb := corr_bd gb.1 gb.2
  clear hs hx
  go_enter Tryz.func170, Tryz.ntmps170
  go_wp2_with (first
    | (go_at_call 152; refine (get_any B g s _ v ea ec fa fc ca cc x HX.out (by omega) _ HS.out).mono ?_; rintro e w1 ⟨rfl, h1, hb⟩; (have H1 := Lib.hid h1); (have X1 := Lib.hid hb); (have d2 : w1.cell? ⟨g, 2, none⟩ = some (.int .u16 s.r.Q) := by obtain ⟨_, _, _, k⟩ := h1; exact k.b.cell 2 _ rfl); clear h1 hb)
    | (go_at_call 26; refine (Extend_any _ (by omega) (by omega) _).mono ?_; rintro e w2 ⟨rfl, rfl⟩)
    | (go_at_call 190; refine (put_any B g s.rdO true v ea ec fa fc ca cc (oExt s.r.Q) eb.1 eb.2 (by omega) _ H1.out).mono ?_; rintro e w4 ⟨rfl, h4, hb⟩; (obtain ⟨vC, vO, vR, h5⟩ := h4); (have H5 := Lib.hid h5); (have c2 := h5.b.cell 2 _ rfl); (have f2 := h5.b.free 2 _ rfl); (have X4 := Lib.hid (X1.out.trans hb)); clear h5 hb)
    | (go_at_call 28; refine (Correct_any _ (by omega) (by omega) _).mono ?_; rintro e w3 ⟨rfl, rfl⟩))
  go_end0
  exact ⟨rfl, ⟨_, _, _, H5.out.set 2 (by omega) (.int .u16 (oCorr x)) _ _ true rfl (ok_Q H5.out.ok cb.1 cb.2)⟩, X4.out.setCell (p := ⟨g, 2, none⟩) H5.out.lo _⟩
set_option maxHeartbeats 1000000 in
theorem eff_xch : EffC 167 effXCH true := by
  intro B g s v ea ec fa fc ca cc w hl hs
  have HS := Lib.hid hs
  have gb := g_bd hs.ok v
  have rb := hs.ok.2.A
  have lb := hs.ok.2.L
  have qb := hs.ok.2.Q
  have l7 : s.r.L ≤ 32767 := hs.ok.1.1
  have q7 : s.r.Q ≤ 32767 := hs.ok.1.2.1
  have hl2 := St.len_rdO s
  unfold effXCH
  obtain ⟨x, hx⟩ : ∃ x, s.g v = x := ⟨_, rfl⟩
  rw [hx] at gb
  simp only [hx]
  have HX := Lib.hid hx
  have eb := ext_bd s.r.A
  have cb := corr_bd gb.1 gb.2
  clear hs hx
  go_enter Tryz.func167, Tryz.ntmps167
  go_wp2_with (first
    | (go_at_call 152; refine (get_any B g s _ v ea ec fa fc ca cc x HX.out (by omega) _ HS.out).mono ?_; rintro e w1 ⟨rfl, h1, hb⟩; (have H1 := Lib.hid h1); (have X1 := Lib.hid hb); (have d0 : w1.cell? ⟨g, 0, none⟩ = some (.int .u16 s.r.A) := by obtain ⟨_, _, _, k⟩ := h1; exact k.b.cell 0 _ rfl); clear h1 hb)
    | (go_at_call 190; refine (put_any B g s.rdO true v ea ec fa fc ca cc s.r.A rb.1 rb.2 (by omega) _ H1.out).mono ?_; rintro e w4 ⟨rfl, h4, hb⟩; (obtain ⟨vC, vO, vR, h5⟩ := h4); (have H5 := Lib.hid h5); (have c0 := h5.b.cell 0 _ rfl); (have f0 := h5.b.free 0 _ rfl); (have X4 := Lib.hid (X1.out.trans hb)); clear h5 hb)
    | (go_at_call 28; refine (Correct_any _ (by omega) (by omega) _).mono ?_; rintro e w3 ⟨rfl, rfl⟩))
  go_end0
  exact ⟨rfl, ⟨_, _, _, H5.out.set 0 (by omega) (.int .u16 x) _ _ true rfl (ok_A H5.out.ok gb.1 gb.2)⟩, X4.out.setCell (p := ⟨g, 0, none⟩) H5.out.lo _⟩
end Go.Proofs.YtjjkikghfmnikaaGreatDoor
