/- Layer 5: the program's instructions INDEX, XINDEX, RESUME, and those that store. -/
import Derived.Test.YtjjkikghfmnikaaGreatDoorQ27
set_option linter.unusedSimpArgs false
set_option linter.unusedVariables false
set_option maxRecDepth 100000
namespace Go.Proofs.YtjjkikghfmnikaaGreatDoor
open Go.ChangeShapes Go.WideShapes Go.ChangeAt Go.RowKit
set_option maxHeartbeats 1000000 in
theorem eff_index : EffC 156 effINDEX true := by
  intro B g s v ea ec fa fc ca cc w hl hs
  have HS := Lib.hid hs
  have gb := g_bd hs.ok v
  unfold effINDEX
  obtain ⟨x, hx⟩ : ∃ x, s.g v = x := ⟨_, rfl⟩
  rw [hx] at gb
  simp only [hx]
  have cb := corr_bd gb.1 gb.2
  have HX := Lib.hid hx
  clear hs hx
  go_enter Tryz.func156, Tryz.ntmps156
  go_wp2_with (first
    | (go_at_call 152; refine (get_any B g s _ v ea ec fa fc ca cc x HX.out (by omega) _ HS.out).mono ?_; rintro e w1 ⟨rfl, ⟨vC, vO, vR, h1⟩, hb⟩; (have H1 := Lib.hid h1); (have X1 := Lib.hid hb); (have c8 : w1.cell? ⟨g, 8, none⟩ = some (.int .u16 s.r.Ix) := h1.b.cell 8 _ rfl); (have f8 := h1.b.free 8 _ rfl); clear h1 hb)
    | (go_at_call 28; refine (Correct_any _ (by omega) (by omega) _).mono ?_; rintro e w3 ⟨rfl, rfl⟩))
  go_end0
  exact ⟨rfl, ⟨_, _, _, H1.out.set 8 (by omega) _ _ s.cyc true rfl (ok_Ix H1.out.ok cb.1 cb.2)⟩, X1.out.setCell (p := ⟨g, 8, none⟩) H1.out.lo _⟩
set_option maxHeartbeats 1000000 in
theorem eff_xindex : EffC 102 effXINDEX true := by
  intro B g s v ea ec fa fc ca cc w hl hs
  have HS := Lib.hid hs
  clear hs
  go_enter Tryz.func102, Tryz.ntmps102
  go_wp2_with (go_at_call 156; refine (eff_index B g s v ea ec fa fc ca cc _ hl HS.out).mono ?_; rintro e w1 ⟨rfl, ⟨vC, vO, vR, h1⟩, hb⟩; (have H1 := Lib.hid h1); (have X1 := Lib.hid hb); (have c7 : w1.cell? ⟨g, 7, none⟩ = some (.bool s.r.Ex) := h1.b.cell 7 _ rfl); (have f7 := h1.b.free 7 _ rfl); clear h1 hb)
  go_end0
  exact ⟨rfl, ⟨_, _, _, H1.out.set 7 (by omega) (.bool true) _ s.cyc true rfl (ok_f H1.out.ok true _ _ _)⟩, X1.out.setCell (p := ⟨g, 7, none⟩) H1.out.lo _⟩
theorem St.len_rdO (s : St) : (s.rdO).len ≤ s.len + 1 := St.len_rd _ _ _
set_option maxHeartbeats 2000000 in
theorem eff_resume : EffC 91 effRESUME true := by
  intro B g s v ea ec fa fc ca cc w hl hs
  have HS := Lib.hid hs
  have OK := Lib.hid hs.ok
  have xb := valP_bd hs.ok.2 v 1 13
  have yb := valP_bd hs.ok.2 v 1 15
  have hl2 := St.len_rd s 1 13
  unfold effRESUME
  obtain ⟨x, hx⟩ : ∃ x, valP s.r v 1 13 = x := ⟨_, rfl⟩
  obtain ⟨y, hy⟩ : ∃ y, valP s.r v 1 15 = y := ⟨_, rfl⟩
  rw [hx] at xb
  rw [hy] at yb
  simp only [hx, hy]
  have HX := Lib.hid hx
  have HY : Hid (valP (s.rd 1 13).r v 1 15 = y) := hy
  have p13 : Hid (spotOk 1 13) := ⟨by omega, by omega, by omega, by decide⟩
  have p15 : Hid (spotOk 1 15) := ⟨by omega, by omega, by omega, by decide⟩
  have cx := corr_bd xb.1 xb.2
  have cy := corr_bd yb.1 yb.2
  clear hs hx hy
  go_enter Tryz.func91, Tryz.ntmps91
  go_wp2_with (first
    | (go_at_call_of 149 (Value.int IntKind.i64 13); refine (read_any B g s false v ea ec fa fc ca cc 1 13 x p13.out HX.out (by omega) _ HS.out).mono ?_; rintro e w1 ⟨rfl, h1, hb⟩; (have H1 := Lib.hid h1); (have X1 := Lib.hid hb); clear h1 hb)
    | (go_at_call_of 149 (Value.int IntKind.i64 15); refine (read_any B g (s.rd 1 13) true v ea ec fa fc ca cc 1 15 y p15.out HY.out (by omega) _ H1.out).mono ?_; rintro e w2 ⟨rfl, ⟨vC, vO, vR, h2⟩, hb⟩; (have H2 := Lib.hid h2); (have X2 := Lib.hid (X1.out.trans hb)); (have c3 : w2.cell? ⟨g, 3, none⟩ = some (.int .i64 s.r.Z) := h2.b.cell 3 _ rfl); (have f3 := h2.b.free 3 _ rfl); (have c10 : w2.cell? ⟨g, 10, none⟩ = some (.int .u16 s.r.B) := h2.b.cell 10 _ rfl); (have f10 := h2.b.free 10 _ rfl); (have c9 : w2.cell? ⟨g, 9, none⟩ = some (.bool s.r.Hd) := h2.b.cell 9 _ rfl); (have f9 := h2.b.free 9 _ rfl); (have c12 : w2.cell? ⟨g, 12, none⟩ = some (.bool s.r.Sv) := h2.b.cell 12 _ rfl); (have f12 := h2.b.free 12 _ rfl); clear h2 hb)
    | (go_at_call 28; refine (Correct_any _ (by omega) (by omega) _).mono ?_; rintro e w3 ⟨rfl, rfl⟩)
    | (go_at_call 150; refine (part_any _ 1 4096 (oCorr x % 4096) (by rw [Int.ediv_one]) (by omega) (by omega) (by omega) (by omega) (by omega) _).mono ?_; rintro e w3 ⟨rfl, rfl⟩))
  go_end0
  have m1 := ok_Z OK.out (z := oCorr x % 4096) (by omega) (by omega)
  have m2 := ok_B m1 cy.1 cy.2
  have m3 := ok_f m2 s.r.Ex true s.r.Ih s.r.Sv
  have m4 := ok_f m2 s.r.Ex true s.r.Ih false
  exact ⟨rfl, ⟨_, _, _, (((H2.out.set 3 (by omega) (.int .i64 (oCorr x % 4096)) _ s.cyc true rfl m1).set 10 (by omega) (.int .u16 (oCorr y)) _ s.cyc true rfl m2).set 9 (by omega) (.bool true) _ s.cyc true rfl m3).set 12 (by omega) (.bool false) _ s.cyc true rfl m4⟩, (((X2.out.setCell (p := ⟨g, 3, none⟩) H2.out.lo _).setCell (p := ⟨g, 10, none⟩) H2.out.lo _).setCell (p := ⟨g, 9, none⟩) H2.out.lo _).setCell (p := ⟨g, 12, none⟩) H2.out.lo _⟩
end Go.Proofs.YtjjkikghfmnikaaGreatDoor
