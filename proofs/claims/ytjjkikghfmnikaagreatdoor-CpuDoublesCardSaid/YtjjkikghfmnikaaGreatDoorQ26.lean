/- Layer 5: the program's instructions that change Z, the flags, or nothing. -/
import Derived.Test.YtjjkikghfmnikaaGreatDoorQ25
set_option linter.unusedSimpArgs false
set_option linter.unusedVariables false
set_option maxRecDepth 100000
namespace Go.Proofs.YtjjkikghfmnikaaGreatDoor
open Go.ChangeShapes Go.WideShapes Go.ChangeAt Go.RowKit
set_option maxHeartbeats 1000000 in
theorem eff_tcf : EffC 92 (fun s v => { s with r := { s.r with Z := s.k } }) false := by
  intro B g s v ea ec fa fc ca cc w hl hs
  obtain ⟨vC, vO, vR, h0⟩ := hs
  have HS := Lib.hid h0
  have c16 := h0.b.cell 16 _ rfl
  have c3 := h0.b.cell 3 _ rfl
  have f3 := h0.b.free 3 _ rfl
  clear h0
  go_enter Tryz.func92, Tryz.ntmps92
  go_wp2
  go_end0
  exact ⟨rfl, ⟨_, _, _, HS.out.set 3 (by omega) _ _ s.cyc false rfl (ok_Z HS.out.ok HS.out.kb.1 HS.out.kb.2)⟩, (Below.refl B w).setCell (p := ⟨g, 3, none⟩) HS.out.lo _⟩
set_option maxHeartbeats 1000000 in
theorem eff_extend : EffC 88 (fun s v => { s with r := { s.r with Ex := true } }) false := by
  intro B g s v ea ec fa fc ca cc w hl hs
  obtain ⟨vC, vO, vR, h0⟩ := hs
  have HS := Lib.hid h0
  have c7 := h0.b.cell 7 _ rfl
  have f7 := h0.b.free 7 _ rfl
  clear h0
  go_enter Tryz.func88, Tryz.ntmps88
  go_wp2
  go_end0
  exact ⟨rfl, ⟨_, _, _, HS.out.set 7 (by omega) _ _ s.cyc false rfl (ok_f HS.out.ok true s.r.Hd s.r.Ih s.r.Sv)⟩, (Below.refl B w).setCell (p := ⟨g, 7, none⟩) HS.out.lo _⟩
set_option maxHeartbeats 1000000 in
theorem eff_inhint : EffC 89 (fun s v => { s with r := { s.r with Ih := true } }) false := by
  intro B g s v ea ec fa fc ca cc w hl hs
  obtain ⟨vC, vO, vR, h0⟩ := hs
  have HS := Lib.hid h0
  have c11 := h0.b.cell 11 _ rfl
  have f11 := h0.b.free 11 _ rfl
  clear h0
  go_enter Tryz.func89, Tryz.ntmps89
  go_wp2
  go_end0
  exact ⟨rfl, ⟨_, _, _, HS.out.set 11 (by omega) _ _ s.cyc false rfl (ok_f HS.out.ok s.r.Ex s.r.Hd true s.r.Sv)⟩, (Below.refl B w).setCell (p := ⟨g, 11, none⟩) HS.out.lo _⟩
set_option maxHeartbeats 1000000 in
theorem eff_relint : EffC 90 (fun s v => { s with r := { s.r with Ih := false } }) false := by
  intro B g s v ea ec fa fc ca cc w hl hs
  obtain ⟨vC, vO, vR, h0⟩ := hs
  have HS := Lib.hid h0
  have c11 := h0.b.cell 11 _ rfl
  have f11 := h0.b.free 11 _ rfl
  clear h0
  go_enter Tryz.func90, Tryz.ntmps90
  go_wp2
  go_end0
  exact ⟨rfl, ⟨_, _, _, HS.out.set 11 (by omega) _ _ s.cyc false rfl (ok_f HS.out.ok s.r.Ex s.r.Hd false s.r.Sv)⟩, (Below.refl B w).setCell (p := ⟨g, 11, none⟩) HS.out.lo _⟩
theorem eff_edrupt : EffC 111 (fun s v => s) false := by
  intro B g s v ea ec fa fc ca cc w hl hs
  have HS := Lib.hid hs
  clear hs
  go_enter Tryz.func111, Tryz.ntmps111
  go_wp2
  go_end0
  exact ⟨rfl, HS.out, Below.refl _ _⟩
set_option maxHeartbeats 1000000 in
theorem eff_tc : EffC 95 (fun s v => effTC s) false := by
  intro B g s v ea ec fa fc ca cc w hl hs
  obtain ⟨vC, vO, vR, h0⟩ := hs
  have HS := Lib.hid h0
  have c16 := h0.b.cell 16 _ rfl
  have c2 := h0.b.cell 2 _ rfl
  have c3 := h0.b.cell 3 _ rfl
  have c9 := h0.b.cell 9 _ rfl
  have c10 := h0.b.cell 10 _ rfl
  have f2 := h0.b.free 2 _ rfl
  have f3 := h0.b.free 3 _ rfl
  have f9 := h0.b.free 9 _ rfl
  have f10 := h0.b.free 10 _ rfl
  have z0 : 0 ≤ s.r.Z := h0.ok.1.2.2.2.2.1
  have z1 : s.r.Z ≤ 4095 := h0.ok.1.2.2.2.2.2.1
  have wz : IntKind.u16.wrap s.r.Z = s.r.Z := IntWalk.u16_in _ (by omega)
  have OK := Lib.hid h0.ok
  clear h0
  have k1 := Lib.hid (ok_Z (ok_Q OK.out z0 (show s.r.Z ≤ 32767 by omega)) HS.out.kb.1 HS.out.kb.2)
  unfold effTC
  by_cases e : s.k = 2
  · have t0 : (s.k == 2) = true := by rw [beq_iff_eq]; exact e
    simp only [if_pos e]
    have hq := OK.out.1.2.1
    have hq0 := OK.out.2.Q
    have m1 := ok_B OK.out hq0.1 hq
    have m2 := ok_f m1 s.r.Ex true s.r.Ih s.r.Sv
    have m3 := ok_Q m2 z0 (show s.r.Z ≤ 32767 by omega)
    have m4 := ok_Z m3 HS.out.kb.1 HS.out.kb.2
    have HF := Lib.hid ((((HS.out.set 10 (by omega) (.int .u16 s.r.Q) _ s.cyc false rfl m1).set 9 (by omega) (.bool true) _ s.cyc false rfl m2).set 2 (by omega) (.int .u16 s.r.Z) _ s.cyc false rfl m3).set 3 (by omega) (.int .i64 s.k) _ s.cyc false rfl m4)
    clear m1 m2 m3 m4 e hq hq0
    go_enter Tryz.func95, Tryz.ntmps95
    go_wp2
    go_end0
    exact ⟨rfl, ⟨_, _, _, HF.out⟩, ((((Below.refl B w).setCell (p := ⟨g, 10, none⟩) HS.out.lo _).setCell (p := ⟨g, 9, none⟩) HS.out.lo _).setCell (p := ⟨g, 2, none⟩) HS.out.lo _).setCell (p := ⟨g, 3, none⟩) HS.out.lo _⟩
  · have t0 : (s.k == 2) = false := by rw [beq_eq_false_iff_ne]; exact e
    simp only [if_neg e]
    clear e
    go_enter Tryz.func95, Tryz.ntmps95
    go_wp2
    go_end0
    exact ⟨rfl, ⟨_, _, _, (HS.out.set 2 (by omega) (.int .u16 s.r.Z) _ s.cyc false rfl (ok_Q OK.out z0 (show s.r.Z ≤ 32767 by omega))).set 3 (by omega) (.int .i64 s.k) _ s.cyc false rfl k1.out⟩, ((Below.refl B w).setCell (p := ⟨g, 2, none⟩) HS.out.lo _).setCell (p := ⟨g, 3, none⟩) HS.out.lo _⟩
end Go.Proofs.YtjjkikghfmnikaaGreatDoor
