/- Layer 5: the program's instructions, one contract each. -/
import Derived.Test.YtjjkikghfmnikaaGreatDoorQ24
import Derived.Test.YtjjkikghfmnikaaGreatDoorQ18
import Derived.Deep.RegionLaw
set_option linter.unusedSimpArgs false
set_option linter.unusedVariables false
set_option maxRecDepth 100000
namespace Go.Proofs.YtjjkikghfmnikaaGreatDoor
open Go.ChangeShapes Go.WideShapes Go.ChangeAt Go.RowKit
theorem from_drewB {B : Nat} {a w : World} (h : Below B a.drew w) : Below B a w := ⟨h.os, h.tape, h.output, h.size, h.block⟩
theorem g_bd {s : St} (h : s.r.ok) (v : Vw) : 0 ≤ s.g v ∧ s.g v ≤ 65535 := valP_bd h.2 v _ _
theorem HAt.ok {w : World} {B g : Nat} {s : St} {hr : Bool} {v : Vw} {ea : Option Addr} {ec : Nat} {fa : Option Addr} {fc : Nat} {ca : Option Addr} {cc : Nat} (h : HAt w B g s hr v ea ec fa fc ca cc) : s.r.ok := by
  obtain ⟨_, _, _, h0⟩ := h; exact h0.ok
theorem ok_dim {x : Int} (h0 : 0 ≤ x) (h1 : x ≤ 65535) : 0 ≤ oDim x ∧ oDim x ≤ 65535 := by unfold oDim; repeat (first | omega | split)
theorem ok_class (x : Int) : 0 ≤ oClass x ∧ oClass x ≤ 3 := by unfold oClass; repeat (first | omega | split)
set_option maxHeartbeats 1000000 in
theorem eff_ca : EffC 96 (fun s v => (s.rdO).setA (s.g v)) true := by
  intro B g s v ea ec fa fc ca cc w hl hs
  have HS := Lib.hid hs
  have gb := g_bd hs.ok v
  have rb := hs.ok.2.A
  have lb := hs.ok.2.L
  have l7 : s.r.L ≤ 32767 := hs.ok.1.1
  obtain ⟨x, hx⟩ : ∃ x, s.g v = x := ⟨_, rfl⟩
  rw [hx] at gb
  simp only [effMASK, effMSU, effDV, effMP, hx]
  have yb : 0 ≤ x ∧ x ≤ 65535 := by omega
  have HX := Lib.hid hx
  clear hs hx
  go_enter Tryz.func96, Tryz.ntmps96
  go_wp2_with (first
    | (go_at_call 152; refine (get_any B g s _ v ea ec fa fc ca cc x HX.out (by omega) _ HS.out).mono ?_; rintro e w1 ⟨rfl, ⟨vC, vO, vR, h1⟩, hb⟩; (have H1 := Lib.hid h1); (have X1 := Lib.hid hb); (have c0 : w1.cell? ⟨g, 0, none⟩ = some (.int .u16 s.r.A) := h1.b.cell 0 _ rfl); (have f0 := h1.b.free 0 _ rfl); clear h1 hb))
  go_end0
  exact ⟨rfl, ⟨_, _, _, H1.out.set 0 (by omega) _ _ s.cyc true rfl (ok_A H1.out.ok yb.1 yb.2)⟩, X1.out.setCell (p := ⟨g, 0, none⟩) H1.out.lo _⟩
set_option maxHeartbeats 1000000 in
theorem eff_cs : EffC 97 (fun s v => (s.rdO).setA (oNegA (s.g v))) true := by
  intro B g s v ea ec fa fc ca cc w hl hs
  have HS := Lib.hid hs
  have gb := g_bd hs.ok v
  have rb := hs.ok.2.A
  have lb := hs.ok.2.L
  have l7 : s.r.L ≤ 32767 := hs.ok.1.1
  obtain ⟨x, hx⟩ : ∃ x, s.g v = x := ⟨_, rfl⟩
  rw [hx] at gb
  simp only [effMASK, effMSU, effDV, effMP, hx]
  have yb : 0 ≤ oNegA x ∧ oNegA x ≤ 65535 := by unfold oNegA; omega
  have HX := Lib.hid hx
  clear hs hx
  go_enter Tryz.func97, Tryz.ntmps97
  go_wp2_with (first
    | (go_at_call 152; refine (get_any B g s _ v ea ec fa fc ca cc x HX.out (by omega) _ HS.out).mono ?_; rintro e w1 ⟨rfl, ⟨vC, vO, vR, h1⟩, hb⟩; (have H1 := Lib.hid h1); (have X1 := Lib.hid hb); (have c0 : w1.cell? ⟨g, 0, none⟩ = some (.int .u16 s.r.A) := h1.b.cell 0 _ rfl); (have f0 := h1.b.free 0 _ rfl); clear h1 hb)
    | (go_at_call 29; refine (NegAcc_any _ (by omega) (by omega) _).mono ?_; rintro e w2 ⟨rfl, rfl⟩))
  go_end0
  exact ⟨rfl, ⟨_, _, _, H1.out.set 0 (by omega) _ _ s.cyc true rfl (ok_A H1.out.ok yb.1 yb.2)⟩, X1.out.setCell (p := ⟨g, 0, none⟩) H1.out.lo _⟩
set_option maxHeartbeats 1000000 in
theorem eff_ad : EffC 98 (fun s v => (s.rdO).setA (oAddA s.r.A (s.g v))) true := by
  intro B g s v ea ec fa fc ca cc w hl hs
  have HS := Lib.hid hs
  have gb := g_bd hs.ok v
  have rb := hs.ok.2.A
  have lb := hs.ok.2.L
  have l7 : s.r.L ≤ 32767 := hs.ok.1.1
  obtain ⟨x, hx⟩ : ∃ x, s.g v = x := ⟨_, rfl⟩
  rw [hx] at gb
  simp only [effMASK, effMSU, effDV, effMP, hx]
  have yb : 0 ≤ oAddA s.r.A x ∧ oAddA s.r.A x ≤ 65535 := by unfold oAddA; split <;> omega
  have HX := Lib.hid hx
  clear hs hx
  go_enter Tryz.func98, Tryz.ntmps98
  have HD := Lib.hid (HS.out.below (Below.refl _ _).drew (Nat.le_refl _))
  obtain ⟨vC0, vO0, vR0, h0⟩ := HS.out
  have q0 : w.drew.cell? ⟨g, 0, none⟩ = some (.int .u16 s.r.A) := h0.b.cell 0 _ rfl
  clear h0
  go_upto_region 0 with (fail)
  go_region_law (first
    | (go_simp; go_at_call 152; refine (get_any B g s _ v ea ec fa fc ca cc x HX.out (by omega) _ HD.out).mono ?_; rintro e w1 ⟨rfl, ⟨vC, vO, vR, h1⟩, hb⟩; (have H1 := Lib.hid h1); (have X1 := Lib.hid hb); (have c0 : w1.cell? ⟨g, 0, none⟩ = some (.int .u16 s.r.A) := h1.b.cell 0 _ rfl); (have f0 := h1.b.free 0 _ rfl); clear h1 hb)
    | (go_simp; go_at_call 153; refine (AddAcc_any _ (by omega) (by omega) _ (by omega) (by omega) w1).mono ?_; rintro e w2 ⟨rfl, rfl⟩)
    | fail)
  all_goals
    go_wp2
    go_end0
    exact ⟨rfl, ⟨_, _, _, H1.out.set 0 (by omega) _ _ s.cyc true rfl (ok_A H1.out.ok yb.1 yb.2)⟩, (from_drewB X1.out).setCell (p := ⟨g, 0, none⟩) H1.out.lo _⟩
set_option maxHeartbeats 1000000 in
theorem eff_su : EffC 173 (fun s v => (s.rdO).setA (oAddA s.r.A (oNegA (s.g v)))) true := by
  intro B g s v ea ec fa fc ca cc w hl hs
  have HS := Lib.hid hs
  have gb := g_bd hs.ok v
  have rb := hs.ok.2.A
  have lb := hs.ok.2.L
  have l7 : s.r.L ≤ 32767 := hs.ok.1.1
  obtain ⟨x, hx⟩ : ∃ x, s.g v = x := ⟨_, rfl⟩
  rw [hx] at gb
  simp only [effMASK, effMSU, effDV, effMP, hx]
  have yb : 0 ≤ oAddA s.r.A (oNegA x) ∧ oAddA s.r.A (oNegA x) ≤ 65535 := by unfold oAddA oNegA; split <;> omega
  have HX := Lib.hid hx
  clear hs hx
  go_enter Tryz.func173, Tryz.ntmps173
  have HD := Lib.hid (HS.out.below (Below.refl _ _).drew (Nat.le_refl _))
  obtain ⟨vC0, vO0, vR0, h0⟩ := HS.out
  have q0 : w.drew.cell? ⟨g, 0, none⟩ = some (.int .u16 s.r.A) := h0.b.cell 0 _ rfl
  clear h0
  go_upto_region 0 with (fail)
  go_region_law (first
    | (go_simp; go_at_call 152; refine (get_any B g s _ v ea ec fa fc ca cc x HX.out (by omega) _ HD.out).mono ?_; rintro e w1 ⟨rfl, ⟨vC, vO, vR, h1⟩, hb⟩; (have H1 := Lib.hid h1); (have X1 := Lib.hid hb); (have c0 : w1.cell? ⟨g, 0, none⟩ = some (.int .u16 s.r.A) := h1.b.cell 0 _ rfl); (have f0 := h1.b.free 0 _ rfl); clear h1 hb)
    | (go_simp; go_at_call 29; refine (NegAcc_any _ (by omega) (by omega) w1).mono ?_; rintro e w2 ⟨rfl, rfl⟩)
    | (go_simp; go_at_call 153; refine (AddAcc_any _ (by omega) (by omega) _ (by omega) (by omega) w1).mono ?_; rintro e w2 ⟨rfl, rfl⟩)
    | fail)
  all_goals
    go_wp2
    go_end0
    exact ⟨rfl, ⟨_, _, _, H1.out.set 0 (by omega) _ _ s.cyc true rfl (ok_A H1.out.ok yb.1 yb.2)⟩, (from_drewB X1.out).setCell (p := ⟨g, 0, none⟩) H1.out.lo _⟩
set_option maxHeartbeats 1000000 in
theorem eff_ccs : EffC 160 effCCS true := by
  intro B g s v ea ec fa fc ca cc w hl hs
  have HS := Lib.hid hs
  have gb := g_bd hs.ok v
  unfold effCCS
  obtain ⟨x, hx⟩ : ∃ x, s.g v = x := ⟨_, rfl⟩
  rw [hx] at gb
  simp only [hx]
  have db := ok_dim gb.1 gb.2
  have cb := ok_class x
  have HX := Lib.hid hx
  clear hs hx
  go_enter Tryz.func160, Tryz.ntmps160
  go_wp2_with (first
    | (go_at_call 152; refine (get_any B g s _ v ea ec fa fc ca cc x HX.out (by omega) _ HS.out).mono ?_; rintro e w1 ⟨rfl, ⟨vC, vO, vR, h1⟩, hb⟩; (have H1 := Lib.hid h1); (have X1 := Lib.hid hb); (have c0 : w1.cell? ⟨g, 0, none⟩ = some (.int .u16 s.r.A) := h1.b.cell 0 _ rfl); (have f0 := h1.b.free 0 _ rfl); clear h1 hb)
    | (go_at_call 185; refine (Diminish_any _ (by omega) (by omega) _).mono ?_; rintro e w2 ⟨rfl, rfl⟩)
    | (go_at_call 187; refine (Class_any _ (by omega) (by omega) _).mono ?_; rintro e w3 ⟨rfl, rfl⟩)
    | (go_at_call 186; refine (mskip_any B g ((s.rdO).setA (oDim x)) true v ea ec fa fc ca cc (oClass x) cb.1 cb.2 _ ⟨_, _, _, H1.out.set 0 (by omega) _ _ s.cyc true rfl (ok_A H1.out.ok db.1 db.2)⟩).mono ?_; rintro e w4 ⟨rfl, h4, hb⟩))
  go_end0
  exact ⟨rfl, h4, (X1.out.setCell (p := ⟨g, 0, none⟩) H1.out.lo _).trans hb⟩
end Go.Proofs.YtjjkikghfmnikaaGreatDoor
