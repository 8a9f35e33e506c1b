/- Layer 5: the program's instructions that load a double, and the branches. -/
import Derived.Test.YtjjkikghfmnikaaGreatDoorQ26
set_option linter.unusedSimpArgs false
set_option linter.unusedVariables false
set_option maxRecDepth 100000
namespace Go.Proofs.YtjjkikghfmnikaaGreatDoor
open Go.ChangeShapes Go.WideShapes Go.ChangeAt Go.RowKit
theorem gA_bd {s : St} (h : s.r.ok) (v : Vw) : 0 ≤ s.gA v ∧ s.gA v ≤ 65535 := valP_bd h.2 v _ _
theorem corr_bd {x : Int} (h0 : 0 ≤ x) (h1 : x ≤ 65535) : 0 ≤ oCorr x ∧ oCorr x ≤ 32767 := by unfold oCorr; omega
theorem ok_AL {r : Rg} (h : r.ok) {a b : Int} (a0 : 0 ≤ a) (a1 : a ≤ 65535) (b0 : 0 ≤ b) (b1 : b ≤ 32767) : Rg.ok { r with A := a, L := b } := ok_L (ok_A h a0 a1) b0 b1
theorem St.len_rdA (s : St) : (s.rdA).len ≤ s.len + 1 := St.len_rd _ _ _
set_option maxHeartbeats 1000000 in
theorem eff_dca : EffC 100 effDCA true := by
  intro B g s v ea ec fa fc ca cc w hl hs
  have HS := Lib.hid hs
  have gb := g_bd hs.ok v
  have ab := gA_bd hs.ok v
  have hl2 := St.len_rdA s
  unfold effDCA
  obtain ⟨x, hx⟩ : ∃ x, s.g v = x := ⟨_, rfl⟩
  obtain ⟨y, hy⟩ : ∃ y, s.gA v = y := ⟨_, rfl⟩
  rw [hx] at gb
  rw [hy] at ab
  rw [hx, hy]
  have cb := corr_bd ab.1 ab.2
  have HX := Lib.hid hx
  have HY := Lib.hid hy
  have HX2 : Hid (valP (s.rdA).r v (s.rdA).ss (s.rdA).sa = x) := HX.out
  clear hs hx hy
  go_enter Tryz.func100, Tryz.ntmps100
  go_wp2_with (first
    | (go_at_call 155; refine (getAfter_any B g s _ v ea ec fa fc ca cc y HY.out (by omega) _ HS.out).mono ?_; rintro e w1 ⟨rfl, h1, hb⟩; (have H1 := Lib.hid h1); (have X1 := Lib.hid hb); clear h1 hb)
    | (go_at_call 152; refine (get_any B g s.rdA true v ea ec fa fc ca cc x HX2.out (by omega) _ H1.out).mono ?_; rintro e w2 ⟨rfl, ⟨vC, vO, vR, h2⟩, hb⟩; (have H2 := Lib.hid h2); (have X2 := Lib.hid (X1.out.trans hb)); (have c0 : w2.cell? ⟨g, 0, none⟩ = some (.int .u16 s.r.A) := h2.b.cell 0 _ rfl); (have f0 := h2.b.free 0 _ rfl); (have c1 : w2.cell? ⟨g, 1, none⟩ = some (.int .u16 s.r.L) := h2.b.cell 1 _ rfl); (have f1 := h2.b.free 1 _ rfl); clear h2 hb)
    | (go_at_call 28; refine (Correct_any _ (by omega) (by omega) _).mono ?_; rintro e w3 ⟨rfl, rfl⟩))
  go_end0
  exact ⟨rfl, ⟨_, _, _, (H2.out.set 0 (by omega) (.int .u16 x) _ s.cyc true rfl (ok_A H2.out.ok gb.1 gb.2)).set 1 (by omega) (.int .u16 (oCorr y)) _ s.cyc true rfl (ok_AL H2.out.ok gb.1 gb.2 cb.1 cb.2)⟩, (X2.out.setCell (p := ⟨g, 0, none⟩) H2.out.lo _).setCell (p := ⟨g, 1, none⟩) H2.out.lo _⟩
set_option maxHeartbeats 1000000 in
theorem eff_dcs : EffC 101 effDCS true := by
  intro B g s v ea ec fa fc ca cc w hl hs
  have HS := Lib.hid hs
  have gb := g_bd hs.ok v
  have ab := gA_bd hs.ok v
  have hl2 := St.len_rdA s
  unfold effDCS
  obtain ⟨x, hx⟩ : ∃ x, s.g v = x := ⟨_, rfl⟩
  obtain ⟨y, hy⟩ : ∃ y, s.gA v = y := ⟨_, rfl⟩
  rw [hx] at gb
  rw [hy] at ab
  rw [hx, hy]
  have cb := corr_bd ab.1 ab.2
  have nb : 0 ≤ oNg (oCorr y) ∧ oNg (oCorr y) ≤ 32767 := by unfold oNg; omega
  have na : 0 ≤ oNegA x ∧ oNegA x ≤ 65535 := by unfold oNegA; omega
  have HX := Lib.hid hx
  have HY := Lib.hid hy
  have HX2 : Hid (valP (s.rdA).r v (s.rdA).ss (s.rdA).sa = x) := HX.out
  clear hs hx hy
  go_enter Tryz.func101, Tryz.ntmps101
  go_wp2_with (first
    | (go_at_call 155; refine (getAfter_any B g s _ v ea ec fa fc ca cc y HY.out (by omega) _ HS.out).mono ?_; rintro e w1 ⟨rfl, h1, hb⟩; (have H1 := Lib.hid h1); (have X1 := Lib.hid hb); clear h1 hb)
    | (go_at_call 152; refine (get_any B g s.rdA true v ea ec fa fc ca cc x HX2.out (by omega) _ H1.out).mono ?_; rintro e w2 ⟨rfl, ⟨vC, vO, vR, h2⟩, hb⟩; (have H2 := Lib.hid h2); (have X2 := Lib.hid (X1.out.trans hb)); (have c0 : w2.cell? ⟨g, 0, none⟩ = some (.int .u16 s.r.A) := h2.b.cell 0 _ rfl); (have f0 := h2.b.free 0 _ rfl); (have c1 : w2.cell? ⟨g, 1, none⟩ = some (.int .u16 s.r.L) := h2.b.cell 1 _ rfl); (have f1 := h2.b.free 1 _ rfl); clear h2 hb)
    | (go_at_call 28; refine (Correct_any _ (by omega) (by omega) _).mono ?_; rintro e w3 ⟨rfl, rfl⟩)
    | (go_at_call 29; refine (NegAcc_any _ (by omega) (by omega) _).mono ?_; rintro e w3 ⟨rfl, rfl⟩)
    | (go_at_call 30; refine (Neg_any _ (by omega) (by omega) _).mono ?_; rintro e w3 ⟨rfl, rfl⟩))
  go_end0
  exact ⟨rfl, ⟨_, _, _, (H2.out.set 0 (by omega) (.int .u16 (oNegA x)) _ s.cyc true rfl (ok_A H2.out.ok na.1 na.2)).set 1 (by omega) (.int .u16 (oNg (oCorr y))) _ s.cyc true rfl (ok_AL H2.out.ok na.1 na.2 nb.1 nb.2)⟩, (X2.out.setCell (p := ⟨g, 0, none⟩) H2.out.lo _).setCell (p := ⟨g, 1, none⟩) H2.out.lo _⟩
set_option maxHeartbeats 1000000 in
theorem eff_bzf : EffC 93 (fun s v => s.branch (isBZF s.r.A)) false := by
  intro B g s v ea ec fa fc ca cc w hl hs
  have HS := Lib.hid hs
  obtain ⟨vC, vO, vR, h0⟩ := hs
  have c0 := h0.b.cell 0 _ rfl
  clear h0
  obtain ⟨y, hy⟩ : ∃ y, isBZF s.r.A = y := ⟨_, rfl⟩
  simp only [hy]
  have HY := Lib.hid hy
  unfold isBZF at hy
  by_cases e : s.r.A = 0
  · rw [e] at c0
    have hy2 : true = y := by rw [← hy, e]; rfl
    subst hy2
    clear e hy
    go_enter Tryz.func93, Tryz.ntmps93
    go_wp2_with (go_at_call 151; refine (branch_any B g s false v ea ec fa fc ca cc true _ HS.out).mono ?_; rintro e w1 ⟨rfl, h1, hb⟩)
    go_end0
    exact ⟨rfl, h1, hb⟩
  · have t0 : (s.r.A == 0) = false := by rw [beq_eq_false_iff_ne]; exact e
    clear e
    rw [t0, Bool.false_or] at hy
    go_enter Tryz.func93, Tryz.ntmps93
    go_wp2_with (go_at_call 151; refine (branch_any B g s false v ea ec fa fc ca cc y _ HS.out).mono ?_; rintro e w1 ⟨rfl, h1, hb⟩)
    go_end0
    exact ⟨rfl, h1, hb⟩
set_option maxHeartbeats 1000000 in
theorem eff_bzmf : EffC 94 (fun s v => s.branch (isBZMF s.r.A)) false := by
  intro B g s v ea ec fa fc ca cc w hl hs
  have HS := Lib.hid hs
  obtain ⟨vC, vO, vR, h0⟩ := hs
  have c0 := h0.b.cell 0 _ rfl
  clear h0
  obtain ⟨y, hy⟩ : ∃ y, isBZMF s.r.A = y := ⟨_, rfl⟩
  simp only [hy]
  have HY := Lib.hid hy
  unfold isBZMF at hy
  by_cases e : s.r.A = 0
  · rw [e] at c0
    have hy2 : true = y := by rw [← hy, e]; rfl
    subst hy2
    clear e hy
    go_enter Tryz.func94, Tryz.ntmps94
    go_wp2_with (go_at_call 151; refine (branch_any B g s false v ea ec fa fc ca cc true _ HS.out).mono ?_; rintro e w1 ⟨rfl, h1, hb⟩)
    go_end0
    exact ⟨rfl, h1, hb⟩
  · have t0 : (s.r.A == 0) = false := by rw [beq_eq_false_iff_ne]; exact e
    clear e
    rw [t0, Bool.false_or] at hy
    go_enter Tryz.func94, Tryz.ntmps94
    go_wp2_with (go_at_call 151; refine (branch_any B g s false v ea ec fa fc ca cc y _ HS.out).mono ?_; rintro e w1 ⟨rfl, h1, hb⟩)
    go_end0
    exact ⟨rfl, h1, hb⟩
set_option maxHeartbeats 1000000 in
theorem eff_write : EffC 105 (fun s v => s.out (oCorr s.r.A)) false := by
  intro B g s v ea ec fa fc ca cc w hl hs
  have HS := Lib.hid hs
  have hA := hs.ok.2.A
  have cb := corr_bd hA.1 hA.2
  clear hs
  go_enter Tryz.func105, Tryz.ntmps105
  go_wp2_with (first
    | (go_at_call 154; refine (word_any B g s false v ea ec fa fc ca cc _ HS.out).mono ?_; rintro e w1 ⟨rfl, rfl⟩)
    | (go_at_call 158; refine (output_any B g s false v ea ec fa fc ca cc _ cb.1 cb.2 (by omega) _ HS.out).mono ?_; rintro e w2 ⟨rfl, h1, hb⟩))
  go_end0
  exact ⟨rfl, h1, hb⟩
set_option maxHeartbeats 1000000 in
theorem eff_read : EffC 104 (fun s v => s.setA (oExt (chn s v))) false := by
  intro B g s v ea ec fa fc ca cc w hl hs
  have HS := Lib.hid hs
  have cb := chn_bd hs.ok v
  obtain ⟨x, hx⟩ : ∃ x, chn s v = x := ⟨_, rfl⟩
  simp only [hx]
  rw [hx] at cb
  have eb : 0 ≤ oExt x ∧ oExt x ≤ 65535 := by unfold oExt; split <;> omega
  have HX := Lib.hid hx
  clear hs hx
  go_enter Tryz.func104, Tryz.ntmps104
  go_wp2_with (first
    | (go_at_call 157; refine (input_any B g s false v ea ec fa fc ca cc x HX.out _ HS.out).mono ?_; rintro e w1 ⟨rfl, m, rfl⟩; (obtain ⟨vC, vO, vR, h1⟩ := HS.out.below (below_drewN (Below.refl w.heap.size w) m) (Nat.le_refl _)); (have H1 := Lib.hid h1); (have c0 := h1.b.cell 0 _ rfl); (have f0 := h1.b.free 0 _ rfl); clear h1)
    | (go_at_call 26; refine (Extend_any _ (by omega) (by omega) _).mono ?_; rintro e w3 ⟨rfl, rfl⟩))
  go_end0
  exact ⟨rfl, ⟨_, _, _, H1.out.set 0 (by omega) _ _ s.cyc false rfl (ok_A H1.out.ok eb.1 eb.2)⟩, (below_drewN (Below.refl B w) m).setCell (p := ⟨g, 0, none⟩) H1.out.lo _⟩
end Go.Proofs.YtjjkikghfmnikaaGreatDoor
